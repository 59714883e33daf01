import PyProof.Rows.All
import Wide.All
import OpenK.AllK
import Wide.FinOn
import HandS.ForMost
import HandS.IsInst
import HandS.TupAny
import HandS.TupMul
import HandS.Lambda
import HandS.Gcd
import KE.GoesNew
import PyProof.ReprRoads
import PyProof.ConsumeWalk
import PyProof.Rows.RegStrFacts
import HandS.Dict
import KE.DataMinMax
import KE.DatumOrd
import PyProof.Claim2Refuses
import HandS.SortKw
import HandS.Style
import HandS.Deep
import HandS.TupLen
import KE.KDictKeyed
import HandS.Iter
import KE.KDictDisplayH
import PySem.Challenge.RW_evennets_k14_whole_tops_of_even_depths
set_option Elab.async false
set_option linter.all false
set_option maxRecDepth 100000
set_option maxHeartbeats 4000000
/-! ### dicts whose keys are nested tuples of whole numbers -/
namespace L2
open PySem PySem.Spec PyProof.Rows
mutual
def plainK : NestedKey → Bool
  | .none => true
  | .num _ => true
  | .text _ => false
  | .tup ks => plainA ks
def plainA : List NestedKey → Bool
  | [] => true
  | k :: ks => plainK k && plainA ks
end
mutual
theorem hash_plain (w w' : World) : ∀ k : NestedKey, plainK k = true → k.hash w = k.hash w'
  | .none, _ => rfl
  | .num _, _ => rfl
  | .text _, h => by simp [plainK] at h
  | .tup ks, h => by
    rw [plainK] at h
    simp only [NestedKey.hash]
    rw [hashes_plain w w' ks h]
theorem hashes_plain (w w' : World) : ∀ ks : List NestedKey, plainA ks = true → NestedKey.hashes w ks = NestedKey.hashes w' ks
  | [], _ => rfl
  | k :: ks, h => by
    rw [plainA, Bool.and_eq_true] at h
    simp only [NestedKey.hashes]
    rw [hash_plain w w' k h.1, hashes_plain w w' ks h.2]
end
mutual
inductive KyV (H : Hp) : NestedKey → V → Prop
  | non : KyV H .none .non
  | int (i : Int) : KyV H (.num i) (.int i)
  | tup {a : Addr} {vs : List V} {ks : List NestedKey} : H a = some (.tup vs) → KyA H ks vs → KyV H (.tup ks) (.ref a)
inductive KyA (H : Hp) : List NestedKey → List V → Prop
  | nil : KyA H [] []
  | cons {k : NestedKey} {v : V} {ks : List NestedKey} {vs : List V} : KyV H k v → KyA H ks vs → KyA H (k :: ks) (v :: vs)
end
mutual
theorem KyV.is {P : Program} {w : World} {H : Hp} {h : Heap} (ok : HOk P w H h) : ∀ {k : NestedKey} {v : V} {u : Value}, KyV H k v → RelV v u → NestedIs h k u
  | _, _, _, .non, r => by cases (show _ = _ from r); exact .none
  | _, _, _, .int i, r => by obtain ⟨t, e⟩ := r; subst e; exact .int i t
  | _, _, _, .tup (vs := vs) e q, r => by
    cases (show _ = _ from r)
    obtain ⟨_, its, rv, o, h1, h2, n, h3⟩ := (show ObjOk P w H h _ (.tup vs) from ok _ _ e)
    exact .tup h1 h2 h3 (by simpa using KyA.is ok q rv)
theorem KyA.is {P : Program} {w : World} {H : Hp} {h : Heap} (ok : HOk P w H h) : ∀ {ks : List NestedKey} {vs : List V} {us : List Value}, KyA H ks vs → Vals vs us → NestedAll h ks us
  | _, _, _, .nil, r => by cases r; exact .nil
  | _, _, _, .cons q t, r => by
    cases r with
    | cons r1 r2 => exact .cons (KyV.is ok q r1) (KyA.is ok t r2)
end
abbrev NE := NestedKey × Addr × V
def KN : List NE → List (NestedKey × Addr × Value) → Prop := Paired fun a b => a.1 = b.1 ∧ a.2.1 = b.2.1 ∧ RelV a.2.2 b.2.2
def goodK (k : NestedKey) : Prop := plainK k = true ∧ k.depth ≤ 8
def rawP (p : Addr) (o : Obj) (kvs : List NE) (h : Heap) : Prop := kvs.length ≤ sizeLine ∧ (p == sysModules) = false ∧ (∀ x ∈ kvs, goodK x.1) ∧ ∃ xs : List (NestedKey × Addr × Value), KN kvs xs ∧
  ∃ es ep, h.get? p = some o ∧ o.ExactDict ∧ o.data = .dict es ep ∧ (∀ P w, es.toList = xs.map (entryOfKey (nestedKind P w))) ∧ (xs.map (·.1)).Nodup
def rawN (p : Addr) (o : Obj) (kvs : List NE) : HO := .ext (rawP p o kvs)
/-- the empty dict's object -/
def nObj : Obj := { cls := .type "dict", data := .dict #[] }
def atN (kvs : List NE) (k : NestedKey) : Option V := (kvs.find? fun x => decide (x.1 = k)).map (·.2.2)
def putN (kvs : List NE) (k : NestedKey) (b : Addr) (v : V) : List NE :=
  if (kvs.any fun x => decide (x.1 = k)) = true then kvs.map (fun x => if x.1 = k then (x.1, x.2.1, v) else x) else kvs ++ [(k, b, v)]
theorem putN_le (kvs : List NE) (k : NestedKey) (b : Addr) (v : V) : (putN kvs k b v).length ≤ kvs.length + 1 := by
  unfold putN
  split
  · rw [List.length_map]; omega
  · rw [List.length_append, List.length_cons, List.length_nil]; omega
theorem putN_mem {kvs : List NE} {k : NestedKey} {b : Addr} {v : V} {x : NE} (h : x ∈ putN kvs k b v) : (x.1 = k ∧ (x.2.1 = b ∨ ∃ y ∈ kvs, y.1 = k ∧ y.2.1 = x.2.1)) ∨ x ∈ kvs := by
  unfold putN at h
  split at h
  · obtain ⟨y, hy, e⟩ := List.mem_map.mp h
    by_cases q : y.1 = k
    · rw [if_pos q] at e; subst e; exact .inl ⟨q, .inr ⟨y, hy, q, rfl⟩⟩
    · rw [if_neg q] at e; subst e; exact .inr hy
  · rcases List.mem_append.mp h with q | q
    · exact .inr q
    · rcases List.mem_singleton.mp q with rfl; exact .inl ⟨rfl, .inl rfl⟩
theorem KN.length {kvs : List NE} {xs : List (NestedKey × Addr × Value)} (r : KN kvs xs) : kvs.length = xs.length := Paired.length r
theorem KN.isAny (k : NestedKey) : ∀ {kvs : List NE} {xs : List (NestedKey × Addr × Value)}, KN kvs xs → (kvs.any fun x => decide (x.1 = k)) = (atKey xs k).isSome
  | _, _, .nil => rfl
  | _, _, .cons (a := a) (b := b) (l₂ := xs) h t => by
    rw [List.any_cons, KN.isAny k t, h.1]
    by_cases e : b.1 = k
    · simp [atKey, e]
    · simp [atKey, e]
theorem KN.val (k : NestedKey) : ∀ {kvs : List NE} {xs : List (NestedKey × Addr × Value)}, KN kvs xs → RelO (atN kvs k) ((atKey xs k).map (·.2))
  | _, _, .nil => True.intro
  | _, _, .cons (a := a) (b := b) (l₁ := l1) (l₂ := l2) h t => by
    have ih := KN.val k t
    by_cases e : b.1 = k
    · have e1 : atN (a :: l1) k = some a.2.2 := by simp [atN, List.find?_cons, h.1, e]
      have e2 : atKey (b :: l2) k = some b.2 := by simp [atKey, List.find?_cons, e]
      rw [e1, e2]; exact h.2.2
    · have e1 : atN (a :: l1) k = atN l1 k := by simp [atN, List.find?_cons, h.1, e]
      have e2 : atKey (b :: l2) k = atKey l2 k := by simp [atKey, List.find?_cons, e]
      rw [e1, e2]; exact ih
theorem KN.repl (k : NestedKey) {v : V} {u : Value} (ru : RelV v u) : ∀ {kvs : List NE} {xs : List (NestedKey × Addr × Value)}, KN kvs xs → KN (kvs.map fun x => if x.1 = k then (x.1, x.2.1, v) else x) (xs.map (putAt k u))
  | _, _, .nil => .nil
  | _, _, .cons (a := a) (b := b) h t => by
    rw [List.map_cons, List.map_cons]
    refine .cons ?_ (KN.repl k ru t)
    unfold putAt
    by_cases e : b.1 = k
    · rw [if_pos (h.1.trans e), if_pos e]; exact ⟨h.1, h.2.1, ru⟩
    · rw [if_neg (fun z => e (h.1.symm.trans z)), if_neg e]; exact h
theorem KN.put {kvs : List NE} {xs : List (NestedKey × Addr × Value)} (r : KN kvs xs) (k : NestedKey) (b : Addr) {v : V} {u : Value} (ru : RelV v u) : KN (putN kvs k b v) (storedH xs k b u) := by
  unfold putN storedH
  rw [r.isAny k]
  split
  · exact r.repl k ru
  · exact Paired.snoc r ⟨rfl, rfl, ru⟩
theorem KN.keys : ∀ {kvs : List NE} {xs : List (NestedKey × Addr × Value)}, KN kvs xs → xs.map (·.1) = kvs.map (·.1)
  | _, _, .nil => rfl
  | _, _, .cons h t => by rw [List.map_cons, List.map_cons, h.1, KN.keys t]
theorem KN.at : ∀ {kvs : List NE} {xs : List (NestedKey × Addr × Value)} {i : Nat} {y : NE}, KN kvs xs → kvs[i]? = some y → ∃ b, xs[i]? = some b ∧ y.1 = b.1 ∧ y.2.1 = b.2.1 ∧ RelV y.2.2 b.2.2
  | _, _, _, _, .nil, h => by simp at h
  | _, _, 0, _, .cons h _, e => by simp at e; subst e; exact ⟨_, rfl, h⟩
  | _, _, i + 1, _, .cons _ t, e => by
    obtain ⟨b, h1, h2⟩ := KN.at (i := i) t (by simpa using e)
    exact ⟨b, by simpa using h1, h2⟩
theorem KN.mem {Q : NestedKey → Addr → Prop} : ∀ {kvs : List NE} {xs : List (NestedKey × Addr × Value)}, KN kvs xs → (∀ x ∈ kvs, Q x.1 x.2.1) → ∀ x ∈ xs, Q x.1 x.2.1
  | _, _, .nil, _, x, hx => by cases hx
  | _, _, .cons h t, q, x, hx => by
    rcases List.mem_cons.mp hx with e | e
    · subst e; have := q _ (List.mem_cons_self ..); rw [h.1, h.2.1] at this; exact this
    · exact KN.mem t (fun y hy => q y (by simp [hy])) x e
/-- the keys stand where they are told to -/
def KeysN (H : Hp) (kvs : List NE) : Prop := ∀ x ∈ kvs, KyV H x.1 (.ref x.2.1)
section
variable {P : Program} {w : World} {H : Hp} {h : Heap} {a : Addr} {o : Obj} {kvs : List NE}
theorem rawP_stay {h1 h2 : Heap} (x : rawP a o kvs h1) (k : ∀ o, h1.get? a = some o → h2.get? a = some o) : rawP a o kvs h2 := by
  obtain ⟨z, y, g, xs, r, es, ep, e, c⟩ := x
  exact ⟨z, y, g, xs, r, es, ep, k _ e, c⟩
theorem rawP_obj (x : rawP a o kvs h) : ∃ o, h.get? a = some o := by
  obtain ⟨z, y, g, xs, r, es, ep, e, c⟩ := x
  exact ⟨o, e⟩
theorem ok_rawN (x : rawP a o kvs h) : ObjOk P w H h a (rawN a o kvs) := ⟨x, rawP_obj x, fun _ _ x k => rawP_stay x k⟩
theorem n_is (ok : HOk P w H h) (e : H a = some (rawN a o kvs)) : rawP a o kvs h := (show ObjOk P w H h a (rawN a o kvs) from ok a _ e).1
theorem n_of (ok : HOk P w H h) (e : H a = some (rawN a o kvs)) (hk : KeysN H kvs) : kvs.length ≤ sizeLine ∧ (a == sysModules) = false ∧ (∀ x ∈ kvs, goodK x.1) ∧ ∃ xs, KN kvs xs ∧ h.DictOfH (nestedKind P w) a xs := by
  obtain ⟨z, y, g, xs, r, es, ep, h1, h2, h3, h4, h5⟩ := n_is ok e
  refine ⟨z, y, g, xs, r, o, es, ep, h1, h2, h3, h4 P w, fun x hx => ?_, h5⟩
  exact KN.mem (Q := fun k b => (nestedKind P w).is h k b) r (fun x hx => ⟨KyV.is ok (hk x hx) rfl, (g x hx).2⟩) x hx
theorem n_raw {xs : List (NestedKey × Addr × Value)} (z : kvs.length ≤ sizeLine) (y : (a == sysModules) = false) (g : ∀ x ∈ kvs, goodK x.1) (r : KN kvs xs) (d : h.DictOfH (nestedKind P w) a xs) : ∃ o, rawP a o kvs h := by
  obtain ⟨o, es, ep, h1, h2, h3, h4, _, h5⟩ := d
  refine ⟨o, z, y, g, xs, r, es, ep, h1, h2, h3, fun P' w' => ?_, h5⟩
  rw [h4]
  refine List.map_congr_left fun x hx => ?_
  have gx := KN.mem (Q := fun k _ => goodK k) r (fun x hx => g x hx) x hx
  unfold entryOfKey
  show DictEntry.mk (x.1.hash w) _ _ = DictEntry.mk (x.1.hash w') _ _
  rw [hash_plain w w' x.1 gx.1]
/-- the entries, one by one -/
theorem n_ents (P : Program) (w : World) (x : rawP a o kvs h) : h.get? a = some o ∧ o.ExactDict ∧ (a == sysModules) = false ∧ kvs.length ≤ sizeLine ∧ ∃ es ep, o.data = .dict es ep ∧ es.size = kvs.length ∧ ∀ (i : Nat) (y : NE), kvs[i]? = some y → ∃ en, es[i]? = some en ∧ en.key = .ref y.2.1 ∧ RelV y.2.2 en.val := by
  obtain ⟨z, y, g, xs, r, es, ep, h1, h2, h3, h4, h5⟩ := x
  have he := h4 P w
  refine ⟨h1, h2, y, z, es, ep, h3, by rw [size_of_entries he, ← r.length], fun i q hq => ?_⟩
  obtain ⟨b, hb, e1, e2, e3⟩ := KN.at r hq
  have hen := entry_at he i
  rw [hb] at hen
  exact ⟨_, hen, by show Value.ref b.2.1 = _; rw [e2], e3⟩
end
section
variable {X : Cx} {pins : List (Addr × Obj)} {σ : St} {H : Hp} {s : Shared} {a b : Addr} {k : NestedKey} {v d : V} {u r : Value} {o : Obj} {kvs : List NE} {A : Around} {E : Value → Shared → Prop}
theorem room_in1 (hu : A.units + 64 < cLine) : (nestedKind X.prog X.w).room A.in1 := by
  show A.units + 1 + 8 < cLine; omega
theorem n_key (I : Inv X pins σ H s) (q : KyV H k (.ref b)) (g : goodK k) : (nestedKind X.prog X.w).is s.heap k b := ⟨KyV.is I.hok q rfl, g.2⟩
/-- d[k] = v -/
theorem n_setItem {Q : Unit → Shared → Prop} (hu : A.units + 64 < cLine) (I : Inv X pins σ H s) (e : H a = some (rawN a o kvs)) (hk : KeysN H kvs) (q : KyV H k (.ref b)) (g : goodK k) (hl : kvs.length < sizeLine) (rv : RelV v r)
    (h : ∀ o' s', Inv X pins σ (upd H a (rawN a o' (putN kvs k b v))) s' → Q () s') : wpAny (model X.prog X.w) A (setItem (.ref a) (.ref b) r) Q E s := by
  obtain ⟨z, hd, gs, xs, rel, dd⟩ := n_of I.hok e hk
  refine wpAny_setItem_heap (hsz := by rw [← rel.length]; exact z) (room_in1 hu) (n_key I q g) dd fun h' dd' hs => ?_
  have hq : ∃ q, h'.get? a = some q := let ⟨q, _, _, hq, _⟩ := dd'; ⟨q, hq⟩
  obtain ⟨o', hr⟩ := n_raw (by have := putN_le kvs k b v; omega) hd (fun x hx => by
    rcases putN_mem hx with ⟨e, _⟩ | hx
    · rw [e]; exact g
    · exact gs x hx) (rel.put k b rv) dd'
  exact h o' _ (d_write I (by rw [e]; exact True.intro) hs hq (ok_rawN hr))
/-- d[k], there -/
theorem n_getItem {Q : Value → Shared → Prop} (hu : A.units + 64 < cLine) (I : Inv X pins σ H s) (e : H a = some (rawN a o kvs)) (hk : KeysN H kvs) (q : KyV H k (.ref b)) (g : goodK k) (l : atN kvs k = some v) (h : ∀ w' s', Inv X pins σ H s' → RelV v w' → Q w' s') :
    wpAny (model X.prog X.w) A (getItem (.ref a) (.ref b)) Q E s := by
  obtain ⟨z, hd, gs, xs, rel, dd⟩ := n_of I.hok e hk
  have rv := rel.val k
  rw [l] at rv
  obtain ⟨w', hw, rw'⟩ := RelO.some_of (v := v) (o := (atKey xs k).map (·.2)) rv
  obtain ⟨p, hp, hp2⟩ := Option.map_eq_some_iff.mp hw
  refine wpAny_getItem_heap (room_in1 hu) (n_key I q g) dd hp ?_
  rw [hp2]
  exact h w' _ (I.tok _) rw'
theorem n_get2 {Q : Value → Shared → Prop} (hu : A.units + 64 < cLine) (I : Inv X pins σ H s) (e : H a = some (rawN a o kvs)) (hk : KeysN H kvs) (q : KyV H k (.ref b)) (g : goodK k) (rd : RelV d r) (h : ∀ w' s', Inv X pins σ H s' → RelV ((atN kvs k).getD d) w' → Q w' s') :
    wpAny (model X.prog X.w) A (call (.builtin "dict.get") [.ref a, .ref b, r]) Q E s := by
  obtain ⟨z, hd, gs, xs, rel, dd⟩ := n_of I.hok e hk
  refine call_meetsIn PySem.F.slot_dict_get dd.typeIs PySem.F.entry_dict_get (PySem.F.args_dict_get_3 _ _ _) (meetsH_dict_get_default (nestedKind X.prog X.w) a b hd r) ⟨room_in1 hu, k, xs, n_key I q g, dd, h _ _ (I.tok _) ?_⟩
  exact (rel.val k).getD rd
theorem n_in {Q : Value → Shared → Prop} (hu : A.units + 64 < cLine) (I : Inv X pins σ H s) (e : H a = some (rawN a o kvs)) (hk : KeysN H kvs) (q : KyV H k (.ref b)) (g : goodK k) (h : ∀ s', Inv X pins σ H s' → Q (.bool (atN kvs k).isSome) s') :
    wpAny (model X.prog X.w) A (compareOp .In (.ref b) (.ref a)) Q E s := by
  obtain ⟨z, hd, gs, xs, rel, dd⟩ := n_of I.hok e hk
  refine wpAny_in_heap (room_in1 hu) (n_key I q g) hd dd ?_
  have q' := (rel.val k).isSome_eq
  rw [Option.isSome_map] at q'
  rw [← q']
  exact h _ (I.tok _)
theorem n_notIn {Q : Value → Shared → Prop} (hu : A.units + 64 < cLine) (I : Inv X pins σ H s) (e : H a = some (rawN a o kvs)) (hk : KeysN H kvs) (q : KyV H k (.ref b)) (g : goodK k) (h : ∀ s', Inv X pins σ H s' → Q (.bool (!(atN kvs k).isSome)) s') :
    wpAny (model X.prog X.w) A (compareOp .NotIn (.ref b) (.ref a)) Q E s := by
  obtain ⟨z, hd, gs, xs, rel, dd⟩ := n_of I.hok e hk
  refine wpAny_notIn_heap (room_in1 hu) (n_key I q g) hd dd ?_
  have q' := (rel.val k).isSome_eq
  rw [Option.isSome_map] at q'
  rw [← q']
  exact h _ (I.tok _)
theorem n_at (I : Inv X pins σ H s) (e : H a = some (rawN a o kvs)) : s.TypeIs (.ref a) "dict" ∧ (∀ b, Value.ref a = .ref b → ∃ ob, s.heap.get? b = some ob ∧ ob.dict = none) ∧ (a == sysModules) = false := by
  obtain ⟨z, y, g, xs, r, es, ep, h1, h2, h3, h4, h5⟩ := n_is I.hok e
  refine ⟨⟨o, h1, h2.1⟩, fun b q => ?_, y⟩
  cases q
  exact ⟨o, h1, h2.2.1⟩
end
/-- {} -/
def tNNew : TE := fun _ H Q => ∀ p, H p = none → Q (.ref p) (upd H p (rawN p nObj []))
def sNPut (td ty tv : TE) : TS := fun D σ H => tv σ H fun v H1 => td σ H1 fun x H2 => ty σ H2 fun y H3 => ∃ a b k o kvs, x = .ref a ∧ y = .ref b ∧ H3 a = some (rawN a o kvs) ∧ KeysN H3 kvs ∧ KyV H3 k (.ref b) ∧ goodK k ∧ kvs.length < sizeLine ∧ ∀ o', D.nx σ (upd H3 a (rawN a o' (putN kvs k b v)))
def tNIx (td ty : TE) : TE := fun σ H Q => td σ H fun x H1 => ty σ H1 fun y H2 => ∃ a b k o kvs v, x = .ref a ∧ y = .ref b ∧ H2 a = some (rawN a o kvs) ∧ KeysN H2 kvs ∧ KyV H2 k (.ref b) ∧ goodK k ∧ atN kvs k = some v ∧ Q v H2
def tNGet2 (td ty tx : TE) : TE := fun σ H Q => td σ H fun x H1 => ∃ a o kvs, x = .ref a ∧ H1 a = some (rawN a o kvs) ∧ ty σ H1 fun y H2 => tx σ H2 fun z H3 => ∃ b k o kvs, y = .ref b ∧ H3 a = some (rawN a o kvs) ∧ KeysN H3 kvs ∧ KyV H3 k (.ref b) ∧ goodK k ∧ Q ((atN kvs k).getD z) H3
def rNIn (no : Bool) : R2 := fun x y H Q => ∃ a b k o kvs, x = .ref b ∧ y = .ref a ∧ H a = some (rawN a o kvs) ∧ KeysN H kvs ∧ KyV H k (.ref b) ∧ goodK k ∧ Q (.bl (if no = true then !(atN kvs k).isSome else (atN kvs k).isSome)) H
def rLenN : List V → Hp → VK → Prop := fun xs H Q => ∃ p o kvs, xs = [.ref p] ∧ H p = some (rawN p o kvs) ∧ KeysN H kvs ∧ Q (.int kvs.length) H
section
variable {X : Cx} {o i e f value : Expr} {pos pos' tpos apos cpos : Pos} {td ty tv tx : TE}
theorem pe_nnew : PE X (.Dict [] [] pos) tNNew := ⟨fun pins s σ H Q I h =>
  wpAny_Dict_empty ⟨.ref s.heap.objs.size, _, I.laid (a := s.heap.objs.size) (o := rawN s.heap.objs.size nObj []) (t' := s.toks) (fun _ _ q => Heap.get?_push_of_some _ q) (Nat.le_refl _)
    (ok_rawN ⟨Nat.zero_le _, beq_eq_false_iff_ne.mpr (Ne.symm (Nat.ne_of_lt I.big)), fun _ hx => (nomatch hx), [], .nil, #[], 0, Heap.get?_push_size _ rfl, ⟨rfl, rfl, rfl⟩, rfl, fun _ _ => rfl, List.nodup_nil⟩), rfl, h _ (I.hok.fresh (Nat.le_refl _))⟩⟩
theorem ps_nput (hu : X.A.units + 64 < cLine) (ho : PE X o td) (hi : PE X i ty) (hv : PE X value tv) (hs : swapsWith value (some (.Subscript o i pos')) pos.line X.env = pure false) :
    PS X (.Assign [.Subscript o i pos'] value pos) (sNPut td ty tv) := by
  refine ⟨fun pins s σ H D I h => ?_⟩
  refine wpAny_Assign_Subscript (thn (hv.run pins s σ H _ I h) fun r s1 ⟨v, H1, I1, rv, q1⟩ => thn (ho.run pins s1 σ H1 _ I1 q1) fun u s2 ⟨x, H2, I2, rx, q2⟩ => thn (hi.run pins s2 σ H2 _ I2 q2) fun iv s3 ⟨y, H3, I3, ry, a, b, k, o, kvs, ex, ey, e, hk, q, g, hl, q3⟩ => ?_) hs
  subst ex ey
  obtain rfl : u = Value.ref a := rx
  obtain rfl : iv = Value.ref b := ry
  exact n_setItem hu I3 e hk q g hl rv fun o' s4 I4 => ⟨σ, _, I4, q3 o'⟩
theorem pe_nix (hu : X.A.units + 64 < cLine) (ho : PE X o td) (hi : PE X i ty) (hs : NoSl i) : PE X (.Subscript o i pos) (tNIx td ty) := by
  refine ⟨fun pins s σ H Q I h => ?_⟩
  refine subD_of PySem.F.slot_dict_getitem.lookup hs (thn (ho.run pins s σ H _ I h) fun u s1 ⟨x, H1, I1, rx, q1⟩ => thn (hi.run pins s1 σ H1 _ I1 q1) fun iv s2 ⟨y, H2, I2, ry, a, b, k, o, kvs, v, ex, ey, e, hk, q, g, l, q2⟩ => ?_)
  subst ex ey
  obtain rfl : u = Value.ref a := rx
  obtain rfl : iv = Value.ref b := ry
  exact ⟨(n_at I2 e).1, n_getItem hu I2 e hk q g l fun w' s3 I3 rw' => ⟨v, H2, I3, rw', q2⟩⟩
theorem pe_nget2 (hu : X.A.units + 64 < cLine) (ho : PE X o td) (he : PE X e ty) (hf : PE X f tx) (m : M2 X o "get" apos e f cpos) : PE X (.Call (.Attribute o "get" apos) [e, f] [] cpos) (tNGet2 td ty tx) := by
  refine ⟨fun pins s σ H Q I h => ?_⟩
  refine wpAny_Call_method m.base m.few m.line PySem.F.plainAttrs_dict PySem.F.slot_dict_get PySem.F.type_dict_get (thn (ho.run pins s σ H _ I h) fun u s1 ⟨x, H1, I1, rx, a, o, kvs, ex, d, q1⟩ => ?_)
  subst ex
  obtain rfl : u = Value.ref a := rx
  obtain ⟨t1, t2, _⟩ := n_at I1 d
  refine ⟨t1, t2, ?_⟩
  rw [m.trees]
  refine Calls.callWith_builtin rfl (Calls.evalArgs_plain (Calls.spliced_cons (thn (he.run pins s1 σ H1 _ I1 q1) fun iv s2 ⟨y, H2, I2, ry, q2⟩ =>
    Calls.spliced_cons (thn (hf.run pins s2 σ H2 _ I2 q2) fun fv s3 ⟨z, H3, I3, rz, b, k, o, kvs, ey, e3, hk, q, g, q3⟩ => Calls.spliced_nil ?_))))
  subst ey
  obtain rfl : iv = Value.ref b := ry
  exact n_get2 hu I3 e3 hk q g rz fun w' s4 I4 rw' => ⟨_, H3, I4, rw', q3⟩
theorem op_nin (hu : X.A.units + 64 < cLine) : OpR X (compareOp .In) (rNIn false) := by
  intro pins s σ H x y u v Q I rx ry h
  obtain ⟨a, b, k, o, kvs, rfl, rfl, e, hk, q, g, q2⟩ := h
  obtain rfl : u = Value.ref b := rx
  obtain rfl : v = Value.ref a := ry
  exact n_in hu I e hk q g fun s2 I2 => ⟨.bl _, H, I2, rfl, q2⟩
theorem op_nnotin (hu : X.A.units + 64 < cLine) : OpR X (compareOp .NotIn) (rNIn true) := by
  intro pins s σ H x y u v Q I rx ry h
  obtain ⟨a, b, k, o, kvs, rfl, rfl, e, hk, q, g, q2⟩ := h
  obtain rfl : u = Value.ref b := rx
  obtain rfl : v = Value.ref a := ry
  exact n_notIn hu I e hk q g fun s2 I2 => ⟨.bl _, H, I2, rfl, q2⟩
theorem call_len_N : CallR X (.builtin "len") rLenN := by
  intro pins s σ H xs us Q I r h
  obtain ⟨p, o, kvs, rfl, hp, hk, q⟩ := h
  obtain ⟨u, rfl, rx⟩ := vals1 r
  obtain rfl : u = .ref p := rx
  obtain ⟨z, hd, gs, ys, rel, dd⟩ := n_of I.hok hp hk
  have hl : kvs.length = ys.length := Paired.length rel
  refine call_len_dictH hd dd (by rw [← hl]; rw [sizeLine_eq] at z; omega) ?_
  rw [← hl]
  exact ⟨.int ((kvs.length : Nat) : Int), H, I.tok _, ⟨_, rfl⟩, q⟩
end
end L2

/-! ### walks of dicts with nested keys -/
namespace L2
open PySem PySem.Spec PyProof.Rows
def ItNk (d : Addr) (o : Obj) (kvs : List NE) : It :=
  ⟨fun i H => H d = some (rawN d o kvs) ∧ i < kvs.length, fun i H x H' => H' = H ∧ ∃ y, kvs[i]? = some y ∧ x = .ref y.2.1, fun i H => H d = some (rawN d o kvs) ∧ kvs.length ≤ i⟩
def ItNv (d : Addr) (o : Obj) (kvs : List NE) : It :=
  ⟨fun i H => H d = some (rawN d o kvs) ∧ i < kvs.length, fun i H x H' => H' = H ∧ ∃ y, kvs[i]? = some y ∧ x = y.2.2, fun i H => H d = some (rawN d o kvs) ∧ kvs.length ≤ i⟩
def ItNi (d : Addr) (o : Obj) (kvs : List NE) : It :=
  ⟨fun i H => H d = some (rawN d o kvs) ∧ i < kvs.length, fun i H x H' => ∃ T y, kvs[i]? = some y ∧ x = .ref T ∧ H T = none ∧ H' = upd H T (.tup [.ref y.2.1, y.2.2]), fun i H => H d = some (rawN d o kvs) ∧ kvs.length ≤ i⟩
section
variable {P : Program} {w : World} {K : PySem.W.Frag} {tg : Expr} {d : Addr} {o : Obj} {es : Array DictEntry} {ep : Nat} {kvs : List NE}
theorem turn_nkeys (it : Addr) (hod : o.data = .dict es ep) : Turn P w K tg (ItNk d o kvs) [it] it (fun i h => h.IsKeyIter it d i kvs.length ep) where
  mem := by simp
  obj := fun i h st b hb => by
    have e : b = it := by simpa using hb
    subst e
    obtain ⟨oi, e, c, dd⟩ := st
    exact ⟨oi, e, fun v z => by rw [dd] at z; cases z⟩
  keep := fun i h h' st k => st.at fun oi e => k it (by simp) oi e
  item := by
    intro X hP hw hK hc i pins s σ H E I hf st hg
    subst hP hw hK
    obtain ⟨hd, hi⟩ := hg
    obtain ⟨f0, f1, f2, f3, f4, f5⟩ := hf it (by simp)
    obtain ⟨hgd, hx, hs, z, es', ep', hdt, hsz, ent⟩ := n_ents X.prog X.w (n_is I.hok hd)
    obtain ⟨rfl, rfl⟩ := dict_ep hod hdt
    have hkv : kvs[i]? = some kvs[i] := List.getElem?_eq_getElem hi
    obtain ⟨en, hen, hkey, hval⟩ := ent i kvs[i] hkv
    refine next_key_item st hgd hdt hsz hen fun h' st' sb => ?_
    have I1 : Inv X pins σ H { s with heap := h' } := I.turned (t' := s.toks) (fun b ob hb e => (sb.2 b hb).trans e) f0 f1 f3 f4 f5
    obtain ⟨oi, e, c, dd⟩ := id st'
    exact ⟨en.key, rfl, go_of (s := { s with heap := h' }) e c dd (by decide) ⟨.ref kvs[i].2.1, H, I1, hkey, ⟨rfl, kvs[i], hkv, rfl⟩, st', fun b hb => (hf b hb).1⟩⟩
  done := by
    intro X hP hw hK hc i pins s σ H E I hf st hg
    subst hP hw hK
    obtain ⟨hd, hi⟩ := hg
    obtain ⟨f0, f1, f2, f3, f4, f5⟩ := hf it (by simp)
    obtain ⟨hgd, hx, hs, z, es', ep', hdt, hsz, ent⟩ := n_ents X.prog X.w (n_is I.hok hd)
    obtain ⟨rfl, rfl⟩ := dict_ep hod hdt
    exact next_key_end (I.ok.hd hc) st hgd hdt hsz hi fun h' eb => ⟨rfl, I.turned (t' := s.toks) (fun b ob hb e => eb b ob hb e) f0 f1 f3 f4 f5⟩
  self := fun A i s Q E st h => by
    refine wpAny_pyIter_slot st.typeIs F.slot_dict_keyiterator_iter (wpAny_call_entry F.slot_dict_keyiterator_iter st.typeIs F.entry_dict_keyiterator_iter ?_ (F.args_dict_keyiterator_iter_1 _))
    show wpAny _ _ (ret (.ref it)) _ _ s
    exact wpAny_pure ⟨_, rfl, "dict_keyiterator", _, st.typeIs, F.slot_dict_keyiterator_next.lookup, h⟩
theorem turn_nvals (it : Addr) (hod : o.data = .dict es ep) : Turn P w K tg (ItNv d o kvs) [it] it (fun i h => h.IsValIter it d i kvs.length ep) where
  mem := by simp
  obj := fun i h st b hb => by
    have e : b = it := by simpa using hb
    subst e
    obtain ⟨oi, e, c, dd⟩ := st
    exact ⟨oi, e, fun v z => by rw [dd] at z; cases z⟩
  keep := fun i h h' st k => st.at fun oi e => k it (by simp) oi e
  item := by
    intro X hP hw hK hc i pins s σ H E I hf st hg
    subst hP hw hK
    obtain ⟨hd, hi⟩ := hg
    obtain ⟨f0, f1, f2, f3, f4, f5⟩ := hf it (by simp)
    obtain ⟨hgd, hx, hs, z, es', ep', hdt, hsz, ent⟩ := n_ents X.prog X.w (n_is I.hok hd)
    obtain ⟨rfl, rfl⟩ := dict_ep hod hdt
    have hkv : kvs[i]? = some kvs[i] := List.getElem?_eq_getElem hi
    obtain ⟨en, hen, hkey, hval⟩ := ent i kvs[i] hkv
    have hie : i < es'.size := by rw [hsz]; exact hi
    have een : es'[i] = en := by rw [Array.getElem?_eq_getElem hie] at hen; exact Option.some.inj hen
    rw [← hsz] at st
    refine wpAny_pyNext_values_item_raw st ⟨o, hgd, hx, hdt⟩ hie fun h' st' sb => ?_
    have I1 : Inv X pins σ H { s with heap := h' } := I.turned (t' := s.toks) (fun b ob hb e => (sb.2 b hb).trans e) f0 f1 f3 f4 f5
    obtain ⟨oi, e, c, dd⟩ := id st'
    refine ⟨es'[i].val, rfl, go_of (s := { s with heap := h' }) e c dd (by decide) ⟨kvs[i].2.2, H, I1, by rw [een]; exact hval, ⟨rfl, kvs[i], hkv, rfl⟩, ?_, fun b hb => (hf b hb).1⟩⟩
    show h'.IsValIter it d (i + 1) kvs.length _
    rw [← hsz]
    exact st'
  done := by
    intro X hP hw hK hc i pins s σ H E I hf st hg
    subst hP hw hK
    obtain ⟨hd, hi⟩ := hg
    obtain ⟨f0, f1, f2, f3, f4, f5⟩ := hf it (by simp)
    obtain ⟨hgd, hx, hs, z, es', ep', hdt, hsz, ent⟩ := n_ents X.prog X.w (n_is I.hok hd)
    obtain ⟨rfl, rfl⟩ := dict_ep hod hdt
    rw [← hsz] at st
    exact wpAny_pyNext_values_end_raw (I.ok.hd hc) st ⟨o, hgd, hx, hdt⟩ (by rw [hsz]; exact hi) fun h' eb => ⟨rfl, I.turned (t' := s.toks) (fun b ob hb e => eb b ob hb e) f0 f1 f3 f4 f5⟩
  self := fun A i s Q E st h => wpAny_pyIter_valiter st h
theorem turn_nitems {elts : List Expr} {kk : Nat} {tpos : Pos} (it : Addr) (hod : o.data = .dict es ep) :
    Turn P w K (.Tuple elts kk tpos) (ItNi d o kvs) [it] it (fun i h => ∃ ok ov, IsItemIter h it d i kvs.length ep ok ov) where
  mem := by simp
  obj := fun i h st b hb => by
    have e : b = it := by simpa using hb
    subst e
    obtain ⟨ok, ov, e⟩ := st
    exact ⟨_, e, fun v z => nomatch z⟩
  keep := fun i h h' st k => let ⟨ok, ov, e⟩ := st; ⟨ok, ov, k it (by simp) _ e⟩
  item := by
    intro X hP hw hK hc i pins s σ H E I hf st hg
    subst hP hw hK
    obtain ⟨hd, hi⟩ := hg
    obtain ⟨hgd, hx, hs, z, es', ep', hdt, hsz, ent⟩ := n_ents X.prog X.w (n_is I.hok hd)
    obtain ⟨rfl, rfl⟩ := dict_ep hod hdt
    have hkv : kvs[i]? = some kvs[i] := List.getElem?_eq_getElem hi
    obtain ⟨en, hen, hkey, hval⟩ := ent i kvs[i] hkv
    have hie : i < es'.size := by rw [hsz]; exact hi
    have een : es'[i] = en := by rw [Array.getElem?_eq_getElem hie] at hen; exact Option.some.inj hen
    obtain ⟨ok, ov, he⟩ := st
    rw [← hsz] at he
    have hlt : it < s.heap.objs.size := Heap.lt_size he
    refine wpAny_pyNext_items_item_raw he ⟨o, hgd, hx, hdt⟩ hie fun h' ho hT hz hk => ?_
    refine ⟨_, rfl, wpAny_letOwnedTupleGo_items (s := { s with heap := h' }) ho fun h'' he' sb => ?_⟩
    have hT2 : h''.get? s.heap.objs.size = some { cls := .type "tuple", data := .seq #[es'[i].key, es'[i].val] } := (sb.2 _ (Nat.ne_of_gt hlt)).trans hT
    have new : ObjOk X.prog X.w (upd H s.heap.objs.size (.tup [.ref kvs[i].2.1, kvs[i].2.2])) h'' s.heap.objs.size (.tup [.ref kvs[i].2.1, kvs[i].2.2]) :=
      ⟨by show 2 ≤ sizeLine; decide, [es'[i].key, es'[i].val], .cons (by rw [een]; exact hkey) (.cons (by rw [een]; exact hval) .nil), ⟨_, hT2, rfl, _, rfl⟩⟩
    have I1 : Inv X pins σ (upd H s.heap.objs.size (.tup [.ref kvs[i].2.1, kvs[i].2.2])) { s with heap := h'' } :=
      I.turnedNew (t' := s.toks) (ch := [it]) (fun b ob hb e => (sb.2 b (by simpa using hb)).trans (hk b ob (by simpa using hb) e)) hf (Nat.le_refl _) new
    refine ⟨.ref s.heap.objs.size, _, I1, rfl, ⟨_, kvs[i], hkv, rfl, I.hok.fresh (Nat.le_refl _), rfl⟩, ⟨es'[i].key, es'[i].val, ?_⟩, fun b hb => ?_⟩
    · rw [← hsz]; exact he'
    · have e : b = it := by simpa using hb
      rw [e, upd_ne (Nat.ne_of_lt hlt)]
      exact (hf it (by simp)).1
  done := by
    intro X hP hw hK hc i pins s σ H E I hf st hg
    subst hP hw hK
    obtain ⟨hd, hi⟩ := hg
    obtain ⟨f0, f1, f2, f3, f4, f5⟩ := hf it (by simp)
    obtain ⟨hgd, hx, hs, z, es', ep', hdt, hsz, ent⟩ := n_ents X.prog X.w (n_is I.hok hd)
    obtain ⟨rfl, rfl⟩ := dict_ep hod hdt
    obtain ⟨ok, ov, he⟩ := st
    rw [← hsz] at he
    exact wpAny_pyNext_items_end_raw (I.ok.hd hc) he ⟨o, hgd, hx, hdt⟩ (by rw [hsz]; exact hi) fun h' eb => ⟨rfl, I.turned (t' := s.toks) (fun b ob hb e => eb b ob hb e) f0 f1 f3 f4 f5⟩
  self := fun A i s Q E st h => let ⟨_, _, e⟩ := st; PySem.W.kcp_self e h
end
def iNKeys (td : TE) : TI := fun σ H R => td σ H fun x H1 => ∃ d o kvs, x = .ref d ∧ H1 d = some (rawN d o kvs) ∧ R (ItNk d o kvs) H1
def iNVals (td : TE) : TI := fun σ H R => td σ H fun x H1 => ∃ d o kvs, x = .ref d ∧ H1 d = some (rawN d o kvs) ∧ R (ItNv d o kvs) H1
def iNItems (td : TE) : TI := fun σ H R => td σ H fun x H1 => ∃ d o kvs, x = .ref d ∧ H1 d = some (rawN d o kvs) ∧ R (ItNi d o kvs) H1
/-- list(d.values()) -/
def tNListV (td : TE) : TE := fun σ H Q => td σ H fun x H1 => ∃ d o kvs, x = .ref d ∧ H1 d = some (rawN d o kvs) ∧ ∀ p, H1 p = none → Q (.ref p) (upd H1 p (.lst (kvs.map (·.2.2))))
section
variable {X : Cx} {tg e : Expr} {td : TE} {apos cpos lpos npos : Pos}
theorem pi_nkeys (he : PE X e td) : PI X tg e (iNKeys td) := by
  refine ⟨fun pins s σ H R I h => ?_⟩
  refine thn (he.run pins s σ H _ I h) fun u s1 ⟨x, H1, I1, rx, d, o, kvs, ex, hd, q⟩ => ?_
  subst ex
  obtain rfl : u = Value.ref d := rx
  obtain ⟨hgd, hx, hs, z, es, ep, hdt, hsz, ent⟩ := n_ents X.prog X.w (n_is I1.hok hd)
  refine iter_keys hs hgd hx hdt (pi_one (tk := s1.toks) I1 _ (turn_nkeys _ hdt) ⟨_, Heap.get?_push_size _ rfl, rfl, ?_⟩ q)
  rw [hsz] <;> rfl
theorem pi_nvals (he : PE X e td) (hbase : attributeBase e "values" X.env (eval e X.env) = eval e X.env := by rfl) (hline : (apos.endLine == cpos.line) = true := by rfl) : PI X tg (.Call (.Attribute e "values" apos) [] [] cpos) (iNVals td) := by
  refine ⟨fun pins s σ H R I h => ?_⟩
  refine wpAny_Call_method (T := "dict") (id := "dict.values") hbase rfl hline F.plainAttrs_dict F.slot_dict_values F.type_dict_values (thn (he.run pins s σ H _ I h) fun u s1 ⟨x, H1, I1, rx, d, o, kvs, ex, hd, q⟩ => ?_)
  subst ex
  obtain rfl : u = Value.ref d := rx
  obtain ⟨hgd, hx, hs, z, es, ep, hdt, hsz, ent⟩ := n_ents X.prog X.w (n_is I1.hok hd)
  have hm : s1.heap.DictRaw d es ep := ⟨o, hgd, hx, hdt⟩
  refine ⟨hm.typeIs, fun b q => by cases q; exact ⟨o, hgd, hx.2.1⟩, ?_⟩
  have I2 : Inv X pins σ H1 { s1 with heap := s1.heap.push { cls := .type "dict_values", data := .fields #[.ref d] } } := I1.kept (t' := s1.toks) fun b ob q => Heap.get?_push_of_some _ q
  have fin : wpAny (model X.prog X.w) X.A (pyIter (.ref s1.heap.objs.size)) (PIE X pins σ tg R) X.xe { s1 with heap := s1.heap.push { cls := .type "dict_values", data := .fields #[.ref d] } } := by
    refine wpAny_pyIter_values_raw (d := d) ⟨_, Heap.get?_push_size _ rfl, rfl, rfl⟩ (hm.push _) (pi_one (tk := s1.toks) I2 _ (turn_nvals _ hdt) ⟨_, Heap.get?_push_size _ rfl, rfl, ?_⟩ q)
    rw [hsz] <;> rfl
  show wpAny _ _ (callWith cpos (.builtin "dict.values") [.ref d] [] []) _ X.xe s1
  exact method_meetsIn F.slot_dict_values F.entry_dict_values rfl (PySem.evalArgs_none ⟨rfl, hm.typeIs, F.args_dict_values_1 _, _, meets_dict_values_raw d hs, ⟨es, ep, hm⟩, fin⟩)
theorem pi_nitems {elts : List Expr} {kk : Nat} {tpos : Pos} (he : PE X e td) (hbase : attributeBase e "items" X.env (eval e X.env) = eval e X.env := by rfl) (hline : (apos.endLine == cpos.line) = true := by rfl) :
    PI X (.Tuple elts kk tpos) (.Call (.Attribute e "items" apos) [] [] cpos) (iNItems td) := by
  refine ⟨fun pins s σ H R I h => ?_⟩
  refine wpAny_Call_method (T := "dict") (id := "dict.items") hbase rfl hline F.plainAttrs_dict F.slot_dict_items F.type_dict_items (thn (he.run pins s σ H _ I h) fun u s1 ⟨x, H1, I1, rx, d, o, kvs, ex, hd, q⟩ => ?_)
  subst ex
  obtain rfl : u = Value.ref d := rx
  obtain ⟨hgd, hx, hs, z, es, ep, hdt, hsz, ent⟩ := n_ents X.prog X.w (n_is I1.hok hd)
  have hm : s1.heap.DictRaw d es ep := ⟨o, hgd, hx, hdt⟩
  refine ⟨hm.typeIs, fun b q => by cases q; exact ⟨o, hgd, hx.2.1⟩, ?_⟩
  have I2 : Inv X pins σ H1 { s1 with heap := s1.heap.push { cls := .type "dict_items", data := .fields #[.ref d] } } := I1.kept (t' := s1.toks) fun b ob q => Heap.get?_push_of_some _ q
  have fin : wpAny (model X.prog X.w) X.A (pyIter (.ref s1.heap.objs.size)) (PIE X pins σ (.Tuple elts kk tpos) R) X.xe { s1 with heap := s1.heap.push { cls := .type "dict_items", data := .fields #[.ref d] } } := by
    refine wpAny_pyIter_items_raw (d := d) ⟨_, Heap.get?_push_size _ rfl, rfl, rfl⟩ (hm.push _) (pi_one (tk := s1.toks) I2 _ (turn_nitems _ hdt) ⟨.none, .none, ?_⟩ q)
    rw [hsz]
    exact Heap.get?_push_size _ rfl
  show wpAny _ _ (callWith cpos (.builtin "dict.items") [.ref d] [] []) _ X.xe s1
  exact method_meetsIn F.slot_dict_items F.entry_dict_items rfl (PySem.evalArgs_none ⟨rfl, hm.typeIs, F.args_dict_items_1 _, _, meets_dict_items_raw d hs, ⟨es, ep, hm⟩, fin⟩)
end
end L2
namespace L2
open PySem PySem.Spec PyProof.Rows
/-- the view d.values() at p -/
def valuesO (p d : Addr) : HO := .ext fun h => h.IsValuesView p d
theorem valuesO_ok {P : Program} {w : World} {H : Hp} {h : Heap} {p d : Addr} (e : h.get? p = some { cls := .type "dict_values", data := .fields #[.ref d] }) : ObjOk P w H h p (valuesO p d) :=
  ⟨⟨_, e, rfl, rfl⟩, ⟨_, e⟩, fun h1 h2 x k => let ⟨o, ho, r⟩ := x; ⟨o, k o ho, r⟩⟩
def tNVals (td : TE) : TE := fun σ H Q => td σ H fun x H1 => ∃ d o kvs, x = .ref d ∧ H1 d = some (rawN d o kvs) ∧ ∀ p, H1 p = none → Q (.ref p) (upd H1 p (valuesO p d))
def rListNV : List V → Hp → VK → Prop := fun xs H Q => ∃ p d o kvs, xs = [.ref p] ∧ H p = some (valuesO p d) ∧ H d = some (rawN d o kvs) ∧ ∀ l, H l = none → Q (.ref l) (upd H l (.lst (kvs.map (·.2.2))))
theorem vals_from : ∀ {xs : List V} {us : List Value}, xs.length = us.length → (∀ (j : Nat) x u, xs[j]? = some x → us[j]? = some u → RelV x u) → Vals xs us
  | [], [], _, _ => .nil
  | x :: xs, u :: us, h, r => .cons (r 0 x u rfl rfl) (vals_from (by simpa using h) fun j x u h1 h2 => r (j + 1) x u (by simpa using h1) (by simpa using h2))
  | [], _ :: _, h, _ => by simp at h
  | _ :: _, [], h, _ => by simp at h
section
variable {X : Cx} {e : Expr} {td : TE} {apos cpos : Pos}
theorem pe_nvals (he : PE X e td) (hbase : attributeBase e "values" X.env (eval e X.env) = eval e X.env := by rfl) (hline : (apos.endLine == cpos.line) = true := by rfl) : PE X (.Call (.Attribute e "values" apos) [] [] cpos) (tNVals td) := by
  refine ⟨fun pins s σ H Q I h => ?_⟩
  refine wpAny_Call_method (T := "dict") (id := "dict.values") hbase rfl hline F.plainAttrs_dict F.slot_dict_values F.type_dict_values (thn (he.run pins s σ H _ I h) fun u s1 ⟨x, H1, I1, rx, d, o, kvs, ex, hd, q⟩ => ?_)
  subst ex
  obtain rfl : u = Value.ref d := rx
  obtain ⟨hgd, hx, hs, z, es, ep, hdt, hsz, ent⟩ := n_ents X.prog X.w (n_is I1.hok hd)
  have hm : s1.heap.DictRaw d es ep := ⟨o, hgd, hx, hdt⟩
  refine ⟨hm.typeIs, fun b q => by cases q; exact ⟨o, hgd, hx.2.1⟩, ?_⟩
  have hf : H1 s1.heap.objs.size = none := I1.hok.fresh (Nat.le_refl _)
  show wpAny _ _ (callWith cpos (.builtin "dict.values") [.ref d] [] []) _ X.xe s1
  exact method_meetsIn F.slot_dict_values F.entry_dict_values rfl (PySem.evalArgs_none ⟨rfl, hm.typeIs, F.args_dict_values_1 _, _, meets_dict_values_raw d hs, ⟨es, ep, hm⟩, ⟨.ref s1.heap.objs.size, _, I1.laid (t' := s1.toks) (fun b u e => Heap.get?_push_of_some _ e) (Nat.le_refl _) (valuesO_ok (Heap.get?_push_size _ rfl)), rfl, q _ hf⟩⟩)
theorem call_list_nv (hc : X.calm = true) : CallR X (.type "list") rListNV := by
  intro pins s σ H xs us Q I r h
  obtain ⟨p, d, o, kvs, rfl, hp, hd, q⟩ := h
  obtain ⟨u, rfl, rx⟩ := vals1 r
  cases rx
  obtain ⟨hgd, hx, hs, z, es, ep, hdt, hsz, ent⟩ := n_ents X.prog X.w (n_is I.hok hd)
  have hm : s.heap.DictRaw d es ep := ⟨o, hgd, hx, hdt⟩
  have hv : s.heap.IsValuesView p d := (show ObjOk X.prog X.w H s.heap p (valuesO p d) from I.hok p _ hp).1
  refine PySem.W.kdl_call (PySem.KdlSrc.rawValues (es := es) (ep := ep)) (I.ok.hd hc) ⟨hv, hm⟩ (by rw [hsz]; exact z) fun h' tk acc c' kp e it => ?_
  have rv : Vals (kvs.map (·.2.2)) acc.toList := vals_from (by rw [List.length_map, ← hsz, ← it.1]; exact Array.length_toList.symm) fun j x u h1 h2 => by
    rw [List.getElem?_map] at h1
    obtain ⟨y, hy, rfl⟩ := Option.map_eq_some_iff.mp h1
    obtain ⟨en, hen, _, hval⟩ := ent j y hy
    obtain ⟨hi, ev⟩ := it.2 j u (by rw [← Array.getElem?_toList]; exact h2)
    have een : es[j] = en := by rw [Array.getElem?_eq_getElem hi] at hen; exact Option.some.inj hen
    rw [ev, een]; exact hval
  refine ⟨.ref s.heap.objs.size, _, I.laid (t' := tk) kp (Nat.le_refl _) (show ObjOk X.prog X.w _ h' _ (.lst _) from ⟨by rw [List.length_map]; exact z, acc.toList, c', rv, by simpa using e⟩), rfl, q _ (I.hok.fresh (Nat.le_refl _))⟩
end
end L2

/-! ## data over the layer: values are read as data, heaps are hidden -/
namespace Dl
open PySem PySem.Spec PyProof.Rows L2

abbrev D := PyData
abbrev Fg := PySem.W.Frag
def keyD : Key → D
  | .inl i => .int i
  | .inr x => .str x

/-- a heap without its lists -/
def thin (G : Hp) : Hp := fun b => match G b with | some (.lst _) => none | o => o
theorem thin_same (G : Hp) : Same (thin G) G := fun b o h => by
  unfold thin at h
  cases e : G b with
  | none => rw [e] at h; cases h
  | some u => rw [e] at h; cases u <;> first | exact h | (cases h)
theorem thin_no {G : Hp} {b : Addr} {xs : List V} : thin G b ≠ some (.lst xs) := fun h => by
  unfold thin at h
  cases e : G b with
  | none => rw [e] at h; cases h
  | some u => rw [e] at h; cases u <;> (cases h)
theorem thin_of {G : Hp} {b : Addr} {o : HO} (h : G b = some o) (n : ∀ xs, o ≠ .lst xs) : thin G b = some o := by
  unfold thin
  rw [h]
  cases o with
  | lst xs => exact absurd rfl (n xs)
  | _ => rfl
theorem thin_mono {G G' : Hp} (e : Same G G') : Same (thin G) (thin G') := fun b o h => thin_of (e _ _ (thin_same G b o h)) fun xs z => by subst z; exact thin_no h
theorem thin_thin (G : Hp) : Same (thin G) (thin (thin G)) := fun b o h => thin_of h fun xs z => by subst z; exact thin_no h
mutual
inductive Rp (K : Fg) (H : Hp) : V → D → Prop
  | non : Rp K H .non .none
  | bl (b : Bool) : Rp K H (.bl b) (.bool b)
  | int (i : Int) : Rp K H (.int i) (.int i)
  | str (x : Str) : Rp K H (.str x) (.str x)
  | lst {a : Addr} {xs : List V} {ds : List D} : H a = some (.lst xs) → RpA K H xs ds → Rp K H (.ref a) (.list ds)
  | tup {a : Addr} {xs : List V} {ds : List D} : H a = some (.tup xs) → RpA K H xs ds → Rp K H (.ref a) (.tuple ds)
  | dic {a : Addr} {kvs : List (Key × V)} {ds : List (D × D)} : H a = some (.dK kvs) → RpK K H kvs ds → Rp K H (.ref a) (.dict ds)
  | scr {a : Addr} {ns : List Int} : SqL K (thin H) a (ns.map V.int) → Rp K H (.ref a) (.dict [(.list (ns.map PyData.int), .none)])
  | dix {a : Addr} {o : Obj} {kvs : List NE} {ds : List (D × D)} : H a = some (rawN a o kvs) → RpE K H kvs ds → Rp K H (.ref a) (.dict ((.list [.none], .int 0) :: ds))
inductive RpE (K : Fg) (H : Hp) : List NE → List (D × D) → Prop
  | nil : RpE K H [] []
  | cons {x : NE} {d : D} {kvs : List NE} {ds : List (D × D)} : Rp K H (.ref x.2.1) x.1.data → Rp K H x.2.2 d → RpE K H kvs ds → RpE K H (x :: kvs) ((x.1.data, d) :: ds)
inductive RpA (K : Fg) (H : Hp) : List V → List D → Prop
  | nil : RpA K H [] []
  | cons {v : V} {vs : List V} {d : D} {ds : List D} : Rp K H v d → RpA K H vs ds → RpA K H (v :: vs) (d :: ds)
inductive RpK (K : Fg) (H : Hp) : List (Key × V) → List (D × D) → Prop
  | nil : RpK K H [] []
  | cons {k : Key} {v : V} {kvs : List (Key × V)} {d : D} {ds : List (D × D)} : Rp K H v d → RpK K H kvs ds → RpK K H ((k, v) :: kvs) ((keyD k, d) :: ds)
end

theorem rd_mono {H H' : Hp} (e : Same H H') {a : Addr} {u : HO} (h : Rd H a u) : Rd H' a u := by
  rcases h with h | ⟨o, h⟩
  · exact .inl (e _ _ h)
  · exact .inr ⟨o, e _ _ h⟩
theorem sqL_mono {K : Fg} {H H' : Hp} (e : Same H H') {a : Addr} {xs : List V} (h : SqL K H a xs) : SqL K H' a xs := h.imp (rd_mono e) id
theorem sqT_mono {K : Fg} {H H' : Hp} (e : Same H H') {a : Addr} {xs : List V} (h : SqT K H a xs) : SqT K H' a xs := h.imp (rd_mono e) id

mutual
theorem Rp.mono {K : Fg} {H H' : Hp} (e : Same H H') : ∀ {v : V} {d : D}, Rp K H v d → Rp K H' v d
  | _, _, .non => .non
  | _, _, .bl b => .bl b
  | _, _, .int i => .int i
  | _, _, .str x => .str x
  | _, _, .lst s r => .lst (e _ _ s) (RpA.mono e r)
  | _, _, .tup s r => .tup (e _ _ s) (RpA.mono e r)
  | _, _, .dic h r => .dic (e _ _ h) (RpK.mono e r)
  | _, _, .scr h => .scr (sqL_mono (thin_mono e) h)
  | _, _, .dix h r => .dix (e _ _ h) (RpE.mono e r)
theorem RpE.mono {K : Fg} {H H' : Hp} (e : Same H H') : ∀ {vs : List NE} {ds : List (D × D)}, RpE K H vs ds → RpE K H' vs ds
  | _, _, .nil => .nil
  | _, _, .cons k r t => .cons (Rp.mono e k) (Rp.mono e r) (RpE.mono e t)
theorem RpA.mono {K : Fg} {H H' : Hp} (e : Same H H') : ∀ {vs : List V} {ds : List D}, RpA K H vs ds → RpA K H' vs ds
  | _, _, .nil => .nil
  | _, _, .cons r t => .cons (Rp.mono e r) (RpA.mono e t)
theorem RpK.mono {K : Fg} {H H' : Hp} (e : Same H H') : ∀ {vs : List (Key × V)} {ds : List (D × D)}, RpK K H vs ds → RpK K H' vs ds
  | _, _, .nil => .nil
  | _, _, .cons r t => .cons (Rp.mono e r) (RpK.mono e t)
end

section
variable {K : Fg} {H : Hp}
theorem RpA.length : ∀ {vs : List V} {ds : List D}, RpA K H vs ds → vs.length = ds.length
  | _, _, .nil => rfl
  | _, _, .cons _ t => congrArg (· + 1) t.length
theorem RpA.get : ∀ {vs : List V} {ds : List D} {i : Nat} {d : D}, RpA K H vs ds → ds[i]? = some d → ∃ v, vs[i]? = some v ∧ Rp K H v d
  | _, _, _, _, .nil, e => by simp at e
  | _, _, 0, _, .cons r _, e => by simp at e; subst e; exact ⟨_, rfl, r⟩
  | _, _, i + 1, d, .cons _ t, e => by
    obtain ⟨u, h1, h2⟩ := RpA.get (i := i) (d := d) t (by simpa using e)
    exact ⟨u, by simpa using h1, h2⟩
theorem RpA.getV : ∀ {vs : List V} {ds : List D} {i : Nat} {v : V}, RpA K H vs ds → vs[i]? = some v → ∃ d, ds[i]? = some d ∧ Rp K H v d
  | _, _, _, _, .nil, e => by simp at e
  | _, _, 0, _, .cons r _, e => by simp at e; subst e; exact ⟨_, rfl, r⟩
  | _, _, i + 1, v, .cons _ t, e => by
    obtain ⟨u, h1, h2⟩ := RpA.getV (i := i) (v := v) t (by simpa using e)
    exact ⟨u, by simpa using h1, h2⟩
theorem RpA.append : ∀ {vs ws : List V} {ds es : List D}, RpA K H vs ds → RpA K H ws es → RpA K H (vs ++ ws) (ds ++ es)
  | _, _, _, _, .nil, s => s
  | _, _, _, _, .cons r t, s => .cons r (RpA.append t s)
theorem RpA.take : ∀ {vs : List V} {ds : List D} (n : Nat), RpA K H vs ds → RpA K H (vs.take n) (ds.take n)
  | _, _, 0, _ => .nil
  | _, _, _ + 1, .nil => .nil
  | _, _, n + 1, .cons r t => .cons r (RpA.take n t)
theorem RpA.drop : ∀ {vs : List V} {ds : List D} (n : Nat), RpA K H vs ds → RpA K H (vs.drop n) (ds.drop n)
  | _, _, 0, r => r
  | _, _, _ + 1, .nil => .nil
  | _, _, n + 1, .cons _ t => RpA.drop n t
theorem RpA.eraseIdx : ∀ {vs : List V} {ds : List D} (n : Nat), RpA K H vs ds → RpA K H (vs.eraseIdx n) (ds.eraseIdx n)
  | _, _, _, .nil => .nil
  | _, _, 0, .cons _ t => t
  | _, _, n + 1, .cons r t => .cons r (RpA.eraseIdx n t)
theorem RpA.set {v : V} {d : D} (r : Rp K H v d) : ∀ {vs : List V} {ds : List D} (n : Nat), RpA K H vs ds → RpA K H (vs.set n v) (ds.set n d)
  | _, _, _, .nil => .nil
  | _, _, 0, .cons _ t => .cons r t
  | _, _, n + 1, .cons q t => .cons q (RpA.set r n t)
theorem RpA.snoc {vs : List V} {ds : List D} {v : V} {d : D} (a : RpA K H vs ds) (r : Rp K H v d) : RpA K H (vs ++ [v]) (ds ++ [d]) := a.append (.cons r .nil)
theorem RpA.replicate {v : V} {d : D} (r : Rp K H v d) : ∀ n : Nat, RpA K H (List.replicate n v) (List.replicate n d)
  | 0 => .nil
  | n + 1 => .cons r (RpA.replicate r n)
theorem RpA.isEmpty {vs : List V} {ds : List D} (r : RpA K H vs ds) : vs.isEmpty = ds.isEmpty := by cases r <;> rfl
theorem RpA.ints : ∀ {vs : List V} {ns : List Int}, RpA K H vs (ns.map PyData.int) → vs = ns.map V.int
  | vs, [], r => by cases r; rfl
  | vs, n :: ns, r => by
    cases r with
    | cons r t => cases r; rw [RpA.ints t]; rfl
theorem RpA.of_ints : ∀ (ns : List Int), RpA K H (ns.map V.int) (ns.map PyData.int)
  | [] => .nil
  | n :: ns => .cons (.int n) (RpA.of_ints ns)
theorem RpA.bools : ∀ {vs : List V} {ns : List Bool}, RpA K H vs (ns.map PyData.bool) → vs = ns.map V.bl
  | vs, [], r => by cases r; rfl
  | vs, n :: ns, r => by
    cases r with
    | cons r t => cases r; rw [RpA.bools t]; rfl
theorem Rp.int_inv {v : V} {i : Int} (r : Rp K H v (.int i)) : v = .int i := by cases r; rfl
theorem Rp.bl_inv {v : V} {b : Bool} (r : Rp K H v (.bool b)) : v = .bl b := by cases r; rfl
theorem Rp.str_inv {v : V} {x : Str} (r : Rp K H v (.str x)) : v = .str x := by cases r; rfl
theorem Rp.non_inv {v : V} (r : Rp K H v .none) : v = .non := by cases r; rfl
theorem Rp.lst_inv {v : V} {ds : List D} (r : Rp K H v (.list ds)) : ∃ a xs, v = .ref a ∧ H a = some (.lst xs) ∧ RpA K H xs ds := by
  cases r with
  | lst s r => exact ⟨_, _, rfl, s, r⟩
theorem Rp.tup_is {v : V} {ds : List D} (r : Rp K H v (.tuple ds)) : ∃ a xs, v = .ref a ∧ H a = some (.tup xs) ∧ RpA K H xs ds := by
  cases r with
  | tup s r => exact ⟨_, _, rfl, s, r⟩
theorem Rp.tup_inv {v : V} {ds : List D} (r : Rp K H v (.tuple ds)) : ∃ a xs, v = .ref a ∧ SqT K H a xs ∧ RpA K H xs ds := by
  obtain ⟨a, xs, e, s, r⟩ := r.tup_is
  exact ⟨a, xs, e, .inl (.inl s), r⟩
end

/-- a dict with nested keys, told apart from all others -/
def dixD (ds : List (D × D)) : D := .dict ((.list [.none], .int 0) :: ds)
/-- the script, told apart from all lists -/
def scrD (ns : List Int) : D := .dict [(.list (ns.map PyData.int), .none)]
theorem keyD_ne (k : Key) (xs : List D) : keyD k ≠ .list xs := by cases k <;> (intro e; cases e)
theorem RpK.no_list {K : Fg} {H : Hp} : ∀ {kvs : List (Key × V)} {ds : List (D × D)}, RpK K H kvs ds → ∀ p ∈ ds, ∀ xs, p.1 ≠ .list xs
  | _, _, .nil, p, hp, _ => by cases hp
  | _, _, .cons (k := k) r t, p, hp, xs => by
    rcases List.mem_cons.mp hp with z | z
    · rw [z]; exact keyD_ne k xs
    · exact RpK.no_list t p z xs
theorem Rp.scr_inv {K : Fg} {H : Hp} {v : V} {ns : List Int} (r : Rp K H v (scrD ns)) : ∃ a, v = .ref a ∧ SqL K H a (ns.map V.int) := by
  generalize e : scrD ns = d at r
  cases r with
  | dic h r =>
    unfold scrD at e
    cases e
    exact absurd rfl (r.no_list _ (List.mem_singleton.mpr rfl) _)
  | scr h =>
    unfold scrD at e
    injection e with e
    injection e with e _
    injection e with e _
    injection e with e
    have inj : ∀ (l l' : List Int), l.map PyData.int = l'.map PyData.int → l = l' := fun l => by
      induction l with
      | nil => intro l' h; cases l' with | nil => rfl | cons _ _ => cases h
      | cons x l ih =>
        intro l' h
        cases l' with
        | nil => cases h
        | cons y l' => injection h with h1 h2; injection h1 with h1; rw [h1, ih l' h2]
    rw [inj _ _ e]
    exact ⟨_, rfl, sqL_mono (thin_same H) h⟩
  | dix h r =>
    unfold scrD at e
    injection e with e
    injection e with e _
    injection e with _ e
    cases e
  | _ => cases e

/-! ### the ground: what data leans on -/
def ExB (sa : Option Addr) (H H' : Hp) : Prop := ∀ b o, sa ≠ some b → H b = some o → H' b = some o
theorem ExB.refl (sa : Option Addr) (H : Hp) : ExB sa H H := fun _ _ _ h => h
theorem ExB.trans {sa : Option Addr} {H H1 H2 : Hp} (a : ExB sa H H1) (b : ExB sa H1 H2) : ExB sa H H2 := fun c o n h => b c o n (a c o n h)
theorem ExB.of {sa : Option Addr} {H H' : Hp} (e : Same H H') : ExB sa H H' := fun b o _ h => e b o h
def SprV (H : Hp) (a : Addr) : Prop := ∃ c s n : Int, H a = some (.lst [.int c, .int s, .int n])

structure Gd (sa : Option Addr) (H0 G0 G H : Hp) : Prop where
  g0 : Same G0 G
  gh : Same G H
  fr : ∀ b, H0 b ≠ none → G0 b = none → G b = none
  hh : ExB sa H0 H
  sp : ∀ a, sa = some a → SprV H a ∧ H0 a ≠ none ∧ G0 a = none

/-- what a frame holds and nobody else: what it reads, at which places, and that it stays while these stay -/
structure Res where
  ok : Fg → Hp → Hp → V → Prop
  ft : Hp → V → Addr → Prop
  lv : ∀ K G H v b, ok K G H v → ft H v b → H b ≠ none
  mv : ∀ K G G' H H' v, ok K G H v → Same G G' → (∀ b, ft H v b → H' b = H b) → ok K G' H' v ∧ ∀ b, ft H' v b → ft H v b
inductive Cell where
  | no
  | dat (d : D)
  | own (ds : List D)
  | spr
  | res (R : Res)
def foot (H : Hp) (o : Option V) : Cell → Addr → Prop
  | .own _, b => o = some (.ref b)
  | .res R, b => ∃ v, o = some v ∧ R.ft H v b
  | _, _ => False
/-- p is held by no slot -/
def Lone (H : Hp) (δ : List Cell) (σ : L2.St) (p : Addr) : Prop := ∀ (j : Nat) (c : Cell) (o : Option V), δ[j]? = some c → σ[j]? = some o → ¬ foot H o c p

def CellOk (K : Fg) (m : Bool) (sa : Option Addr) (H0 G H : Hp) (o : Option V) : Cell → Prop
  | .no => True
  | .dat d => ∃ v, o = some v ∧ Rp K G v d
  | .own ds => ∃ p vs, o = some (.ref p) ∧ H p = some (.lst vs) ∧ G p = none ∧ sa ≠ some p ∧ RpA K G vs ds ∧ (m = true → H0 p = none)
  | .spr => ∃ a, sa = some a ∧ o = some (.ref a)
  | .res R => ∃ v, o = some v ∧ R.ok K G H v ∧ ∀ b, R.ft H v b → G b = none ∧ sa ≠ some b ∧ (m = true → H0 b = none)
theorem foot_live {K : Fg} {m : Bool} {sa : Option Addr} {H0 G H : Hp} {o : Option V} {c : Cell} {b : Addr} (q : CellOk K m sa H0 G H o c) (f : foot H o c b) : H b ≠ none ∧ G b = none ∧ sa ≠ some b ∧ (m = true → H0 b = none) := by
  cases c with
  | own ds =>
    obtain ⟨p, vs, e1, hp, gp, ne, r, hm⟩ := q
    have f : o = some (.ref b) := f
    rw [e1] at f; cases f
    exact ⟨by rw [hp]; simp, gp, ne, hm⟩
  | res R =>
    obtain ⟨v, e1, h, k⟩ := q
    obtain ⟨v', e2, f⟩ := f
    rw [e1] at e2; cases e2
    exact ⟨R.lv _ _ _ _ _ h f, k b f⟩
  | no => exact f.elim
  | dat d => exact f.elim
  | spr => exact f.elim
theorem cell_move {K : Fg} {m : Bool} {sa : Option Addr} {H0 G G' H H' : Hp} {o : Option V} {c : Cell} (q : CellOk K m sa H0 G H o c) (g : Same G G') (h : ∀ b, foot H o c b → H' b = H b ∧ G' b = none) : CellOk K m sa H0 G' H' o c ∧ ∀ b, foot H' o c b → foot H o c b := by
  cases c with
  | own ds =>
    obtain ⟨p, vs, e1, hp, gp, ne, r, hm⟩ := q
    obtain ⟨h1, h2⟩ := h p e1
    exact ⟨⟨p, vs, e1, by rw [h1]; exact hp, h2, ne, r.mono g, hm⟩, fun b f => f⟩
  | res R =>
    obtain ⟨v, e1, k, l⟩ := q
    obtain ⟨k1, k2⟩ := R.mv K G G' H H' v k g fun b f => (h b ⟨v, e1, f⟩).1
    refine ⟨⟨v, e1, k1, fun b f => ⟨(h b ⟨v, e1, k2 b f⟩).2, (l b (k2 b f)).2⟩⟩, fun b f => ?_⟩
    obtain ⟨v', e2, f⟩ := f
    rw [e1] at e2; cases e2
    exact ⟨v, e1, k2 b f⟩
  | no => exact ⟨trivial, fun b f => f⟩
  | dat d =>
    obtain ⟨v, e1, r⟩ := q
    exact ⟨⟨v, e1, r.mono g⟩, fun b f => f⟩
  | spr => exact ⟨q, fun b f => f⟩
theorem cell_false {K : Fg} {m : Bool} {sa : Option Addr} {H0 H1 G H : Hp} {o : Option V} {c : Cell} (q : CellOk K m sa H0 G H o c) : CellOk K false sa H1 G H o c := by
  cases c with
  | own ds => obtain ⟨p, vs, e1, hp, gp, ne, r, hm⟩ := q; exact ⟨p, vs, e1, hp, gp, ne, r, fun z => nomatch z⟩
  | res R => obtain ⟨v, e1, k, l⟩ := q; exact ⟨v, e1, k, fun b f => ⟨(l b f).1, (l b f).2.1, fun z => nomatch z⟩⟩
  | no => trivial
  | dat d => exact q
  | spr => exact q

structure AtG (K : Fg) (m : Bool) (sa : Option Addr) (H0 G0 : Hp) (δ : List Cell) (E : Hp → Prop) (σ : L2.St) (G H : Hp) : Prop where
  gd : Gd sa H0 G0 G H
  len : σ.length = δ.length
  cell : ∀ (i : Nat) (c : Cell) (o : Option V), δ[i]? = some c → σ[i]? = some o → CellOk K m sa H0 G H o c
  dis : ∀ (i j : Nat) (c c' : Cell) (o o' : Option V), i ≠ j → δ[i]? = some c → δ[j]? = some c' → σ[i]? = some o → σ[j]? = some o' → ∀ b, foot H o c b → foot H o' c' b → False
  ex : E G
def At (K : Fg) (m : Bool) (sa : Option Addr) (H0 G0 : Hp) (δ : List Cell) (E : Hp → Prop) (σ : L2.St) (H : Hp) : Prop := ∃ G, AtG K m sa H0 G0 δ E σ G H
def Up (E : Hp → Prop) : Prop := ∀ G G', Same G G' → E G → E G'
theorem up_and {E F : Hp → Prop} (a : Up E) (b : Up F) : Up (fun G => E G ∧ F G) := fun G G' e h => ⟨a G G' e h.1, b G G' e h.2⟩
theorem up_rp {K : Fg} {v : V} {d : D} : Up (fun G => Rp K G v d) := fun _ _ e h => h.mono e
theorem up_rpA {K : Fg} {v : List V} {d : List D} : Up (fun G => RpA K G v d) := fun _ _ e h => h.mono e
theorem up_true : Up (fun _ => True) := fun _ _ _ _ => trivial

section
variable {K : Fg} {m : Bool} {sa : Option Addr} {H0 G0 G G' H H' : Hp} {δ : List Cell} {E E' : Hp → Prop} {σ : L2.St}
theorem AtG.slot (A : AtG K m sa H0 G0 δ E σ G H) {i : Nat} {c : Cell} (h : δ[i]? = some c) : ∃ o, σ[i]? = some o ∧ CellOk K m sa H0 G H o c := by
  have hi : i < σ.length := by rw [A.len]; exact (List.getElem?_eq_some_iff.mp h).1
  exact ⟨σ[i], List.getElem?_eq_getElem hi, A.cell i c _ h (List.getElem?_eq_getElem hi)⟩
theorem Gd.live (g : Gd sa H0 G0 G H) {b : Addr} (h : H0 b ≠ none) : H b ≠ none := by
  by_cases e : sa = some b
  · obtain ⟨⟨c, s, n, q⟩, _⟩ := g.sp b e
    rw [q]; simp
  · cases q : H0 b with
    | none => exact absurd q h
    | some o => rw [g.hh b o e q]; simp
theorem Gd.notIn (g : Gd sa H0 G0 G H) {a : Addr} (e : sa = some a) : G a = none := g.fr a (g.sp a e).2.1 (g.sp a e).2.2
/-- one step on: the ground grows, the heap keeps what it had but the spring -/
theorem AtG.grow (A : AtG K m sa H0 G0 δ E σ G H) (g : Same G G') (gh : Same G' H') (fr : ∀ b, H b ≠ none → G b = none → G' b = none) (hh : ExB sa H H') (sp : ∀ a, sa = some a → SprV H' a) (e : E' G') : AtG K m sa H0 G0 δ E' σ G' H' := by
  have mv : ∀ (i : Nat) (c : Cell) (o : Option V), δ[i]? = some c → σ[i]? = some o → CellOk K m sa H0 G' H' o c ∧ ∀ b, foot H' o c b → foot H o c b := fun i c o h1 h2 =>
    cell_move (A.cell i c o h1 h2) g fun b f => by
      obtain ⟨k1, k2, k3, _⟩ := foot_live (A.cell i c o h1 h2) f
      refine ⟨?_, fr b k1 k2⟩
      cases q : H b with
      | none => exact absurd q k1
      | some u => exact hh b u k3 q
  exact ⟨⟨A.gd.g0.trans g, gh, fun b h1 h2 => fr b (A.gd.live h1) (A.gd.fr b h1 h2), A.gd.hh.trans hh, fun a ea => ⟨sp a ea, (A.gd.sp a ea).2⟩⟩, A.len, fun i c o h1 h2 => (mv i c o h1 h2).1,
    fun i j c c' o o' hij h1 h2 h3 h4 b f1 f2 => A.dis i j c c' o o' hij h1 h2 h3 h4 b ((mv i c o h1 h3).2 b f1) ((mv j c' o' h2 h4).2 b f2), e⟩
/-- what is not there yet is held by no slot -/
theorem AtG.lone (A : AtG K m sa H0 G0 δ E σ G H) {p : Addr} (hp : H p = none) : Lone H δ σ p := fun j c o h1 h2 f => (foot_live (A.cell j c o h1 h2) f).1 hp
/-- .. nor once it is there -/
theorem AtG.lone_upd (A : AtG K m sa H0 G0 δ E σ G H) {p : Addr} {o : HO} (hp : H p = none) : Lone (upd H p o) δ σ p := fun j c o' h1 h2 f => by
  have mv := cell_move (H' := upd H p o) (A.cell j c o' h1 h2) (Same.refl _) fun b f => by
    obtain ⟨k1, k2, _⟩ := foot_live (A.cell j c o' h1 h2) f
    exact ⟨upd_ne fun z => k1 (by rw [z]; exact hp), k2⟩
  exact A.lone hp j c o' h1 h2 (mv.2 p f)
theorem AtG.lone_ex (A : AtG K m sa H0 G0 δ E σ G H) {p : Addr} (hp : Lone H δ σ p) (hh : ExB sa H H') : Lone H' δ σ p := fun j c o h1 h2 f => by
  have mv := cell_move (H' := H') (A.cell j c o h1 h2) (Same.refl _) fun b f => by
    obtain ⟨k1, k2, k3, _⟩ := foot_live (A.cell j c o h1 h2) f
    refine ⟨?_, k2⟩
    cases q : H b with
    | none => exact absurd q k1
    | some u => exact hh b u k3 q
  exact hp j c o h1 h2 (mv.2 p f)
/-- a new object -/
theorem AtG.new (A : AtG K m sa H0 G0 δ E σ G H) {p : Addr} {o : HO} (hp : H p = none) (e : E' (upd G p o)) : AtG K m sa H0 G0 δ E' σ (upd G p o) (upd H p o) := by
  have gp : G p = none := by
    cases q : G p with
    | none => rfl
    | some u => rw [A.gd.gh p u q] at hp; cases hp
  have s1 : Same G (upd G p o) := fun b x q => by rw [upd_ne (ne_of_none q gp)]; exact q
  have s2 : Same H (upd H p o) := fun b x q => by rw [upd_ne (ne_of_none q hp)]; exact q
  refine A.grow s1 (fun b x q => ?_) (fun b h1 h2 => ?_) (.of s2) (fun a ea => ?_) e
  · by_cases hb : b = p
    · subst hb; rw [upd_same] at q ⊢; exact q
    · rw [upd_ne hb] at q ⊢; exact A.gd.gh b x q
  · by_cases hb : b = p
    · subst hb; exact absurd hp h1
    · rw [upd_ne hb]; exact h2
  · obtain ⟨c, s, n, q⟩ := (A.gd.sp a ea).1
    exact ⟨c, s, n, s2 a _ q⟩
theorem AtG.same (A : AtG K m sa H0 G0 δ E σ G H) (e : E' G) : AtG K m sa H0 G0 δ E' σ G H := ⟨A.gd, A.len, A.cell, A.dis, e⟩
theorem At.imp (A : At K m sa H0 G0 δ E σ H) (h : ∀ G, E G → E' G) : At K m sa H0 G0 δ E' σ H := let ⟨G, a⟩ := A; ⟨G, a.same (h G a.ex)⟩
/-- what stands now is what stood at first: for what changes nothing but by growing -/
theorem AtG.base (A : AtG K m sa H0 G0 δ E σ G H) : AtG K false sa H G δ E σ G H := by
  refine ⟨⟨Same.refl _, A.gd.gh, fun _ _ h => h, .refl _ _, fun a ea => ⟨(A.gd.sp a ea).1, ?_, A.gd.notIn ea⟩⟩, A.len, fun i c o h1 h2 => ?_, A.dis, A.ex⟩
  · obtain ⟨⟨c, s, n, q⟩, _⟩ := A.gd.sp a ea
    rw [q]; simp
  · exact cell_false (A.cell i c o h1 h2)
/-- .. and back -/
theorem AtG.back (A : AtG K m sa H0 G0 δ E σ G H) (B : AtG K false sa H G δ E' σ G' H') : AtG K m sa H0 G0 δ E' σ G' H' :=
  A.grow B.gd.g0 B.gd.gh B.gd.fr B.gd.hh (fun a ea => (B.gd.sp a ea).1) B.ex
end

/-! ### what a reading gives, as data -/
def WE (K : Fg) (sa : Option Addr) (te : TE) (δ : List Cell) (P : D → Prop) : Prop := ∀ (m : Bool) (H0 G0 : Hp) (E : Hp → Prop), Up E → ∀ (σ : L2.St) (H : Hp), At K m sa H0 G0 δ E σ H →
  ∀ Q : VK, (∀ v d H', P d → At K m sa H0 G0 δ (fun G => E G ∧ Rp K G v d) σ H' → Q v H') → te σ H Q
def WT (K : Fg) (sa : Option Addr) (tt : TT) (δ : List Cell) (P : Bool → Prop) : Prop := ∀ (m : Bool) (H0 G0 : Hp) (E : Hp → Prop), Up E → ∀ (σ : L2.St) (H : Hp), At K m sa H0 G0 δ E σ H →
  ∀ Q : Bool → Hp → Prop, (∀ b H', P b → At K m sa H0 G0 δ E σ H' → Q b H') → tt σ H Q
def WA (K : Fg) (sa : Option Addr) (ta : TA) (δ : List Cell) (P : List D → Prop) : Prop := ∀ (m : Bool) (H0 G0 : Hp) (E : Hp → Prop), Up E → ∀ (σ : L2.St) (H : Hp), At K m sa H0 G0 δ E σ H →
  ∀ Q : List V → Hp → Prop, (∀ vs ds H', P ds → At K m sa H0 G0 δ (fun G => E G ∧ RpA K G vs ds) σ H' → Q vs H') → ta σ H Q
/-- a new list, held by nobody -/
def WF (K : Fg) (sa : Option Addr) (te : TE) (δ : List Cell) (P : List D → Prop) : Prop := ∀ (m : Bool) (H0 G0 : Hp) (E : Hp → Prop), Up E → ∀ (σ : L2.St) (H : Hp), At K m sa H0 G0 δ E σ H →
  ∀ Q : VK, (∀ p vs ds H', P ds → At K m sa H0 G0 δ (fun G => E G ∧ G p = none ∧ RpA K G vs ds) σ H' → H' p = some (.lst vs) → H0 p = none → sa ≠ some p →
    Lone H' δ σ p → Q (.ref p) H') → te σ H Q
/-- a two-place operation, a call of a built-in, on data -/
def OW (K : Fg) (sa : Option Addr) (r : R2) (d e : D) (P : D → Prop) : Prop := ∀ (m : Bool) (H0 G0 : Hp) (δ : List Cell) (E : Hp → Prop), Up E → ∀ (σ : L2.St) (H : Hp) (v w : V), At K m sa H0 G0 δ (fun G => E G ∧ Rp K G v d ∧ Rp K G w e) σ H →
  ∀ Q : VK, (∀ z d' H', P d' → At K m sa H0 G0 δ (fun G => E G ∧ Rp K G z d') σ H' → Q z H') → r v w H Q
def CW (K : Fg) (sa : Option Addr) (r : List V → Hp → VK → Prop) (ds : List D) (P : D → Prop) : Prop := ∀ (m : Bool) (H0 G0 : Hp) (δ : List Cell) (E : Hp → Prop), Up E → ∀ (σ : L2.St) (H : Hp) (vs : List V), At K m sa H0 G0 δ (fun G => E G ∧ RpA K G vs ds) σ H →
  ∀ Q : VK, (∀ z d' H', P d' → At K m sa H0 G0 δ (fun G => E G ∧ Rp K G z d') σ H' → Q z H') → r vs H Q

section
variable {K : Fg} {sa : Option Addr} {δ : List Cell} {P P' : D → Prop} {ta tb te : TE} {t u : TT} {r : R2}
theorem WE.imp (h : WE K sa te δ P') (k : ∀ d, P' d → P d) : WE K sa te δ P := fun m H0 G0 E up σ H A Q q => h m H0 G0 E up σ H A Q fun v d H' p a => q v d H' (k d p) a
theorem WT.imp {P P' : Bool → Prop} (h : WT K sa t δ P') (k : ∀ d, P' d → P d) : WT K sa t δ P := fun m H0 G0 E up σ H A Q q => h m H0 G0 E up σ H A Q fun d H' p a => q d H' (k d p) a
theorem we_var {i : Nat} {d : D} (h : δ[i]? = some (.dat d)) (p : P d) : WE K sa (tVar i) δ P := fun m H0 G0 E up σ H ⟨G, A⟩ Q q => by
  obtain ⟨o, e, v, ev, rv⟩ := A.slot h
  subst ev
  exact ⟨v, e, q v d H p ⟨G, A.same ⟨A.ex, rv⟩⟩⟩
theorem we_int {i : Int} (p : P (.int i)) : WE K sa (tC (.int i)) δ P := fun m H0 G0 E up σ H ⟨G, A⟩ Q q => q _ _ H p ⟨G, A.same ⟨A.ex, .int i⟩⟩
theorem we_bl {i : Bool} (p : P (.bool i)) : WE K sa (tC (.bl i)) δ P := fun m H0 G0 E up σ H ⟨G, A⟩ Q q => q _ _ H p ⟨G, A.same ⟨A.ex, .bl i⟩⟩
theorem we_str {i : Str} (p : P (.str i)) : WE K sa (tC (.str i)) δ P := fun m H0 G0 E up σ H ⟨G, A⟩ Q q => q _ _ H p ⟨G, A.same ⟨A.ex, .str i⟩⟩
theorem we_non (p : P .none) : WE K sa (tC .non) δ P := fun m H0 G0 E up σ H ⟨G, A⟩ Q q => q _ _ H p ⟨G, A.same ⟨A.ex, .non⟩⟩
theorem we_op (h : WE K sa ta δ fun d => WE K sa tb δ fun e => OW K sa r d e P) : WE K sa (tOp r ta tb) δ P := fun m H0 G0 E up σ H A Q q =>
  h m H0 G0 E up σ H A _ fun v d H1 h1 A1 => h1 m H0 G0 _ (up_and up up_rp) σ H1 A1 _ fun w e H2 h2 A2 => h2 m H0 G0 δ E up σ H2 v w (A2.imp fun _ x => ⟨x.1.1, x.1.2, x.2⟩) Q q
theorem wt_test {P : Bool → Prop} (h : WE K sa te δ fun d => ∃ b, d = .bool b ∧ P b) : WT K sa (tTest te) δ P := fun m H0 G0 E up σ H A Q q =>
  h m H0 G0 E up σ H A _ fun v d H1 ⟨b, e, p⟩ A1 => by
    subst e
    obtain ⟨G, a⟩ := A1
    exact ⟨b, a.ex.2.bl_inv, q b H1 p ⟨G, a.same a.ex.1⟩⟩
theorem wt_B {P : Bool → Prop} (h : WE K sa te δ fun d => ∃ b, d = .bool b ∧ P b) : WT K sa (tB te) δ P := wt_test h
theorem wt_not {P : Bool → Prop} (h : WT K sa t δ fun b => P (!b)) : WT K sa (tNot t) δ P := fun m H0 G0 E up σ H A Q q => h m H0 G0 E up σ H A _ fun b H1 p A1 => q _ H1 p A1
theorem wt_and {P : Bool → Prop} (h : WT K sa t δ fun b => (b = true → WT K sa u δ P) ∧ (b = false → P false)) : WT K sa (tAnd t u) δ P := fun m H0 G0 E up σ H A Q q =>
  h m H0 G0 E up σ H A _ fun b H1 p A1 => by
    cases b with
    | true => exact iteT (p.1 rfl m H0 G0 E up σ H1 A1 Q q)
    | false => exact iteF (q false H1 (p.2 rfl) A1)
theorem wt_or {P : Bool → Prop} (h : WT K sa t δ fun b => (b = false → WT K sa u δ P) ∧ (b = true → P true)) : WT K sa (tOr t u) δ P := fun m H0 G0 E up σ H A Q q =>
  h m H0 G0 E up σ H A _ fun b H1 p A1 => by
    cases b with
    | true => exact iteT (q true H1 (p.2 rfl) A1)
    | false => exact iteF (p.1 rfl m H0 G0 E up σ H1 A1 Q q)
theorem we_andV (h : WE K sa ta δ fun d => ∃ b, d = .bool b ∧ (b = true → WE K sa tb δ P) ∧ (b = false → P (.bool false))) : WE K sa (tAndV ta tb) δ P := fun m H0 G0 E up σ H A Q q =>
  h m H0 G0 E up σ H A _ fun v d H1 ⟨b, e, p1, p2⟩ ⟨G, a⟩ => by
    subst e
    refine ⟨b, a.ex.2.bl_inv, ?_⟩
    cases b with
    | true => exact iteT (p1 rfl m H0 G0 E up σ H1 ⟨G, a.same a.ex.1⟩ Q q)
    | false => exact iteF (q _ _ H1 (p2 rfl) ⟨G, a.same ⟨a.ex.1, .bl false⟩⟩)
theorem we_orV (h : WE K sa ta δ fun d => ∃ b, d = .bool b ∧ (b = false → WE K sa tb δ P) ∧ (b = true → P (.bool true))) : WE K sa (tOrV ta tb) δ P := fun m H0 G0 E up σ H A Q q =>
  h m H0 G0 E up σ H A _ fun v d H1 ⟨b, e, p1, p2⟩ ⟨G, a⟩ => by
    subst e
    refine ⟨b, a.ex.2.bl_inv, ?_⟩
    cases b with
    | false => exact iteF (p1 rfl m H0 G0 E up σ H1 ⟨G, a.same a.ex.1⟩ Q q)
    | true => exact iteT (q _ _ H1 (p2 rfl) ⟨G, a.same ⟨a.ex.1, .bl true⟩⟩)
theorem we_notV (h : WE K sa ta δ fun d => ∃ b, d = .bool b ∧ P (.bool (!b))) : WE K sa (tNotV ta) δ P := fun m H0 G0 E up σ H A Q q =>
  h m H0 G0 E up σ H A _ fun v d H1 ⟨b, e, p⟩ ⟨G, a⟩ => by
    subst e
    exact ⟨b, a.ex.2.bl_inv, q _ _ H1 p ⟨G, a.same ⟨a.ex.1, .bl _⟩⟩⟩
theorem we_if (h : WT K sa t δ fun b => (b = true → WE K sa ta δ P) ∧ (b = false → WE K sa tb δ P)) : WE K sa (tIf t ta tb) δ P := fun m H0 G0 E up σ H A Q q =>
  h m H0 G0 E up σ H A _ fun b H1 p A1 => by
    cases b with
    | true => exact iteT (p.1 rfl m H0 G0 E up σ H1 A1 Q q)
    | false => exact iteF (p.2 rfl m H0 G0 E up σ H1 A1 Q q)
theorem wa_nil {P : List D → Prop} (p : P []) : WA K sa tNil δ P := fun m H0 G0 E up σ H ⟨G, A⟩ Q q => q [] [] H p ⟨G, A.same ⟨A.ex, .nil⟩⟩
theorem wa_cons {P : List D → Prop} {tr : TA} (h : WE K sa ta δ fun d => WA K sa tr δ fun ds => P (d :: ds)) : WA K sa (tCons ta tr) δ P := fun m H0 G0 E up σ H A Q q =>
  h m H0 G0 E up σ H A _ fun v d H1 p A1 => p m H0 G0 _ (up_and up up_rp) σ H1 A1 _ fun vs ds H2 p2 A2 => q _ _ H2 p2 (A2.imp fun _ x => ⟨x.1.1, .cons x.1.2 x.2⟩)
theorem we_cb {ta : TA} {r : List V → Hp → VK → Prop} (h : WA K sa ta δ fun ds => CW K sa r ds P) : WE K sa (tCB r ta) δ P := fun m H0 G0 E up σ H A Q q =>
  h m H0 G0 E up σ H A _ fun vs ds H1 p A1 => p m H0 G0 δ E up σ H1 vs A1 Q q
theorem we_tup {ta : TA} (h : WA K sa ta δ fun ds => ds.length ≤ sizeLine ∧ P (.tuple ds)) : WE K sa (tTup ta) δ P := fun m H0 G0 E up σ H A Q q =>
  h m H0 G0 E up σ H A _ fun vs ds H1 p ⟨G, a⟩ => by
    refine ⟨by rw [a.ex.2.length]; exact p.1, fun x hx => ?_⟩
    have gx : G x = none := by
      cases z : G x with
      | none => rfl
      | some u => rw [a.gd.gh x u z] at hx; cases hx
    have s1 : Same G (upd G x (.tup vs)) := fun b o e => by rw [upd_ne (ne_of_none e gx)]; exact e
    exact q _ _ _ p.2 ⟨_, a.new hx ⟨up _ _ s1 a.ex.1, .tup upd_same (a.ex.2.mono s1)⟩⟩
/-- a new list: the heap's own words -/
theorem wf_new {m : Bool} {H0 G0 : Hp} {E : Hp → Prop} {σ : L2.St} {H : Hp} {vs : List V} {ds : List D} {P : List D → Prop} {Q : VK} (up : Up E) (A : At K m sa H0 G0 δ (fun G => E G ∧ RpA K G vs ds) σ H) (p : P ds)
    (q : ∀ p vs ds H', P ds → At K m sa H0 G0 δ (fun G => E G ∧ G p = none ∧ RpA K G vs ds) σ H' → H' p = some (.lst vs) → H0 p = none → sa ≠ some p →
      Lone H' δ σ p → Q (.ref p) H') {x : Addr} (hx : H x = none) : Q (.ref x) (upd H x (.lst vs)) := by
  obtain ⟨G, a⟩ := A
  have gx : G x = none := by
    cases z : G x with
    | none => rfl
    | some u => rw [a.gd.gh x u z] at hx; cases hx
  have s2 : Same H (upd H x (.lst vs)) := fun b o e => by rw [upd_ne (ne_of_none e hx)]; exact e
  refine q x vs ds _ p ⟨G, a.grow (Same.refl _) (a.gd.gh.trans s2) (fun _ _ h => h) (.of s2) (fun z ez => ?_) ⟨a.ex.1, gx, a.ex.2⟩⟩ upd_same ?_ ?_ (a.lone_upd hx)
  · obtain ⟨c, s, n, q⟩ := (a.gd.sp z ez).1
    exact ⟨c, s, n, s2 z _ q⟩
  · cases z : H0 x with
    | none => rfl
    | some o => exact absurd hx (a.gd.live (by rw [z]; simp))
  · intro z
    obtain ⟨c, s, n, q⟩ := (a.gd.sp x z).1
    rw [hx] at q; cases q
theorem wf_lst {ta : TA} {P : List D → Prop} (h : WA K sa ta δ fun ds => ds.length ≤ sizeLine ∧ P ds) : WF K sa (tLst ta) δ P := fun m H0 G0 E up σ H A Q q =>
  h m H0 G0 E up σ H A _ fun vs ds H1 p A1 => by
    refine ⟨?_, fun x hx => wf_new up A1 p.2 q hx⟩
    obtain ⟨G, a⟩ := A1
    rw [a.ex.2.length]; exact p.1
/-- it is let go: data from now on -/
theorem AtG.freeze {m : Bool} {H0 G0 G : Hp} {E E' : Hp → Prop} {σ : L2.St} {H : Hp} {p : Addr} {vs : List V} (A : AtG K m sa H0 G0 δ E σ G H) (gp : G p = none) (hp : H p = some (.lst vs)) (h0 : H0 p = none) (hs : sa ≠ some p)
    (hj : Lone H δ σ p) (e : E' (upd G p (.lst vs))) : AtG K m sa H0 G0 δ E' σ (upd G p (.lst vs)) H := by
  have s1 : Same G (upd G p (.lst vs)) := fun b o e => by rw [upd_ne (ne_of_none e gp)]; exact e
  refine ⟨⟨A.gd.g0.trans s1, fun b o q => ?_, fun b h1 h2 => ?_, A.gd.hh, A.gd.sp⟩, A.len, fun i c o h1 h2 => ?_, A.dis, e⟩
  · by_cases hb : b = p
    · subst hb; rw [upd_same] at q; cases q; exact hp
    · rw [upd_ne hb] at q; exact A.gd.gh b o q
  · by_cases hb : b = p
    · subst hb; exact absurd h0 h1
    · rw [upd_ne hb]; exact A.gd.fr b h1 h2
  · refine (cell_move (A.cell i c o h1 h2) s1 fun b f => ⟨rfl, ?_⟩).1
    rw [upd_ne (fun z => by subst z; exact hj i c o h1 h2 f)]
    exact (foot_live (A.cell i c o h1 h2) f).2.1
theorem we_fresh {P : D → Prop} (h : WF K sa te δ fun ds => P (.list ds)) : WE K sa te δ P := fun m H0 G0 E up σ H A Q q =>
  h m H0 G0 E up σ H A _ fun p vs ds H1 pp ⟨G, a⟩ hp h0 hs hj => by
    have s1 : Same G (upd G p (.lst vs)) := fun b o e => by rw [upd_ne (ne_of_none e a.ex.2.1)]; exact e
    exact q _ _ _ pp ⟨_, a.freeze a.ex.2.1 hp h0 hs hj ⟨up _ _ s1 a.ex.1, .lst upd_same (a.ex.2.2.mono s1)⟩⟩
end
end Dl

namespace Dl
open PySem PySem.Spec PyProof.Rows L2
section
variable {K : Fg} {sa : Option Addr} {δ : List Cell} {P P' : D → Prop} {ta tb te : TE} {t u : TT} {r r' : R2} {d e : D}
/-! ### operators -/
theorem OW.imp (h : OW K sa r d e P') (k : ∀ d, P' d → P d) : OW K sa r d e P := fun m H0 G0 δ E up σ H v w A Q q => h m H0 G0 δ E up σ H v w A Q fun z d' H' p a => q z d' H' (k d' p) a
theorem ow_inl (h : OW K sa r d e P) : OW K sa (fun x y H Q => r x y H Q ∨ r' x y H Q) d e P := fun m H0 G0 δ E up σ H v w A Q q => .inl (h m H0 G0 δ E up σ H v w A Q q)
theorem ow_inr (h : OW K sa r' d e P) : OW K sa (fun x y H Q => r x y H Q ∨ r' x y H Q) d e P := fun m H0 G0 δ E up σ H v w A Q q => .inr (h m H0 G0 δ E up σ H v w A Q q)
/-- an answer that is no object -/
theorem ow_at {z : V} {d' : D} (hz : ∀ G, Rp K G z d') (p : P d') (h : ∀ (G H : Hp) (v w : V) (Q : VK), Same G H → Rp K G v d → Rp K G w e → Q z H → r v w H Q) : OW K sa r d e P := fun m H0 G0 δ E up σ H v w ⟨G, a⟩ Q q =>
  h G H v w Q a.gd.gh a.ex.2.1 a.ex.2.2 (q z d' H p ⟨G, a.same ⟨a.ex.1, hz G⟩⟩)
theorem ow_I0i {g : Int → Int → Int} {i j : Int} (p : P (.int (g i j))) : OW K sa (rI0 fun i j => .int (g i j)) (.int i) (.int j) P :=
  ow_at (fun _ => .int _) p fun G H v w Q _ r1 r2 q => ⟨i, j, r1.int_inv, r2.int_inv, q⟩
theorem ow_I0b {g : Int → Int → Bool} {i j : Int} (p : P (.bool (g i j))) : OW K sa (rI0 fun i j => .bl (g i j)) (.int i) (.int j) P :=
  ow_at (fun _ => .bl _) p fun G H v w Q _ r1 r2 q => ⟨i, j, r1.int_inv, r2.int_inv, q⟩
theorem ow_Ii {C : Int → Int → Prop} {g : Int → Int → Int} {i j : Int} (c : C i j) (p : P (.int (g i j))) : OW K sa (rI C fun i j => .int (g i j)) (.int i) (.int j) P :=
  ow_at (fun _ => .int _) p fun G H v w Q _ r1 r2 q => ⟨i, j, r1.int_inv, r2.int_inv, c, q⟩
theorem ow_eqI {i j : Int} (p : P (.bool (decide (i = j)))) : OW K sa rEq (.int i) (.int j) P :=
  ow_at (z := .bl (decide (i = j))) (fun _ => .bl _) p fun G H v w Q _ r1 r2 q => by
    rw [r1.int_inv, r2.int_inv]
    refine ⟨rfl, ?_⟩
    have e : decide (V.int i = V.int j) = decide (i = j) := by rw [Bool.eq_iff_iff]; simp
    rw [e]; exact q
theorem ow_neI {i j : Int} (p : P (.bool (!decide (i = j)))) : OW K sa rNe (.int i) (.int j) P :=
  ow_at (z := .bl (!decide (i = j))) (fun _ => .bl _) p fun G H v w Q _ r1 r2 q => by
    rw [r1.int_inv, r2.int_inv]
    refine ⟨rfl, ?_⟩
    have e : decide (V.int i = V.int j) = decide (i = j) := by rw [Bool.eq_iff_iff]; simp
    rw [e]; exact q
theorem ow_eqS {i j : Str} (p : P (.bool (decide (i = j)))) : OW K sa rEq (.str i) (.str j) P :=
  ow_at (z := .bl (decide (i = j))) (fun _ => .bl _) p fun G H v w Q _ r1 r2 q => by
    rw [r1.str_inv, r2.str_inv]
    refine ⟨rfl, ?_⟩
    have e : decide (V.str i = V.str j) = decide (i = j) := by rw [Bool.eq_iff_iff]; simp
    rw [e]; exact q
theorem ow_neS {i j : Str} (p : P (.bool (!decide (i = j)))) : OW K sa rNe (.str i) (.str j) P :=
  ow_at (z := .bl (!decide (i = j))) (fun _ => .bl _) p fun G H v w Q _ r1 r2 q => by
    rw [r1.str_inv, r2.str_inv]
    refine ⟨rfl, ?_⟩
    have e : decide (V.str i = V.str j) = decide (i = j) := by rw [Bool.eq_iff_iff]; simp
    rw [e]; exact q
mutual
theorem Rp.dp {G : Hp} : ∀ {v : V} {d : D}, Rp K G v d → d.canLay0 = true → Dp K G v d
  | _, _, .non, _ => .non
  | _, _, .bl b, _ => .bl b
  | _, _, .int i, _ => .int i
  | _, _, .str x, _ => .str x
  | _, _, .lst s r, h => .lst (.inl (.inl s)) (RpA.dp r (by simpa [PyData.canLay0] using h))
  | _, _, .tup s r, h => .tup (.inl (.inl s)) (RpA.dp r (by simpa [PyData.canLay0] using h))
  | _, _, .dic _ _, h => by simp [PyData.canLay0] at h
  | _, _, .scr _, h => by simp [PyData.canLay0] at h
  | _, _, .dix _ _, h => by simp [PyData.canLay0] at h
theorem RpA.dp {G : Hp} : ∀ {v : List V} {d : List D}, RpA K G v d → PyData.canLayAll0 d = true → DpAll K G v d
  | _, _, .nil, _ => .nil
  | _, _, .cons r t, h => by
    have h' := (by simpa [PyData.canLayAll0] using h : _ ∧ _)
    exact .cons (Rp.dp r h'.1) (RpA.dp t h'.2)
end
theorem ow_eqD (h1 : SeqAt.shaped d = true) (h2 : SeqAt.shaped e = true) (p : P (.bool (PyData.eqv d e))) : OW K sa (rEqD K) d e P :=
  ow_at (fun _ => .bl _) p fun G H v w Q s r1 r2 q => ⟨d, e, (r1.mono s).dp (SeqAt.canLay_of_shaped h1), (r2.mono s).dp (SeqAt.canLay_of_shaped h2), h1, h2, q⟩
theorem ow_neD (h1 : SeqAt.shaped d = true) (h2 : SeqAt.shaped e = true) (p : P (.bool (!PyData.eqv d e))) : OW K sa (rNeD K) d e P :=
  ow_at (fun _ => .bl _) p fun G H v w Q s r1 r2 q => ⟨d, e, (r1.mono s).dp (SeqAt.canLay_of_shaped h1), (r2.mono s).dp (SeqAt.canLay_of_shaped h2), h1, h2, q⟩
/-- an item -/
theorem atI_rp {H : Hp} {xs : List V} {ds : List D} {i : Int} {x : D} (r : RpA K H xs ds) (h : atI ds i = some x) : ∃ v, atI xs i = some v ∧ Rp K H v x := by
  unfold atI at h ⊢
  rw [r.length]
  cases e : ixN ds.length i with
  | none => rw [e] at h; cases h
  | some j =>
    rw [e] at h
    exact r.get h
theorem ow_ixT {ds : List D} {i : Int} {x : D} (h : atI ds i = some x) (p : P x) : OW K sa (rIxT K) (.tuple ds) (.int i) P := fun m H0 G0 δ E up σ H v w ⟨G, a⟩ Q q => by
  obtain ⟨b, xs, e1, hs, rx⟩ := a.ex.2.1.tup_inv
  obtain ⟨z, hz, rz⟩ := atI_rp rx h
  exact ⟨b, xs, i, z, e1, a.ex.2.2.int_inv, sqT_mono a.gd.gh hs, hz, q z x H p ⟨G, a.same ⟨a.ex.1, rz⟩⟩⟩
theorem ow_ixL {ds : List D} {i : Int} {x : D} (h : atI ds i = some x) (p : P x) : OW K sa (rIxL K) (.list ds) (.int i) P := fun m H0 G0 δ E up σ H v w ⟨G, a⟩ Q q => by
  obtain ⟨b, xs, e1, hs, rx⟩ := a.ex.2.1.lst_inv
  obtain ⟨z, hz, rz⟩ := atI_rp rx h
  exact ⟨b, xs, i, z, e1, a.ex.2.2.int_inv, .inl (.inl (a.gd.gh _ _ hs)), hz, q z x H p ⟨G, a.same ⟨a.ex.1, rz⟩⟩⟩
theorem ow_ixT' {ds : List D} {i : Int} {x : D} (h : atI ds i = some x) (p : P x) : OW K sa (rIx K) (.tuple ds) (.int i) P := fun m H0 G0 δ E up σ H v w A Q q => .inr (.inl (ow_ixT h p m H0 G0 δ E up σ H v w A Q q))
theorem ow_ixL' {ds : List D} {i : Int} {x : D} (h : atI ds i = some x) (p : P x) : OW K sa (rIx K) (.list ds) (.int i) P := fun m H0 G0 δ E up σ H v w A Q q => .inl (ow_ixL h p m H0 G0 δ E up σ H v w A Q q)

/-! ### calls of built-ins -/
theorem CW.imp {rc : List V → Hp → VK → Prop} {ds : List D} (h : CW K sa rc ds P') (k : ∀ d, P' d → P d) : CW K sa rc ds P := fun m H0 G0 δ E up σ H v A Q q => h m H0 G0 δ E up σ H v A Q fun z d' H' p a => q z d' H' (k d' p) a
theorem cw_at {rc : List V → Hp → VK → Prop} {ds : List D} {z : V} {d' : D} (hz : ∀ G, Rp K G z d') (p : P d') (h : ∀ (G H : Hp) (vs : List V) (Q : VK), Same G H → RpA K G vs ds → Q z H → rc vs H Q) : CW K sa rc ds P := fun m H0 G0 δ E up σ H vs ⟨G, a⟩ Q q =>
  h G H vs Q a.gd.gh a.ex.2 (q z d' H p ⟨G, a.same ⟨a.ex.1, hz G⟩⟩)
theorem RpA.one {G : Hp} {vs : List V} {d : D} (r : RpA K G vs [d]) : ∃ v, vs = [v] ∧ Rp K G v d := by
  cases r with
  | cons r t => cases t; exact ⟨_, rfl, r⟩
theorem RpA.two {G : Hp} {vs : List V} {d e : D} (r : RpA K G vs [d, e]) : ∃ v w, vs = [v, w] ∧ Rp K G v d ∧ Rp K G w e := by
  cases r with
  | cons r t =>
    obtain ⟨w, e, q⟩ := t.one
    subst e
    exact ⟨_, _, rfl, r, q⟩
theorem cw_int {i : Int} (p : P (.int i)) : CW K sa (fun xs H Q => (∃ i, xs = [.int i] ∧ Q (.int i) H) ∨ ∃ k, xs = [.bl k] ∧ Q (.int (if k then 1 else 0)) H) [.int i] P :=
  cw_at (fun _ => .int _) p fun G H vs Q _ r q => by
    obtain ⟨v, e, rv⟩ := r.one
    exact .inl ⟨i, by rw [e, rv.int_inv], q⟩
theorem cw_intB {k : Bool} (p : P (.int (if k then 1 else 0))) : CW K sa (fun xs H Q => (∃ i, xs = [.int i] ∧ Q (.int i) H) ∨ ∃ k, xs = [.bl k] ∧ Q (.int (if k then 1 else 0)) H) [.bool k] P :=
  cw_at (fun _ => .int _) p fun G H vs Q _ r q => by
    obtain ⟨v, e, rv⟩ := r.one
    exact .inr ⟨k, by rw [e, rv.bl_inv], q⟩
theorem cw_abs {i : Int} (p : P (.int (if i < 0 then -i else i))) : CW K sa (fun xs H Q => ∃ i, xs = [.int i] ∧ Q (.int (if i < 0 then -i else i)) H) [.int i] P :=
  cw_at (fun _ => .int _) p fun G H vs Q _ r q => by
    obtain ⟨v, e, rv⟩ := r.one
    exact ⟨i, by rw [e, rv.int_inv], q⟩
theorem cw_max2 {i j : Int} (p : P (.int (if j > i then j else i))) : CW K sa (fun xs H Q => ∃ i j, xs = [.int i, .int j] ∧ Q (.int (if j > i then j else i)) H) [.int i, .int j] P :=
  cw_at (fun _ => .int _) p fun G H vs Q _ r q => by
    obtain ⟨v, w, e, rv, rw'⟩ := r.two
    exact ⟨i, j, by rw [e, rv.int_inv, rw'.int_inv], q⟩
theorem cw_min2 {i j : Int} (p : P (.int (if j < i then j else i))) : CW K sa (fun xs H Q => ∃ i j, xs = [.int i, .int j] ∧ Q (.int (if j < i then j else i)) H) [.int i, .int j] P :=
  cw_at (fun _ => .int _) p fun G H vs Q _ r q => by
    obtain ⟨v, w, e, rv, rw'⟩ := r.two
    exact ⟨i, j, by rw [e, rv.int_inv, rw'.int_inv], q⟩
theorem cw_lenL {ds : List D} (p : P (.int ds.length)) : CW K sa (fun xs H Q => ∃ x n, xs = [x] ∧ LenV K x H n ∧ Q (.int n) H) [.list ds] P :=
  cw_at (z := .int ds.length) (fun _ => .int _) p fun G H vs Q s r q => by
    obtain ⟨v, e, rv⟩ := r.one
    obtain ⟨a, xs, e2, h, rx⟩ := rv.lst_inv
    exact ⟨v, ds.length, e, by rw [e2]; exact .inl ⟨xs, .inl (.inl (s _ _ h)), rx.length.symm⟩, q⟩
theorem cw_lenT {ds : List D} (p : P (.int ds.length)) : CW K sa (fun xs H Q => ∃ x n, xs = [x] ∧ LenV K x H n ∧ Q (.int n) H) [.tuple ds] P :=
  cw_at (z := .int ds.length) (fun _ => .int _) p fun G H vs Q s r q => by
    obtain ⟨v, e, rv⟩ := r.one
    obtain ⟨a, xs, e2, h, rx⟩ := rv.tup_inv
    exact ⟨v, ds.length, e, by rw [e2]; exact .inr ⟨xs, sqT_mono s h, rx.length.symm⟩, q⟩
theorem cw_sum {ns : List Int} (p : P (.int ns.sum)) : CW K sa (rSum K) [.list (ns.map PyData.int)] P :=
  cw_at (z := .int ns.sum) (fun _ => .int _) p fun G H vs Q s r q => by
    obtain ⟨v, e, rv⟩ := r.one
    obtain ⟨a, xs, e2, h, rx⟩ := rv.lst_inv
    refine ⟨a, ns, by rw [e, e2], ?_, q⟩
    rw [← rx.ints]
    exact .inl (.inl (s _ _ h))
theorem cw_all {bs : List Bool} (p : P (.bool (bs.all id))) : CW K sa (rAll K) [.list (bs.map PyData.bool)] P :=
  cw_at (z := .bl (bs.all id)) (fun _ => .bl _) p fun G H vs Q s r q => by
    obtain ⟨v, e, rv⟩ := r.one
    obtain ⟨a, xs, e2, h, rx⟩ := rv.lst_inv
    refine ⟨a, bs, by rw [e, e2], ?_, q⟩
    rw [← rx.bools]
    exact .inl (.inl (s _ _ h))
theorem cw_any {bs : List Bool} (p : P (.bool (bs.any id))) : CW K sa (rAny K) [.list (bs.map PyData.bool)] P :=
  cw_at (z := .bl (bs.any id)) (fun _ => .bl _) p fun G H vs Q s r q => by
    obtain ⟨v, e, rv⟩ := r.one
    obtain ⟨a, xs, e2, h, rx⟩ := rv.lst_inv
    refine ⟨a, bs, by rw [e, e2], ?_, q⟩
    rw [← rx.bools]
    exact .inl (.inl (s _ _ h))
/-- a new tuple of what data tells -/
theorem at_newTup {m : Bool} {H0 G0 : Hp} {E : Hp → Prop} {σ : L2.St} {H : Hp} {vs : List V} {ds : List D} {Q : VK} (up : Up E) (A : At K m sa H0 G0 δ (fun G => E G ∧ RpA K G vs ds) σ H) (p : P (.tuple ds))
    (q : ∀ z d' H', P d' → At K m sa H0 G0 δ (fun G => E G ∧ Rp K G z d') σ H' → Q z H') {x : Addr} (hx : H x = none) : Q (.ref x) (upd H x (.tup vs)) := by
  obtain ⟨G, a⟩ := A
  have gx : G x = none := by
    cases z : G x with
    | none => rfl
    | some u => rw [a.gd.gh x u z] at hx; cases hx
  have s1 : Same G (upd G x (.tup vs)) := fun b o e => by rw [upd_ne (ne_of_none e gx)]; exact e
  exact q _ _ _ p ⟨_, a.new hx ⟨up _ _ s1 a.ex.1, .tup upd_same (a.ex.2.mono s1)⟩⟩
theorem cw_tupleL {ds : List D} (p : P (.tuple ds)) : CW K sa (fun xs H Q => ∃ p ys, xs = [.ref p] ∧ ((SqL K H p ys ∧ ∀ l, H l = none → Q (.ref l) (upd H l (.tup ys))) ∨ (SqT K H p ys ∧ Q (.ref p) H))) [.list ds] P := fun m H0 G0 δ E up σ H vs ⟨G, a⟩ Q q => by
  obtain ⟨v, e, rv⟩ := a.ex.2.one
  obtain ⟨b, xs, e2, h, rx⟩ := rv.lst_inv
  exact ⟨b, xs, by rw [e, e2], .inl ⟨.inl (.inl (a.gd.gh _ _ h)), fun l hl => at_newTup up ⟨G, a.same ⟨a.ex.1, rx⟩⟩ p q hl⟩⟩
theorem cw_tupleT {ds : List D} (p : P (.tuple ds)) : CW K sa (fun xs H Q => ∃ p ys, xs = [.ref p] ∧ ((SqL K H p ys ∧ ∀ l, H l = none → Q (.ref l) (upd H l (.tup ys))) ∨ (SqT K H p ys ∧ Q (.ref p) H))) [.tuple ds] P := fun m H0 G0 δ E up σ H vs ⟨G, a⟩ Q q => by
  obtain ⟨v, e, rv⟩ := a.ex.2.one
  obtain ⟨b, xs, e2, h, rx⟩ := rv.tup_is
  exact ⟨b, xs, by rw [e, e2], .inr ⟨.inl (.inl (a.gd.gh _ _ h)), q _ _ H p ⟨G, a.same ⟨a.ex.1, .tup h rx⟩⟩⟩⟩
/-- tuple + tuple, a slice of a tuple -/
theorem ow_catA {ds es : List D} (hz : ds.length + es.length ≤ sizeLine) (p : P (.tuple (ds ++ es))) : OW K sa (rCatA K) (.tuple ds) (.tuple es) P := fun m H0 G0 δ E up σ H v w ⟨G, a⟩ Q q => by
  obtain ⟨b, xs, e1, hs, rx⟩ := a.ex.2.1.tup_is
  obtain ⟨c, ys, e2, hs2, ry⟩ := a.ex.2.2.tup_is
  refine ⟨b, c, xs, ys, e1, e2, .inl (.inl (a.gd.gh _ _ hs)), .inl (.inl (a.gd.gh _ _ hs2)), by rw [rx.length, ry.length]; exact hz, fun ex => ?_, fun _ ey => ?_, fun _ _ x hx => ?_⟩
  · subst ex
    cases rx
    exact q _ _ H p ⟨G, a.same ⟨a.ex.1, .tup hs2 ry⟩⟩
  · subst ey
    cases ry
    rw [List.append_nil] at p
    exact q _ _ H p ⟨G, a.same ⟨a.ex.1, .tup hs rx⟩⟩
  · exact at_newTup up ⟨G, a.same ⟨a.ex.1, rx.append ry⟩⟩ p q hx
/-- list + list: a new list -/
theorem wf_cat {ta tb : TE} {P : List D → Prop} (h : WE K sa ta δ fun d => ∃ ds, d = .list ds ∧ WE K sa tb δ fun e => ∃ es, e = .list es ∧ ds.length + es.length ≤ sizeLine ∧ P (ds ++ es)) : WF K sa (tOp rCat ta tb) δ P := fun m H0 G0 E up σ H A Q q =>
  h m H0 G0 E up σ H A _ fun v d H1 ⟨ds, e1, h1⟩ A1 => h1 m H0 G0 _ (up_and up up_rp) σ H1 A1 _ fun w e H2 ⟨es, e2, hz, hp⟩ ⟨G, a⟩ => by
    subst e1 e2
    obtain ⟨b, xs, e1, hs, rx⟩ := a.ex.1.2.lst_inv
    obtain ⟨c, ys, e2, hs2, ry⟩ := a.ex.2.lst_inv
    exact ⟨b, c, xs, ys, e1, e2, a.gd.gh _ _ hs, a.gd.gh _ _ hs2, by rw [rx.length, ry.length]; exact hz, fun x hx => wf_new up ⟨G, a.same ⟨a.ex.1.1, rx.append ry⟩⟩ hp q hx⟩
theorem rpA_flat {G : Hp} {xs : List V} {ds : List D} (r : RpA K G xs ds) : ∀ n, RpA K G (List.replicate n xs).flatten (List.replicate n ds).flatten
  | 0 => .nil
  | n + 1 => by
    rw [List.replicate_succ, List.replicate_succ, List.flatten_cons, List.flatten_cons]
    exact r.append (rpA_flat r n)
/-! ### slices -/
def WO (K : Fg) (sa : Option Addr) (to : TO) (δ : List Cell) (P : Option Int → Prop) : Prop := ∀ (m : Bool) (H0 G0 : Hp) (E : Hp → Prop), Up E → ∀ (σ : L2.St) (H : Hp), At K m sa H0 G0 δ E σ H →
  ∀ Q : Option Int → Hp → Prop, (∀ o H', P o → At K m sa H0 G0 δ E σ H' → Q o H') → to σ H Q
theorem wo_none {P : Option Int → Prop} (p : P none) : WO K sa tNoPart δ P := fun m H0 G0 E up σ H A Q q => q _ _ p A
theorem wo_some {P : Option Int → Prop} (h : WE K sa te δ fun d => ∃ i, d = .int i ∧ P (some i)) : WO K sa (tPart te) δ P := fun m H0 G0 E up σ H A Q q =>
  h m H0 G0 E up σ H A _ fun v d H1 ⟨i, e, p⟩ ⟨G, a⟩ => by
    subst e
    exact ⟨i, a.ex.2.int_inv, q _ _ p ⟨G, a.same a.ex.1⟩⟩
def cutD (xs : List D) (lo hi : Option Int) : List D := (xs.drop (HT.sIx xs.length 0 lo)).take (HT.sIx xs.length xs.length hi - HT.sIx xs.length 0 lo)
theorem rpA_cut {G : Hp} {xs : List V} {ds : List D} (r : RpA K G xs ds) (lo hi : Option Int) : RpA K G (cutV xs lo hi) (cutD ds lo hi) := by
  unfold cutV cutD
  rw [r.length]
  exact (r.drop _).take _
theorem cutD_whole {ds : List D} {lo hi : Option Int} (h : HT.sIx ds.length 0 lo = 0 ∧ HT.sIx ds.length ds.length hi = ds.length) : cutD ds lo hi = ds := by
  unfold cutD
  rw [h.1, h.2]
  simp
theorem we_slT {tl th : TO} (h : WE K sa te δ fun d => ∃ ds, d = .tuple ds ∧ WO K sa tl δ fun l => WO K sa th δ fun u => P (.tuple (cutD ds l u))) : WE K sa (tSl (rSlA K) te tl th) δ P := fun m H0 G0 E up σ H A Q q =>
  h m H0 G0 E up σ H A _ fun v d H1 ⟨ds, e, h1⟩ A1 => h1 m H0 G0 _ (up_and up up_rp) σ H1 A1 _ fun l H2 h2 A2 => h2 m H0 G0 _ (up_and up up_rp) σ H2 A2 _ fun u H3 p ⟨G, a⟩ => by
    subst e
    obtain ⟨b, xs, e1, hs, rx⟩ := a.ex.2.tup_inv
    refine ⟨b, xs, e1, sqT_mono a.gd.gh hs, fun hw => ?_, fun hw x hx => ?_⟩
    · rw [rx.length] at hw
      have p : P (.tuple (cutD ds l u)) := p
      rw [cutD_whole hw] at p
      rw [← e1]
      exact q _ _ _ p ⟨G, a.same a.ex⟩
    · exact at_newTup up ⟨G, a.same ⟨a.ex.1, rpA_cut rx l u⟩⟩ p q hx
theorem wf_slL {tl th : TO} {P : List D → Prop} (h : WE K sa te δ fun d => ∃ ds, d = .list ds ∧ WO K sa tl δ fun l => WO K sa th δ fun u => P (cutD ds l u)) : WF K sa (tSl (rSlL K) te tl th) δ P := fun m H0 G0 E up σ H A Q q =>
  h m H0 G0 E up σ H A _ fun v d H1 ⟨ds, e, h1⟩ A1 => h1 m H0 G0 _ (up_and up up_rp) σ H1 A1 _ fun l H2 h2 A2 => h2 m H0 G0 _ (up_and up up_rp) σ H2 A2 _ fun u H3 p ⟨G, a⟩ => by
    subst e
    obtain ⟨b, xs, e1, hs, rx⟩ := a.ex.2.lst_inv
    exact ⟨b, xs, e1, .inl (.inl (a.gd.gh _ _ hs)), fun x hx => wf_new up ⟨G, a.same ⟨a.ex.1, rpA_cut rx l u⟩⟩ p q hx⟩
/-- list(..) of a list or a tuple -/
theorem wf_listof {ta : TA} {P : List D → Prop} (h : WA K sa ta δ fun es => ∃ ds, (es = [.list ds] ∨ es = [.tuple ds]) ∧ P ds) :
    WF K sa (tCB (fun xs H Q => ∃ p ys, xs = [.ref p] ∧ (SqL K H p ys ∨ SqT K H p ys) ∧ ∀ l, H l = none → Q (.ref l) (upd H l (.lst ys))) ta) δ P := fun m H0 G0 E up σ H A Q q =>
  h m H0 G0 E up σ H A _ fun vs es H1 ⟨ds, e, p⟩ ⟨G, a⟩ => by
    rcases e with e | e
    · subst e
      obtain ⟨v, e, rv⟩ := a.ex.2.one
      obtain ⟨b, xs, e2, h, rx⟩ := rv.lst_inv
      exact ⟨b, xs, by rw [e, e2], .inl (.inl (.inl (a.gd.gh _ _ h))), fun l hl => wf_new up ⟨G, a.same ⟨a.ex.1, rx⟩⟩ p q hl⟩
    · subst e
      obtain ⟨v, e, rv⟩ := a.ex.2.one
      obtain ⟨b, xs, e2, h, rx⟩ := rv.tup_inv
      exact ⟨b, xs, by rw [e, e2], .inr (sqT_mono a.gd.gh h), fun l hl => wf_new up ⟨G, a.same ⟨a.ex.1, rx⟩⟩ p q hl⟩
/-- list * int -/
theorem wf_rep {ta tb : TE} {P : List D → Prop} (h : WE K sa ta δ fun d => ∃ ds, d = .list ds ∧ WE K sa tb δ fun e => ∃ k, e = .int k ∧ (-(2 ^ 63) ≤ k ∧ k < 2 ^ 63) ∧ ds.length * k.toNat ≤ sizeLine ∧ P (List.replicate k.toNat ds).flatten) : WF K sa (tOp rRep ta tb) δ P := fun m H0 G0 E up σ H A Q q =>
  h m H0 G0 E up σ H A _ fun v d H1 ⟨ds, e1, h1⟩ A1 => h1 m H0 G0 _ (up_and up up_rp) σ H1 A1 _ fun w e H2 ⟨k, e2, hk, hz, hp⟩ ⟨G, a⟩ => by
    subst e1 e2
    obtain ⟨b, xs, e1, hs, rx⟩ := a.ex.1.2.lst_inv
    refine ⟨b, k, xs, e1, a.ex.2.int_inv, a.gd.gh _ _ hs, hk.1, hk.2, by rw [rx.length]; exact hz, fun x hx => ?_⟩
    exact wf_new up ⟨G, a.same ⟨a.ex.1.1, rpA_flat rx k.toNat⟩⟩ hp q hx
end
end Dl

namespace Dl
open PySem PySem.Spec PyProof.Rows L2
/-! ### statements -/
structure DE where
  nx : List Cell → Prop
  rt : D → Prop
  bk : List Cell → Prop
  ct : List Cell → Prop
structure Real (K : Fg) (sa : Option Addr) (H0 G0 : Hp) (E : Hp → Prop) (D' : DE) (Dn : Ends) : Prop where
  nx : ∀ δ σ H, D'.nx δ → At K true sa H0 G0 δ E σ H → Dn.nx σ H
  bk : ∀ δ σ H, D'.bk δ → At K true sa H0 G0 δ E σ H → Dn.bk σ H
  ct : ∀ δ σ H, D'.ct δ → At K true sa H0 G0 δ E σ H → Dn.ct σ H
  rt : ∀ δ v d σ H, D'.rt d → At K true sa H0 G0 δ (fun G => E G ∧ Rp K G v d) σ H → Dn.rt v H
def WS (K : Fg) (sa : Option Addr) (t : TS) (D' : DE) (δ : List Cell) : Prop := ∀ (H0 G0 : Hp) (E : Hp → Prop), Up E → ∀ (σ : L2.St) (H : Hp) (Dn : Ends), At K true sa H0 G0 δ E σ H → Real K sa H0 G0 E D' Dn → t Dn σ H

section
variable {K : Fg} {sa : Option Addr} {m : Bool} {H0 G0 G G' H H' : Hp} {δ : List Cell} {E E' : Hp → Prop} {σ : L2.St}
theorem set_at {α : Type} {l : List α} {i j : Nat} {x y : α} (h : (l.set i x)[j]? = some y) : (i = j ∧ x = y ∧ i < l.length) ∨ (i ≠ j ∧ l[j]? = some y) := by
  by_cases e : i = j
  · subst e
    have hi : i < l.length := by
      have := (List.getElem?_eq_some_iff.mp h).1
      rwa [List.length_set] at this
    rw [List.getElem?_set_self hi] at h
    exact .inl ⟨rfl, Option.some.inj h, hi⟩
  · rw [List.getElem?_set_ne e] at h
    exact .inr ⟨e, h⟩
/-- a slot stored anew -/
theorem AtG.put (A : AtG K m sa H0 G0 δ E σ G H) (i : Nat) {c0 : Cell} {o0 : Option V} (hc : CellOk K m sa H0 G H o0 c0) (hf : ∀ b, foot H o0 c0 b → Lone H δ σ b) : AtG K m sa H0 G0 (δ.set i c0) E (σ.set i o0) G H := by
  refine ⟨A.gd, by rw [List.length_set, List.length_set]; exact A.len, fun j c o h1 h2 => ?_, fun j k c c' o o' hjk h1 h2 h3 h4 b f1 f2 => ?_, A.ex⟩
  · rcases set_at h1 with ⟨e, e1, _⟩ | ⟨e, k1⟩
    · rcases set_at h2 with ⟨_, e2, _⟩ | ⟨n, _⟩
      · subst e1 e2; exact hc
      · exact absurd e n
    · rcases set_at h2 with ⟨n, _, _⟩ | ⟨_, k2⟩
      · exact absurd n e
      · exact A.cell j c o k1 k2
  · rcases set_at h1 with ⟨e, e1, _⟩ | ⟨e, k1⟩
    · rcases set_at h3 with ⟨_, e3, _⟩ | ⟨n, _⟩
      · rcases set_at h2 with ⟨n, _, _⟩ | ⟨n2, k2⟩
        · exact hjk (e.symm.trans n)
        · rcases set_at h4 with ⟨n, _, _⟩ | ⟨_, k4⟩
          · exact n2 n
          · subst e1 e3; exact hf b f1 k c' o' k2 k4 f2
      · exact n e
    · rcases set_at h3 with ⟨n, _, _⟩ | ⟨_, k3⟩
      · exact e n
      · rcases set_at h2 with ⟨e2, e5, _⟩ | ⟨n2, k2⟩
        · rcases set_at h4 with ⟨_, e4, _⟩ | ⟨n, _⟩
          · subst e5 e4; exact hf b f2 j c o k1 k3 f1
          · exact n e2
        · rcases set_at h4 with ⟨n, _, _⟩ | ⟨_, k4⟩
          · exact n2 n
          · exact A.dis j k c c' o o' hjk k1 k2 k3 k4 b f1 f2
/-- a slot read otherwise, its value as it was -/
theorem AtG.recell (A : AtG K m sa H0 G0 δ E σ G H) (i : Nat) {c0 : Cell} (hc : ∀ c o, δ[i]? = some c → σ[i]? = some o → CellOk K m sa H0 G H o c0 ∧ ∀ b, foot H o c0 b → foot H o c b) : AtG K m sa H0 G0 (δ.set i c0) E σ G H := by
  have key : ∀ {j : Nat} {c : Cell} {o : Option V}, (δ.set i c0)[j]? = some c → σ[j]? = some o → ∃ c2, δ[j]? = some c2 ∧ CellOk K m sa H0 G H o c ∧ ∀ b, foot H o c b → foot H o c2 b := fun {j c o} h1 h2 => by
    rcases set_at h1 with ⟨e, e1, hi⟩ | ⟨e, k1⟩
    · subst e e1
      have hd : δ[i]? = some δ[i] := List.getElem?_eq_getElem hi
      exact ⟨_, hd, hc _ o hd h2⟩
    · exact ⟨c, k1, A.cell j c o k1 h2, fun b f => f⟩
  refine ⟨A.gd, by rw [List.length_set]; exact A.len, fun j c o h1 h2 => ?_, fun j k c c' o o' hjk h1 h2 h3 h4 b f1 f2 => ?_, A.ex⟩
  · obtain ⟨_, _, q, _⟩ := key h1 h2; exact q
  · obtain ⟨d1, k1, _, g1⟩ := key h1 h3
    obtain ⟨d2, k2, _, g2⟩ := key h2 h4
    exact A.dis j k d1 d2 o o' hjk k1 k2 h3 h4 b (g1 b f1) (g2 b f2)
/-- what a slot holds is changed in place -/
theorem AtG.over {c c0 : Cell} {o : Option V} {i : Nat} (A : AtG K true sa H0 G0 δ E σ G H) (hi : δ[i]? = some c) (hs : σ[i]? = some o) (hx : ∀ b u, ¬ foot H o c b → H b = some u → H' b = some u) (hc : CellOk K true sa H0 G H' o c0) (hf : ∀ b, foot H' o c0 b → foot H o c b ∨ H b = none) : AtG K true sa H0 G0 (δ.set i c0) E σ G H' := by
  have own := A.cell i c o hi hs
  have mv : ∀ {j : Nat} {c1 : Cell} {o1 : Option V}, i ≠ j → δ[j]? = some c1 → σ[j]? = some o1 → CellOk K true sa H0 G H' o1 c1 ∧ ∀ b, foot H' o1 c1 b → foot H o1 c1 b := fun {j c1 o1} n k1 k2 =>
    cell_move (A.cell j c1 o1 k1 k2) (Same.refl _) fun b f => by
      obtain ⟨l1, l2, _⟩ := foot_live (A.cell j c1 o1 k1 k2) f
      refine ⟨?_, l2⟩
      cases q : H b with
      | none => exact absurd q l1
      | some u => exact hx b u (fun f2 => A.dis i j c c1 o o1 n hi k1 hs k2 b f2 f) q
  refine ⟨⟨A.gd.g0, fun b u q => ?_, A.gd.fr, fun b u n q => ?_, fun a ea => ⟨?_, (A.gd.sp a ea).2⟩⟩, by rw [List.length_set]; exact A.len, fun j c1 o1 h1 h2 => ?_, fun j k c1 c2 o1 o2 hjk h1 h2 h3 h4 b f1 f2 => ?_, A.ex⟩
  · exact hx b u (fun f => by rw [(foot_live own f).2.1] at q; cases q) (A.gd.gh b u q)
  · exact hx b u (fun f => by rw [(foot_live own f).2.2.2 rfl] at q; cases q) (A.gd.hh b u n q)
  · obtain ⟨x, y, z, q⟩ := (A.gd.sp a ea).1
    exact ⟨x, y, z, hx a _ (fun f => (foot_live own f).2.2.1 ea) q⟩
  · rcases set_at h1 with ⟨e, e1, _⟩ | ⟨e, k1⟩
    · subst e e1
      rw [hs] at h2; cases h2
      exact hc
    · exact (mv e k1 h2).1
  · have lone : ∀ {j : Nat} {c1 : Cell} {o1 : Option V}, i ≠ j → δ[j]? = some c1 → σ[j]? = some o1 → ∀ b, foot H' o c0 b → foot H' o1 c1 b → False := fun {j c1 o1} n k1 k2 b g1 g2 => by
      have g2 := (mv n k1 k2).2 b g2
      rcases hf b g1 with z | z
      · exact A.dis i j c c1 o o1 n hi k1 hs k2 b z g2
      · exact (foot_live (A.cell j c1 o1 k1 k2) g2).1 z
    rcases set_at h1 with ⟨e, e1, _⟩ | ⟨e, k1⟩
    · subst e e1
      rw [hs] at h3; cases h3
      rcases set_at h2 with ⟨n, _, _⟩ | ⟨n2, k2⟩
      · exact hjk n
      · exact lone n2 k2 h4 b f1 f2
    · rcases set_at h2 with ⟨e2, e5, _⟩ | ⟨n2, k2⟩
      · subst e2 e5
        rw [hs] at h4; cases h4
        exact lone e k1 h3 b f2 f1
      · exact A.dis j k c1 c2 o1 o2 hjk k1 k2 h3 h4 b ((mv e k1 h3).2 b f1) ((mv n2 k2 h4).2 b f2)
/-- a slot stored: data -/
theorem AtG.set (A : AtG K m sa H0 G0 δ (fun G => E G ∧ Rp K G v d) σ G H) (i : Nat) : AtG K m sa H0 G0 (δ.set i (.dat d)) E (σ.set i (some v)) G H :=
  (A.same (E' := E) A.ex.1).put i (c0 := .dat d) ⟨v, rfl, A.ex.2⟩ fun b f => f.elim
/-- a slot stored: a list of one's own -/
theorem AtG.setOwn {p : Addr} {vs : List V} {ds : List D} (A : AtG K m sa H0 G0 δ (fun G => E G ∧ G p = none ∧ RpA K G vs ds) σ G H) (i : Nat) (hp : H p = some (.lst vs)) (h0 : H0 p = none) (hs : sa ≠ some p)
    (hj : Lone H δ σ p) : AtG K m sa H0 G0 (δ.set i (.own ds)) E (σ.set i (some (.ref p))) G H :=
  (A.same (E' := E) A.ex.1).put i (c0 := .own ds) ⟨p, vs, rfl, hp, A.ex.2.1, hs, A.ex.2.2, fun _ => h0⟩ fun b f => by
    have f : some (V.ref p) = some (.ref b) := f
    cases f
    exact hj
/-- a list of one's own changed in place -/
theorem AtG.mut {p : Addr} {vs' : List V} {ds ds' : List D} {i : Nat} (A : AtG K true sa H0 G0 δ E σ G H) (hi : δ[i]? = some (.own ds)) (hs : σ[i]? = some (some (.ref p))) (r : RpA K G vs' ds') : AtG K true sa H0 G0 (δ.set i (.own ds')) E σ G (upd H p (.lst vs')) := by
  obtain ⟨o, e1, p', vs0, e2, hp, gp, ne, r0, h0⟩ := A.slot hi
  rw [hs] at e1; cases e1; cases e2
  exact A.over hi hs (fun b u nf q => by rw [upd_ne (fun z => nf (by subst z; rfl))]; exact q) ⟨p, vs', rfl, upd_same, gp, ne, r, h0⟩ fun b f => .inl f
/-- a list of one's own let go -/
theorem AtG.melt {ds : List D} {i : Nat} (A : AtG K true sa H0 G0 δ E σ G H) (hi : δ[i]? = some (.own ds)) (up : Up E) : ∃ p G', σ[i]? = some (some (.ref p)) ∧ AtG K true sa H0 G0 (δ.set i (.dat (.list ds))) (fun G => E G ∧ Rp K G (.ref p) (.list ds)) σ G' H := by
  obtain ⟨o, e1, p, vs, e2, hp, gp, ne, r, h0⟩ := A.slot hi
  subst e2
  have s1 : Same G (upd G p (.lst vs)) := fun b o e => by rw [upd_ne (ne_of_none e gp)]; exact e
  have rp : Rp K (upd G p (.lst vs)) (.ref p) (.list ds) := .lst upd_same (r.mono s1)
  -- first without the slot
  have B : AtG K true sa H0 G0 (δ.set i .no) E σ G H := A.recell i fun c o _ _ => ⟨trivial, fun b f => f.elim⟩
  have hl : Lone H (δ.set i .no) σ p := fun j c o h1 h2 f => by
    rcases set_at h1 with ⟨e, e3, _⟩ | ⟨e, k1⟩
    · subst e3; exact f.elim
    · exact A.dis i j (.own ds) c _ o e hi k1 e1 h2 p rfl f
  have C := B.freeze (E' := fun G => E G ∧ Rp K G (.ref p) (.list ds)) gp hp (h0 rfl) ne hl ⟨up _ _ s1 A.ex, rp⟩
  have D := C.recell i (c0 := .dat (.list ds)) fun c o _ h2 => by
    rw [e1] at h2; cases h2
    exact ⟨⟨_, rfl, rp⟩, fun b f => f.elim⟩
  rw [List.set_set] at D
  exact ⟨p, _, e1, D⟩
end
section
variable {K : Fg} {sa : Option Addr} {δ : List Cell} {nx : List Cell → Prop} {rt : D → Prop} {bk ct : List Cell → Prop} {ta tb te : TE} {c : TT} {t u : TS}
theorem ws_seq (h : WS K sa t ⟨fun δ' => WS K sa u ⟨nx, rt, bk, ct⟩ δ', rt, bk, ct⟩ δ) : WS K sa (tSeq t u) ⟨nx, rt, bk, ct⟩ δ := fun H0 G0 E up σ H Dn A R =>
  h H0 G0 E up σ H { Dn with nx := u Dn } A ⟨fun δ' σ' H' w A' => w H0 G0 E up σ' H' Dn A' R, R.bk, R.ct, R.rt⟩
theorem ws_next (h : nx δ) : WS K sa tNext ⟨nx, rt, bk, ct⟩ δ := fun H0 G0 E up σ H Dn A R => R.nx δ σ H h A
theorem ws_break (h : bk δ) : WS K sa tBreak ⟨nx, rt, bk, ct⟩ δ := fun H0 G0 E up σ H Dn A R => R.bk δ σ H h A
theorem ws_cont (h : ct δ) : WS K sa tCont ⟨nx, rt, bk, ct⟩ δ := fun H0 G0 E up σ H Dn A R => R.ct δ σ H h A
theorem ws_set {i : Nat} (h : WE K sa te δ fun d => nx (δ.set i (.dat d))) : WS K sa (tAsg te (gName i)) ⟨nx, rt, bk, ct⟩ δ := fun H0 G0 E up σ H Dn A R =>
  h true H0 G0 E up σ H A _ fun v d H1 p ⟨G, a⟩ => R.nx _ _ _ p ⟨G, a.set i⟩
theorem ws_setF {i : Nat} (h : WF K sa te δ fun ds => nx (δ.set i (.own ds))) : WS K sa (tAsg te (gName i)) ⟨nx, rt, bk, ct⟩ δ := fun H0 G0 E up σ H Dn A R =>
  h true H0 G0 E up σ H A _ fun p vs ds H1 pp ⟨G, a⟩ hp h0 hs hj => R.nx _ _ _ pp ⟨G, a.setOwn i hp h0 hs hj⟩
theorem ws_ret (h : WE K sa te δ rt) : WS K sa (tRet te) ⟨nx, rt, bk, ct⟩ δ := fun H0 G0 E up σ H Dn A R =>
  h true H0 G0 E up σ H A _ fun v d H1 p A1 => R.rt δ v d σ H1 p A1
theorem ws_retN (h : rt .none) : WS K sa tRetN ⟨nx, rt, bk, ct⟩ δ := fun H0 G0 E up σ H Dn ⟨G, a⟩ R => R.rt δ .non .none σ H h ⟨G, a.same ⟨a.ex, .non⟩⟩
theorem ws_retOwn {i : Nat} {ds : List D} (hi : δ[i]? = some (.own ds)) (h : rt (.list ds)) : WS K sa (tRet (tVar i)) ⟨nx, rt, bk, ct⟩ δ := fun H0 G0 E up σ H Dn ⟨G, a⟩ R => by
  obtain ⟨p, G', e, b⟩ := a.melt hi up
  exact ⟨_, e, R.rt _ _ _ _ _ h ⟨G', b⟩⟩
theorem ws_if (h : WT K sa c δ fun b => (b = true → WS K sa t ⟨nx, rt, bk, ct⟩ δ) ∧ (b = false → WS K sa u ⟨nx, rt, bk, ct⟩ δ)) : WS K sa (tIfS c t u) ⟨nx, rt, bk, ct⟩ δ := fun H0 G0 E up σ H Dn A R =>
  h true H0 G0 E up σ H A _ fun b H1 p A1 => by
    cases b with
    | true => exact iteT (p.1 rfl H0 G0 E up σ H1 Dn A1 R)
    | false => exact iteF (p.2 rfl H0 G0 E up σ H1 Dn A1 R)
theorem ws_expr (h : WE K sa te δ fun _ => nx δ) : WS K sa (tDrop te) ⟨nx, rt, bk, ct⟩ δ := fun H0 G0 E up σ H Dn A R =>
  h true H0 G0 E up σ H A _ fun v d H1 p A1 => R.nx _ _ _ p (A1.imp fun _ x => x.1)
theorem ws_aug {i : Nat} {f : Int → Int → Int} {a : Int} (hi : δ[i]? = some (.dat (.int a))) (h : WE K sa te δ fun d => ∃ b, d = .int b ∧ nx (δ.set i (.dat (.int (f a b))))) : WS K sa (tAug i te (ipI f)) ⟨nx, rt, bk, ct⟩ δ := fun H0 G0 E up σ H Dn ⟨G, A⟩ R => by
  obtain ⟨o, e, v, ev, rv⟩ := A.slot hi
  subst ev
  refine ⟨v, e, h true H0 G0 E up σ H ⟨G, A⟩ _ fun w d H1 ⟨b, e2, p⟩ ⟨G1, a1⟩ => ?_⟩
  subst e2
  exact ⟨a, b, rv.int_inv, a1.ex.2.int_inv, R.nx _ _ _ p ⟨G1, (a1.same (E' := fun G => E G ∧ Rp K G (.int (f a b)) (.int (f a b))) ⟨a1.ex.1, .int _⟩).set i⟩⟩
/-- x, y = a, b -/
theorem ws_par {i j : Nat} {ta : TA} (h : WA K sa ta δ fun ds => ∃ d e, ds = [d, e] ∧ nx ((δ.set i (.dat d)).set j (.dat e))) : WS K sa (tPar i j ta) ⟨nx, rt, bk, ct⟩ δ := fun H0 G0 E up σ H Dn A R =>
  h true H0 G0 E up σ H A _ fun vs ds H1 ⟨d, e, es, p⟩ ⟨G, a⟩ => by
    subst es
    obtain ⟨v, w, ev, r1, r2⟩ := a.ex.2.two
    exact ⟨v, w, ev, R.nx _ _ _ p ⟨G, ((a.same (E' := fun G => (E G ∧ Rp K G w e) ∧ Rp K G v d) ⟨⟨a.ex.1, r2⟩, r1⟩).set i).set j⟩⟩
/-- xs.append(e), xs one's own -/
theorem ws_append {i : Nat} {ds : List D} (hi : δ[i]? = some (.own ds)) (hz : ds.length < sizeLine) (h : WE K sa te δ fun d => nx (δ.set i (.own (ds ++ [d])))) : WS K sa (tDrop (tBM K "list" rAppend (tVar i) (tCons te tNil))) ⟨nx, rt, bk, ct⟩ δ := fun H0 G0 E up σ H Dn ⟨G, A⟩ R => by
  obtain ⟨o, e, p, vs, ep, hp, gp, ne, r, hm⟩ := A.slot hi
  subst ep
  refine ⟨_, e, .inl ⟨rfl, vs, .inl (.inl hp)⟩, h true H0 G0 E up σ H ⟨G, A⟩ _ fun w d H1 pp ⟨G1, a1⟩ => ?_⟩
  obtain ⟨o', e', p', vs', ep', hp', gp', ne', r', hm'⟩ := a1.slot hi
  rw [e] at e'; cases e'; cases ep'
  exact ⟨p, vs', w, rfl, rfl, hp', by rw [r'.length]; exact hz, R.nx _ _ _ pp ⟨G1, ((a1.same (E' := E) a1.ex.1).mut hi e (r'.snoc a1.ex.2))⟩⟩
/-- x = xs.pop(i) -/
theorem ws_pop {i j : Nat} {ds : List D} {ti : TE} (hi : δ[i]? = some (.own ds)) (hij : i ≠ j) (h : WE K sa ti δ fun d => ∃ (k : Nat) (x : D), d = .int (k : Int) ∧ k < 2 ^ 62 ∧ ds[k]? = some x ∧ nx ((δ.set i (.own (ds.eraseIdx k))).set j (.dat x))) :
    WS K sa (tAsg (tBM K "list" rPopAt (tVar i) (tCons ti tNil)) (gName j)) ⟨nx, rt, bk, ct⟩ δ := fun H0 G0 E up σ H Dn ⟨G, A⟩ R => by
  obtain ⟨o, e, p, vs, ep, hp, gp, ne, r, hm⟩ := A.slot hi
  subst ep
  refine ⟨_, e, .inl ⟨rfl, vs, .inl (.inl hp)⟩, h true H0 G0 E up σ H ⟨G, A⟩ _ fun w d H1 ⟨k, x, ed, hk, hx, pp⟩ ⟨G1, a1⟩ => ?_⟩
  subst ed
  obtain ⟨o', e', p', vs', ep', hp', gp', ne', r', hm'⟩ := a1.slot hi
  rw [e] at e'; cases e'; cases ep'
  obtain ⟨y, hy, ry⟩ := r'.get hx
  have hlt : k < vs'.length := (List.getElem?_eq_some_iff.mp hy).1
  refine ⟨p, vs', k, k, y, rfl, by rw [a1.ex.2.int_inv], hp', by omega, by omega, ?_, hy, R.nx _ _ _ pp ⟨G1, (((a1.same (E' := fun G => E G ∧ Rp K G y x) ⟨a1.ex.1, ry⟩).mut hi e (r'.eraseIdx k))).set j⟩⟩
  unfold seqIndex?
  have h0 : ¬ ((k : Int) < 0) := by omega
  have h1 : (decide (0 ≤ (k : Int)) && decide ((k : Int) < (vs'.length : Int))) = true := by simp [hlt]
  simp only [if_neg h0]
  rw [if_pos h1]
  simp
end
end Dl

namespace Dl
open PySem PySem.Spec PyProof.Rows L2
/-! ### what is walked -/
structure Itd (K : Fg) (J : It) (Stay : Hp → Prop) (G : Hp) (ds : List D) : Prop where
  go : ∀ i H, i < ds.length → Stay H → J.go i H
  stop : ∀ H, Stay H → J.stop ds.length H
  yld : ∀ i H x H', i < ds.length → Stay H → J.yld i H x H' → ∃ d, ds[i]? = some d ∧ ((H' = H ∧ Rp K G x d) ∨ (∃ T xs es, x = .ref T ∧ H T = none ∧ H' = upd H T (.tup xs) ∧ RpA K G xs es ∧ d = .tuple es))
def WJ (K : Fg) (sa : Option Addr) (st : Bool) (wi : TI) (δ : List Cell) (P : List D → Prop) : Prop := ∀ (m : Bool) (H0 G0 : Hp) (E : Hp → Prop), Up E → ∀ (σ : L2.St) (H : Hp), At K m sa H0 G0 δ E σ H →
  ∀ R : It → Hp → Prop, (∀ J ds H1 G1 (Stay : Hp → Prop), P ds → AtG K m sa H0 G0 δ E σ G1 H1 → Itd K J Stay G1 ds → (∀ H', ExB sa H1 H' → Stay H') → (st = true → ∀ H', Same G1 H' → Stay H') → R J H1) → wi σ H R
/-- a target gets data -/
def WG (K : Fg) (sa : Option Addr) (g : TG) (δ : List Cell) (d : D) (P : List Cell → Prop) : Prop := ∀ (m : Bool) (H0 G0 : Hp) (E : Hp → Prop), Up E → ∀ (σ : L2.St) (H : Hp) (v : V), At K m sa H0 G0 δ (fun G => E G ∧ Rp K G v d) σ H →
  ∀ Q : L2.St → Hp → Prop, (∀ δ' σ', P δ' → At K m sa H0 G0 δ' E σ' H → Q σ' H) → g v σ H Q
/-- .. and nothing but the slots vs is stored -/
def WGv (K : Fg) (sa : Option Addr) (vs : List Nat) (g : TG) (δ : List Cell) (d : D) (P : List Cell → Prop) : Prop := ∀ (m : Bool) (H0 G0 : Hp) (E : Hp → Prop), Up E → ∀ (σ : L2.St) (H : Hp) (v : V), At K m sa H0 G0 δ (fun G => E G ∧ Rp K G v d) σ H →
  ∀ Q : L2.St → Hp → Prop, (∀ δ' σ', P δ' → At K m sa H0 G0 δ' E σ' H → wipe σ' vs = wipe σ vs → Q σ' H) → g v σ H Q
def wipeC (δ : List Cell) : List Nat → List Cell
  | [] => δ
  | v :: vs => (wipeC δ vs).set v .no
theorem wipe_set_mem : ∀ {vs : List Nat} {σ : L2.St} {i : Nat} {x : Option V}, i ∈ vs → wipe (σ.set i x) vs = wipe σ vs
  | v :: vs, σ, i, x, h => by
    unfold wipe
    by_cases e : i ∈ vs
    · rw [wipe_set_mem e]
    · have ev : i = v := by
        rcases List.mem_cons.mp h with z | z
        · exact z
        · exact absurd z e
      subst ev
      have go : ∀ (vs : List Nat) (σ : L2.St), (wipe (σ.set i x) vs).set i none = (wipe σ vs).set i none := fun vs => by
        induction vs with
        | nil => intro σ; unfold wipe; rw [List.set_set]
        | cons w ws ih =>
          intro σ
          unfold wipe
          by_cases ew : w = i
          · subst ew; rw [List.set_set, List.set_set]; exact ih σ
          · rw [List.set_comm _ _ (fun z => ew z), List.set_comm _ _ (fun z => ew z), ih σ]
      exact go vs σ
  | [], _, _, _, h => by cases h
theorem wipe_wipe : ∀ {vs : List Nat} {σ : L2.St}, wipe (wipe σ vs) vs = wipe σ vs := by
  have key : ∀ (ws vs : List Nat) (σ : L2.St), (∀ w ∈ ws, w ∈ vs) → wipe (wipe σ ws) vs = wipe σ vs := fun ws => by
    induction ws with
    | nil => intro vs σ _; rfl
    | cons w ws ih =>
      intro vs σ h
      show wipe ((wipe σ ws).set w none) vs = wipe σ vs
      rw [wipe_set_mem (h w (by simp)), ih vs σ (fun x hx => h x (by simp [hx]))]
  intro vs σ
  exact key vs vs σ (fun _ h => h)
section
variable {K : Fg} {sa : Option Addr} {m : Bool} {H0 G0 G G' H H' : Hp} {δ : List Cell} {E E' : Hp → Prop} {σ : L2.St}
theorem AtG.forget (A : AtG K m sa H0 G0 δ E σ G H) (v : Nat) : AtG K m sa H0 G0 (δ.set v .no) E (σ.set v none) G H := A.put v trivial fun b f => f.elim
theorem AtG.wiped (A : AtG K m sa H0 G0 δ E σ G H) : ∀ vs : List Nat, AtG K m sa H0 G0 (wipeC δ vs) E (wipe σ vs) G H
  | [] => A
  | v :: vs => (AtG.wiped A vs).forget v
/-- an object that nobody knows is changed -/
theorem AtG.poke {p : Addr} {o : HO} (A : AtG K m sa H0 G0 δ E σ G H) (gp : G p = none) (h0 : H0 p = none) (hs : sa ≠ some p) (hj : Lone H δ σ p) : AtG K m sa H0 G0 δ E σ G (upd H p o) := by
  have mv : ∀ {i : Nat} {c : Cell} {u : Option V}, δ[i]? = some c → σ[i]? = some u → CellOk K m sa H0 G (upd H p o) u c ∧ ∀ b, foot (upd H p o) u c b → foot H u c b := fun {i c u} h1 h2 =>
    cell_move (A.cell i c u h1 h2) (Same.refl _) fun b f => ⟨upd_ne fun z => hj i c u h1 h2 (by rw [← z]; exact f), (foot_live (A.cell i c u h1 h2) f).2.1⟩
  refine ⟨⟨A.gd.g0, fun b x q => ?_, A.gd.fr, fun b x n q => ?_, fun a ea => ⟨?_, (A.gd.sp a ea).2⟩⟩, A.len, fun i c o h1 h2 => (mv h1 h2).1, fun i j c c' o o' hij h1 h2 h3 h4 b f1 f2 => A.dis i j c c' o o' hij h1 h2 h3 h4 b ((mv h1 h3).2 b f1) ((mv h2 h4).2 b f2), A.ex⟩
  · rw [upd_ne (fun z => by subst z; rw [gp] at q; cases q)]; exact A.gd.gh b x q
  · rw [upd_ne (fun z => by subst z; rw [h0] at q; cases q)]; exact A.gd.hh b x n q
  · obtain ⟨c, s, n, q⟩ := (A.gd.sp a ea).1
    exact ⟨c, s, n, by rw [upd_ne (fun z => hs (by rw [ea, z]))]; exact q⟩
/-- the turn's value has come -/
theorem AtG.came {J : It} {Stay : Hp → Prop} {G1 : Hp} {ds : List D} {i : Nat} {x : V} {H' : Hp} (I : Itd K J Stay G1 ds) (A : AtG K m sa H0 G0 δ E σ G H) (up : Up E) (hG : Same G1 G) (hi : i < ds.length) (st : Stay H) (y : J.yld i H x H') :
    ∃ d G', ds[i]? = some d ∧ Same G G' ∧ Same H H' ∧ (∀ b, H b ≠ none → G b = none → G' b = none) ∧ AtG K m sa H0 G0 δ (fun G => E G ∧ Rp K G x d) σ G' H' := by
  obtain ⟨d, hd, h⟩ := I.yld i H x H' hi st y
  rcases h with ⟨e, r⟩ | ⟨T, xs, es, e, hT, e2, r, e3⟩
  · subst e
    exact ⟨d, G, hd, Same.refl _, Same.refl _, fun _ _ h => h, A.same ⟨A.ex, r.mono hG⟩⟩
  · subst e e2 e3
    have gT : G T = none := by
      cases z : G T with
      | none => rfl
      | some u => rw [A.gd.gh T u z] at hT; cases hT
    have s1 : Same G (upd G T (.tup xs)) := fun b o e => by rw [upd_ne (ne_of_none e gT)]; exact e
    have s2 : Same H (upd H T (.tup xs)) := fun b o e => by rw [upd_ne (ne_of_none e hT)]; exact e
    refine ⟨_, _, hd, s1, s2, fun b h1 h2 => ?_, A.new hT ⟨up _ _ s1 A.ex, .tup upd_same (r.mono (hG.trans s1))⟩⟩
    rw [upd_ne (fun z => by subst z; exact h1 hT)]
    exact h2
end
section
variable {K : Fg} {sa : Option Addr} {δ : List Cell} {ta tb te tl : TE} {tt : TT} {t u : TS}
theorem wg_name {i : Nat} {d : D} {P : List Cell → Prop} (p : P (δ.set i (.dat d))) : WG K sa (gName i) δ d P := fun m H0 G0 E up σ H v ⟨G, a⟩ Q q => q _ _ p ⟨G, a.set i⟩
theorem wgv_name {vs : List Nat} {i : Nat} {d : D} {P : List Cell → Prop} (hv : i ∈ vs) (p : P (δ.set i (.dat d))) : WGv K sa vs (gName i) δ d P := fun m H0 G0 E up σ H v ⟨G, a⟩ Q q => q _ _ p ⟨G, a.set i⟩ (wipe_set_mem hv)
theorem wg_two {i j : Nat} {d e : D} {P : List Cell → Prop} (p : P ((δ.set i (.dat d)).set j (.dat e))) : WG K sa (gTup K 2 (gCons (gName i) (gCons (gName j) gNil))) δ (.tuple [d, e]) P := fun m H0 G0 E up σ H v ⟨G, a⟩ Q q => by
  obtain ⟨b, xs, ev, hs, rx⟩ := a.ex.2.tup_inv
  obtain ⟨v1, v2, ex, r1, r2⟩ := rx.two
  subst ex
  exact ⟨b, _, ev, sqT_mono a.gd.gh hs, rfl, v1, _, rfl, v2, _, rfl, rfl, q _ _ p ⟨G, ((a.same (E' := fun G => (E G ∧ Rp K G v2 e) ∧ Rp K G v1 d) ⟨⟨a.ex.1, r2⟩, r1⟩).set i).set j⟩⟩
theorem wgv_two {vs : List Nat} {i j : Nat} {d e : D} {P : List Cell → Prop} (hi : i ∈ vs) (hj : j ∈ vs) (p : P ((δ.set i (.dat d)).set j (.dat e))) : WGv K sa vs (gTup K 2 (gCons (gName i) (gCons (gName j) gNil))) δ (.tuple [d, e]) P := fun m H0 G0 E up σ H v ⟨G, a⟩ Q q => by
  obtain ⟨b, xs, ev, hs, rx⟩ := a.ex.2.tup_inv
  obtain ⟨v1, v2, ex, r1, r2⟩ := rx.two
  subst ex
  exact ⟨b, _, ev, sqT_mono a.gd.gh hs, rfl, v1, _, rfl, v2, _, rfl, rfl, q _ _ p ⟨G, ((a.same (E' := fun G => (E G ∧ Rp K G v2 e) ∧ Rp K G v1 d) ⟨⟨a.ex.1, r2⟩, r1⟩).set i).set j⟩ (by rw [wipe_set_mem hj, wipe_set_mem hi])⟩
/-- x, y = e (a tuple) -/
theorem ws_asgG {g : TG} {nx : List Cell → Prop} {rt : D → Prop} {bk ct : List Cell → Prop} (h : WE K sa te δ fun d => WG K sa g δ d nx) : WS K sa (tAsg te g) ⟨nx, rt, bk, ct⟩ δ := fun H0 G0 E up σ H Dn A R =>
  h true H0 G0 E up σ H A _ fun v d H1 p A1 => p true H0 G0 E up σ H1 v A1 _ fun δ' σ' p' A' => R.nx _ _ _ p' A'
/-! ### for -/
theorem ws_for {wi : TI} {g : TG} {nx : List Cell → Prop} {rt : D → Prop} {bk ct : List Cell → Prop} (h : WJ K sa true wi δ fun ds => ∃ Iv : Nat → List Cell → Prop, Iv 0 δ ∧ (∀ i d δ', ds[i]? = some d → Iv i δ' → WG K sa g δ' d fun δ2 => WS K sa t ⟨Iv (i + 1), rt, nx, Iv (i + 1)⟩ δ2) ∧ (∀ δ', Iv ds.length δ' → nx δ')) :
    WS K sa (tFor wi g t) ⟨nx, rt, bk, ct⟩ δ := fun H0 G0 E up σ H Dn A R =>
  h true H0 G0 E up σ H A _ fun J ds H1 G1 Stay ⟨Iv, i0, step, done⟩ a I sx ss => by
    have up' : Up fun G => E G ∧ Same G1 G := up_and up fun G G' e h => h.trans e
    refine ⟨fun i m σ H => m = ds.length - i ∧ i ≤ ds.length ∧ ∃ δ', Iv i δ' ∧ At K true sa H0 G0 δ' (fun G => E G ∧ Same G1 G) σ H, ⟨ds.length, by simp, Nat.zero_le _, δ, i0, G1, a.same ⟨a.ex, Same.refl _⟩⟩, ?_⟩
    rintro i m σ' H' ⟨rfl, hi, δ', hI, G', a'⟩
    have st : Stay H' := ss rfl H' (a'.ex.2.trans a'.gd.gh)
    by_cases hlt : i < ds.length
    · refine .inr ⟨I.go i H' hlt st, fun σ2 H2 => ∃ δ2, Iv (i + 1) δ2 ∧ At K true sa H0 G0 δ2 (fun G => E G ∧ Same G1 G) σ2 H2, fun σ2 H2 hN => ⟨ds.length - (i + 1), by omega, rfl, hlt, hN⟩, fun x H'' y => ?_⟩
      obtain ⟨d, G'', hd, sG, sH, fr, a''⟩ := a'.came I up' a'.ex.2 hlt st y
      refine step i d δ' hd hI true H0 G0 _ up' σ' H'' x ⟨G'', a''⟩ _ fun δ2 σ2 w A2 => ?_
      refine w H0 G0 _ up' σ2 H'' _ A2 ⟨fun δ3 σ3 H3 p A3 => ⟨δ3, p, A3⟩, fun δ3 σ3 H3 p A3 => R.nx _ _ _ p (A3.imp fun _ z => z.1), fun δ3 σ3 H3 p A3 => ⟨δ3, p, A3⟩, fun δ3 v d σ3 H3 p A3 => R.rt δ3 v d σ3 H3 p (A3.imp fun _ z => ⟨z.1.1, z.2⟩)⟩
    · have e : i = ds.length := by omega
      subst e
      exact .inl ⟨I.stop H' st, R.nx _ _ _ (done δ' hI) ⟨G', a'.same a'.ex.1⟩⟩
/-! ### comprehensions -/
inductive FM (R : D → Option D → Prop) : List D → List D → Prop
  | nil : FM R [] []
  | yes {d e : D} {ds es : List D} : FM R ds es → R d (some e) → FM R (ds ++ [d]) (es ++ [e])
  | no {d : D} {ds es : List D} : FM R ds es → R d none → FM R (ds ++ [d]) es
theorem FM.len {R : D → Option D → Prop} {ds es : List D} (h : FM R ds es) : es.length ≤ ds.length := by
  induction h with
  | nil => exact Nat.le_refl _
  | yes _ _ ih => rw [List.length_append, List.length_append]; simp; exact ih
  | no _ _ ih => rw [List.length_append]; simp; omega
theorem wf_lc {wi : TI} {g : TG} {vs : List Nat} {P : List D → Prop} (h : WJ K sa false wi δ fun ds => ds.length ≤ sizeLine ∧ ∃ R : D → Option D → Prop,
      (∀ (i : Nat) (d : D), ds[i]? = some d → WGv K sa vs g (wipeC δ vs) d fun δ2 => WT K sa tt δ2 fun b => (b = true → WE K sa te δ2 fun e => R d (some e)) ∧ (b = false → R d none)) ∧ ∀ es, FM R ds es → P es) :
    WF K sa (tLc wi g tt te vs) δ P := fun m H0 G0 E up σ H A Q q =>
  h m H0 G0 E up σ H A _ fun J ds H1 G1 Stay ⟨hz, R, step, done⟩ a I sx ss => fun Dl hD => by
    have hs : sa ≠ some Dl := fun z => by
      obtain ⟨c, s, n, e⟩ := (a.gd.sp Dl z).1
      rw [hD] at e; cases e
    have own1 := a.lone hD
    have aw := a.base.wiped vs
    have own2 := aw.lone hD
    have gD : G1 Dl = none := by
      cases z : G1 Dl with
      | none => rfl
      | some u => rw [a.gd.gh Dl u z] at hD; cases hD
    refine ⟨fun i m H' => m = ds.length - i ∧ i ≤ ds.length ∧ ∃ G' acc es, AtG K false sa H1 G1 (wipeC δ vs) E (wipe σ vs) G' H' ∧ G' Dl = none ∧ H' Dl = some (.lst acc) ∧ RpA K G' acc es ∧ FM R (ds.take i) es,
      ⟨ds.length, by simp, Nat.zero_le _, G1, [], [], aw.poke gD hD hs own2, gD, upd_same, .nil, by rw [List.take_zero]; exact .nil⟩, ?_⟩
    rintro i m' H' ⟨rfl, hi, G', acc, es, a', gD', hD', ra, fm⟩
    have st : Stay H' := sx H' a'.gd.hh
    by_cases hlt : i < ds.length
    · refine .inr ⟨I.go i H' hlt st, fun H'' => ∃ G'' acc es, AtG K false sa H1 G1 (wipeC δ vs) E (wipe σ vs) G'' H'' ∧ G'' Dl = none ∧ H'' Dl = some (.lst acc) ∧ RpA K G'' acc es ∧ FM R (ds.take (i + 1)) es, fun H'' hN => ⟨ds.length - (i + 1), by omega, rfl, hlt, hN⟩, fun x H'' y => ?_⟩
      obtain ⟨d, G'', hd, sG, sH, fr, a''⟩ := a'.came I up a'.gd.g0 hlt st y
      have gD'' : G'' Dl = none := fr Dl (by rw [hD']; simp) gD'
      have hD'' : H'' Dl = some (.lst acc) := sH _ _ hD'
      have etk : ds.take (i + 1) = ds.take i ++ [d] := by rw [List.take_add_one, hd]; rfl
      have keep : ∀ {Gf H4 : Hp} {F : Hp → Prop} {δ2 : List Cell} {σ2 : L2.St}, AtG K false sa H'' G'' δ2 F σ2 Gf H4 → AtG K false sa H1 G1 (wipeC δ vs) E (wipe σ vs) Gf H4 ∧ Gf Dl = none ∧ H4 Dl = some (.lst acc) ∧ RpA K Gf acc es := fun {Gf H4 F δ2 σ2} b =>
        ⟨(a''.same a''.ex.1).grow b.gd.g0 b.gd.gh b.gd.fr b.gd.hh (fun z ez => (b.gd.sp z ez).1) (up _ _ b.gd.g0 a''.ex.1), b.gd.fr Dl (by rw [hD'']; simp) gD'', b.gd.hh Dl _ hs hD'', ra.mono (sG.trans b.gd.g0)⟩
      refine step i d hd false H'' G'' E up (wipe σ vs) H'' x ⟨G'', a''.base⟩ _ fun δ2 σ2 w A2 ew => ⟨by rw [ew, wipe_wipe], ?_⟩
      refine w false H'' G'' E up σ2 H'' A2 _ fun b H3 pb A3 => ?_
      cases b with
      | true =>
        refine iteT (pb.1 rfl false H'' G'' E up σ2 H3 A3 _ fun z e H4 pe ⟨Gf, bf⟩ => ?_)
        obtain ⟨k1, k2, k3, k4⟩ := keep bf
        refine ⟨acc, k3, ?_, Gf, acc ++ [z], es ++ [e], k1.poke k2 hD hs (aw.lone_ex own2 k1.gd.hh), k2, upd_same, k4.snoc bf.ex.2, by rw [etk]; exact .yes fm pe⟩
        have l1 := ra.length
        have l2 := fm.len
        rw [List.length_take] at l2
        omega
      | false =>
        obtain ⟨Gf, bf⟩ := A3
        obtain ⟨k1, k2, k3, k4⟩ := keep bf
        exact iteF ⟨Gf, acc, es, k1, k2, k3, k4, by rw [etk]; exact .no fm (pb.2 rfl)⟩
    · have e : i = ds.length := by omega
      subst e
      rw [List.take_length] at fm
      refine .inl ⟨I.stop H' st, q Dl acc es H' (done es fm) ⟨G', a.grow a'.gd.g0 a'.gd.gh a'.gd.fr a'.gd.hh (fun z ez => (a'.gd.sp z ez).1) ⟨up _ _ a'.gd.g0 a.ex, gD', ra⟩⟩ hD' ?_ hs (a.lone_ex own1 a'.gd.hh)⟩
      cases z : H0 Dl with
      | none => rfl
      | some o => exact absurd hD (a.gd.live (by rw [z]; simp))
end
end Dl

/-! ## pairs walked: zip and enumerate over lists and tuples in any mix -/
namespace DlP
open PySem PySem.Spec PyProof.Rows L2
/-- a list, or a tuple -/
def SqK (K : PySem.W.Frag) (H : Hp) (k : Bool) (a : Addr) (xs : List V) : Prop := if k = true then SqL K H a xs else SqT K H a xs
def HasK (h : Heap) (k : Bool) (a : Addr) (items : Array Value) : Prop := if k = true then h.IsList a items else h.IsTuple a items
def ItK (h : Heap) (k : Bool) (it a : Addr) (i : Nat) : Prop := if k = true then h.IsListIter it a i else h.IsTupleIter it a i
def obK (k : Bool) (a : Addr) : Obj := if k = true then { cls := .type "list_iterator", data := .fields #[.ref a, .int 0 0] } else { cls := .type "tuple_iterator", data := .fields #[.ref a, .int 0 0] }
theorem drawsK {prog : Program} {w : World} {A : Around} (hh : A.handled = none) (k : Bool) (it a : Addr) (hne : a ≠ it) (items : Array Value) :
    Draws prog w A it [it, a] items.size (fun i v => items[i]? = some v) (fun i h => ItK h k it a i ∧ HasK h k a items) := by
  cases k with
  | true => exact Draws.list hh it a hne items
  | false => exact Draws.tuple hh it a hne items
theorem beginsK (k : Bool) (a : Addr) (items : Array Value) : Begins (.ref a) (obK k a) fun h => HasK h k a items := by
  cases k with
  | true => exact begins_list a items
  | false => exact begins_tuple a items
theorem itK_at {h h' : Heap} {k : Bool} {it a : Addr} {i : Nat} (x : ItK h k it a i) (e : ∀ o, h.get? it = some o → h'.get? it = some o) : ItK h' k it a i := by
  cases k with
  | true => exact Heap.IsListIter.at x e
  | false => exact Heap.IsTupleIter.at x e
theorem itK_obj {h : Heap} {k : Bool} {it a : Addr} {i : Nat} (x : ItK h k it a i) : ∃ o, h.get? it = some o ∧ ∀ v, o.data ≠ .cell v := by
  cases k with
  | true =>
    obtain ⟨o, e, _, d⟩ := (x : h.IsListIter it a i)
    exact ⟨o, e, fun v q => by rw [d] at q; cases q⟩
  | false =>
    obtain ⟨o, e, _, d⟩ := (x : h.IsTupleIter it a i)
    exact ⟨o, e, fun v q => by rw [d] at q; cases q⟩
theorem itK_new {h : Heap} {k : Bool} {it a : Addr} (e : h.get? it = some (obK k a)) : ItK h k it a 0 := by
  cases k with
  | true => exact ⟨_, e, rfl, rfl⟩
  | false => exact ⟨_, e, rfl, rfl⟩
section
variable {X : Cx} {pins : List (Addr × Obj)} {σ : L2.St} {H : Hp} {s : Shared}
theorem sqK_of (I : Inv X pins σ H s) {k : Bool} {a : Addr} {xs : List V} (h : SqK X.K H k a xs) : ∃ its : List Value, Vals xs its ∧ HasK s.heap k a its.toArray := by
  cases k with
  | true => obtain ⟨its, r, p, _⟩ := I.list h; exact ⟨its, r, p.isList⟩
  | false => obtain ⟨its, r, p, _⟩ := I.tuple h; exact ⟨its, r, p⟩
theorem sqK_inj (I : Inv X pins σ H s) {k : Bool} {a : Addr} {xs ys : List V} (h : SqK X.K H k a xs) (h' : SqK X.K H k a ys) : xs = ys := by
  cases k with
  | true => exact I.list_inj h h'
  | false => exact I.tuple_inj h h'
theorem hasK_lt {h : Heap} {k : Bool} {a : Addr} {items : Array Value} (x : HasK h k a items) : a < h.objs.size := by
  cases k with
  | true => obtain ⟨_, e, _⟩ := (x : h.IsList a items); exact Heap.lt_size e
  | false => obtain ⟨_, e, _⟩ := (x : h.IsTuple a items); exact Heap.lt_size e
theorem hasK_inv {h : Heap} {k : Bool} {a b : Addr} {items : Array Value} {o : Obj} (x : HasK h k a items) (e : h.get? b = some o) (d : ∀ its n, o.data ≠ .seq its n) : a ≠ b := fun z => by
  subst z
  cases k with
  | true =>
    obtain ⟨o', e', _, n, d'⟩ := (x : h.IsList a items)
    rw [e] at e'; cases e'
    exact d _ _ d'
  | false =>
    obtain ⟨o', e', _, n, d'⟩ := (x : h.IsTuple a items)
    rw [e] at e'; cases e'
    exact d _ _ d'
end
/-- zip of two -/
def ItzA (K : PySem.W.Frag) (k1 k2 : Bool) (a b : Addr) : It :=
  ⟨fun i H => ∃ (xs ys : List V) (x y : V), SqK K H k1 a xs ∧ SqK K H k2 b ys ∧ xs[i]? = some x ∧ ys[i]? = some y,
    fun i H v H' => ∃ T x y, v = .ref T ∧ H T = none ∧ H' = upd H T (.tup [x, y]) ∧ (∀ xs, SqK K H k1 a xs → xs[i]? = some x) ∧ ∀ ys, SqK K H k2 b ys → ys[i]? = some y,
    fun i H => ∃ xs ys : List V, SqK K H k1 a xs ∧ SqK K H k2 b ys ∧ i = min xs.length ys.length⟩
theorem turn_zipA {P : Program} {w : World} {K : PySem.W.Frag} {elts : List Expr} {kk : Nat} {tpos : Pos} {k1 k2 : Bool} {a b z TI TO i1 i2 : Addr} (S : ZipSep2 z TI TO i1 i2 [i1, a] [i2, b]) (ha : a ≠ i1) (hb : b ≠ i2) :
    Turn P w K (.Tuple elts kk tpos) (ItzA K k1 k2 a b) [z, TI, TO, i1, i2] z (fun i h => IsZip h z TI TO .none ∧ IsTupOf2 h TI (.ref i1) (.ref i2) ∧ (∃ x y, IsTupOf2 h TO x y) ∧ ItK h k1 i1 a i ∧ ItK h k2 i2 b i) where
  mem := by simp
  obj := fun i h st c hc => by
    obtain ⟨hz, hTI, ⟨x, y, hTO⟩, h1, h2⟩ := st
    have e' : c = z ∨ c = TI ∨ c = TO ∨ c = i1 ∨ c = i2 := by simpa using hc
    rcases e' with q | q | q | q | q
    · rw [q]; exact ⟨_, hz, fun v q => nomatch q⟩
    · rw [q]; exact ⟨_, hTI, fun v q => nomatch q⟩
    · rw [q]; exact ⟨_, hTO, fun v q => nomatch q⟩
    · rw [q]; exact itK_obj h1
    · rw [q]; exact itK_obj h2
  keep := fun i h h' st k => by
    obtain ⟨hz, hTI, ⟨x, y, hTO⟩, h1, h2⟩ := st
    exact ⟨k z (by simp) _ hz, k TI (by simp) _ hTI, ⟨x, y, k TO (by simp) _ hTO⟩, itK_at h1 fun o q => k i1 (by simp) o q, itK_at h2 fun o q => k i2 (by simp) o q⟩
  item := by
    intro X hP hw hK hc i pins s σ H E I hf st hg
    subst hP hw hK
    obtain ⟨hz, hTI, ⟨x0, y0, hTO⟩, h1, h2⟩ := st
    obtain ⟨xs, ys, x, y, hqx, hqy, hx, hy⟩ := hg
    obtain ⟨its, rv, p⟩ := sqK_of I hqx
    obtain ⟨its2, rv2, p2⟩ := sqK_of I hqy
    have hxl : i < xs.length := (List.getElem?_eq_some_iff.mp hx).1
    have hyl : i < ys.length := (List.getElem?_eq_some_iff.mp hy).1
    have W := GoesN.zip2 (prog := X.prog) (w := X.w) (A := X.A) (elts := elts) (x1 := kk) (pos := tpos) S (drawsK (A := X.A.in1) (I.ok.hd hc) k1 i1 a ha its.toArray) (drawsK (A := X.A.in1) (I.ok.hd hc) k2 i2 b hb its2.toArray)
    have live : ∀ c ∈ [z, TI, TO, i1, i2], c < s.heap.objs.size := fun c hc' => by
      have e' : c = z ∨ c = TI ∨ c = TO ∨ c = i1 ∨ c = i2 := by simpa using hc'
      rcases e' with q | q | q | q | q
      · rw [q]; exact Heap.lt_size hz
      · rw [q]; exact Heap.lt_size hTI
      · rw [q]; exact Heap.lt_size hTO
      · rw [q]; obtain ⟨_, e, _⟩ := itK_obj h1; exact Heap.lt_size e
      · rw [q]; obtain ⟨_, e, _⟩ := itK_obj h2; exact Heap.lt_size e
    refine wpAny_mono (W.goes i s (fun u s2 => ∃ x H', Inv X pins σ H' s2 ∧ RelV x u ∧ (ItzA X.K k1 k2 a b).yld i H x H' ∧ (IsZip s2.heap z TI TO .none ∧ IsTupOf2 s2.heap TI (.ref i1) (.ref i2) ∧ (∃ x y, IsTupOf2 s2.heap TO x y) ∧ ItK s2.heap k1 i1 a (i + 1) ∧ ItK s2.heap k2 i2 b (i + 1)) ∧ ∀ b ∈ [z, TI, TO, i1, i2], H' b = none) E
      (by rw [List.size_toArray, List.size_toArray, ← rv.length, ← rv2.length]; omega) ⟨hz, hTI, ⟨x0, y0, hTO⟩, ⟨h1, p⟩, h2, p2⟩ fun v h' tk hY st' hk htk => ?_) (fun r s1 h => h) (fun _ _ h => h)
    obtain ⟨T, u1, u2, ev, hT, hu1, hu2, hTup⟩ := hY
    subst ev
    obtain ⟨v1, hv1, r1⟩ := rv.get hx
    obtain ⟨v2, hv2, r2⟩ := rv2.get hy
    have e1 : v1 = u1 := by
      have q : its[i]? = some u1 := by simpa using hu1
      rw [hv1] at q; exact Option.some.inj q
    have e2 : v2 = u2 := by
      have q : its2[i]? = some u2 := by simpa using hu2
      rw [hv2] at q; exact Option.some.inj q
    subst e1 e2
    have new : ObjOk X.prog X.w (upd H T (.tup [x, y])) h' T (.tup [x, y]) := ⟨by show 2 ≤ sizeLine; decide, [v1, v2], .cons r1 (.cons r2 .nil), hTup⟩
    have I1 : Inv X pins σ (upd H T (.tup [x, y])) { s with heap := h', toks := tk } :=
      I.turnedNew (t' := tk) (ch := [z, TI, TO, i1, i2]) (fun c o hb q => hk c o (fun q' => hb (by
        have z' : c = z ∨ c = TO ∨ c = i1 ∨ c = i2 := by simpa using q'
        rcases z' with z' | z' | z' | z' <;> simp [z'])) q) hf hT new
    obtain ⟨hz', hTI', hTO', ⟨h1', _⟩, h2', _⟩ := st'
    refine ⟨.ref T, _, I1, rfl, ⟨T, x, y, rfl, I.hok.fresh hT, rfl, fun l hl => by rw [sqK_inj I hl hqx]; exact hx, fun l hl => by rw [sqK_inj I hl hqy]; exact hy⟩, ⟨hz', hTI', hTO', h1', h2'⟩, fun c hcm => ?_⟩
    rw [upd_ne (Nat.ne_of_lt (Nat.lt_of_lt_of_le (live c hcm) hT))]
    exact (hf c hcm).1
  done := by
    intro X hP hw hK hc i pins s σ H E I hf st hg
    subst hP hw hK
    obtain ⟨hz, hTI, ⟨x0, y0, hTO⟩, h1, h2⟩ := st
    obtain ⟨xs, ys, hqx, hqy, hend⟩ := hg
    obtain ⟨its, rv, p⟩ := sqK_of I hqx
    obtain ⟨its2, rv2, p2⟩ := sqK_of I hqy
    have W := GoesN.zip2 (prog := X.prog) (w := X.w) (A := X.A) (elts := elts) (x1 := kk) (pos := tpos) S (drawsK (A := X.A.in1) (I.ok.hd hc) k1 i1 a ha its.toArray) (drawsK (A := X.A.in1) (I.ok.hd hc) k2 i2 b hb its2.toArray)
    have ei : i = min its.toArray.size its2.toArray.size := by rw [List.size_toArray, List.size_toArray, ← rv.length, ← rv2.length]; exact hend
    subst ei
    refine wpAny_mono (W.stops s (fun s1 => Inv X pins σ H s1) E ⟨hz, hTI, ⟨x0, y0, hTO⟩, ⟨h1, p⟩, h2, p2⟩ fun h' tk hk htk => ?_) (fun r s1 h => h) (fun _ _ h => h)
    exact I.turnedL (t' := tk) (ch := [z, TI, TO, i1, i2]) (fun c o hb q => hk c o (fun q' => hb (by
        have z' : c = z ∨ c = TO ∨ c = i1 ∨ c = i2 := by simpa using q'
        rcases z' with z' | z' | z' | z' <;> simp [z'])) q) hf
  self := fun A i s Q E st h => wpAny_pyIter_zip st.1 h
def iZipU (K : PySem.W.Frag) (ta : TA) : TI := fun σ H R => ta σ H fun vs H1 => ∃ k1 k2 a b xs ys, vs = [.ref a, .ref b] ∧ SqK K H1 k1 a xs ∧ SqK K H1 k2 b ys ∧ R (ItzA K k1 k2 a b) H1
theorem pi_zipU {X : Cx} {e e2 : Expr} {ta : TA} {p pos tpos : Pos} {elts : List Expr} {kk : Nat} (hg : Gl X "zip") (hm : X.mg "zip" = none) (ha : PA X [e, e2] ta)
    (hs : starEach [e, e2] X.env = (false, eval e X.env) :: starEach [e2] X.env := by rfl) (hpl : (backTo pos (starEach [e2] X.env)).any (·.1) = false := by rfl) :
    PI X (.Tuple elts kk tpos) (.Call (.Name "zip" p) [e, e2] [] pos) (iZipU X.K ta) := by
  refine ⟨fun pins s σ H R I h => ?_⟩
  refine Call_ (ld_blt I hg hm PyProof.Rows.boot_zip (PyProof.Rows.callWith_type1 (thn (ha.run pos pins s σ H _ I h) fun us s1 ⟨vs, H1, I1, r1, q1⟩ => ?_) hs hpl))
  obtain ⟨k1, k2, a, b, xs, ys, ex, hqx, hqy, q⟩ := q1
  subst ex
  cases r1 with
  | cons r rr =>
    cases rr with
    | cons r' rr =>
      cases rr
      cases r
      cases r'
      obtain ⟨its, rv, p1⟩ := sqK_of I1 hqx
      obtain ⟨its2, rv2, p2⟩ := sqK_of I1 hqy
      have la := hasK_lt p1
      have lb := hasK_lt p2
      refine zip_begins2 (beginsK k1 a its.toArray) (beginsK k2 b its2.toArray) p1 p2 fun h' hz hTI hTO h1 h2 hsz hk => wpAny_pyIter_zip hz ?_
      have I2 : Inv X pins σ H1 { s1 with heap := h' } := I1.kept (t' := s1.toks) hk
      have fresh5 : ∀ c, c ∈ [s1.heap.objs.size + 4, s1.heap.objs.size + 2, s1.heap.objs.size + 3, s1.heap.objs.size, s1.heap.objs.size + 1] → FpOk X pins H1 c := fun c hcm => by
        have e' : c = s1.heap.objs.size + 4 ∨ c = s1.heap.objs.size + 2 ∨ c = s1.heap.objs.size + 3 ∨ c = s1.heap.objs.size ∨ c = s1.heap.objs.size + 1 := by simpa using hcm
        have hle : s1.heap.objs.size ≤ c := by
          rcases e' with z | z | z | z | z
          · rw [z]; exact Nat.le_add_right _ _
          · rw [z]; exact Nat.le_add_right _ _
          · rw [z]; exact Nat.le_add_right _ _
          · rw [z]; exact Nat.le_refl _
          · rw [z]; exact Nat.le_add_right _ _
        exact I1.fpOk hle (I1.hok.fresh hle)
      exact ⟨s1.heap.objs.size + 4, [s1.heap.objs.size + 4, s1.heap.objs.size + 2, s1.heap.objs.size + 3, s1.heap.objs.size, s1.heap.objs.size + 1], _, _, H1, rfl, I2,
        turn_zipA (zip_sep2 (fun c hc => by rw [List.mem_singleton.mp hc]; exact la) (fun c hc => by rw [List.mem_singleton.mp hc]; exact lb)) (Nat.ne_of_lt la) (Nat.ne_of_lt (Nat.lt_succ_of_lt lb)), ⟨hz, hTI, ⟨_, _, hTO⟩, itK_new h1, itK_new h2⟩, fresh5, q⟩

/-! ### enumerate -/
def IteA (K : PySem.W.Frag) (k : Bool) (a : Addr) : It :=
  ⟨fun i H => ∃ (xs : List V) (x : V), SqK K H k a xs ∧ xs[i]? = some x, fun i H v H' => ∃ T x, v = .ref T ∧ H T = none ∧ H' = upd H T (.tup [.int (i : Nat), x]) ∧ ∀ xs, SqK K H k a xs → xs[i]? = some x, fun i H => ∃ xs : List V, SqK K H k a xs ∧ i = xs.length⟩
theorem turn_enumA {P : Program} {w : World} {K : PySem.W.Frag} {elts : List Expr} {kk : Nat} {tpos : Pos} {k : Bool} {a e it : Addr} (hei : e ≠ it) (hea : e ≠ a) (hia : a ≠ it) :
    Turn P w K (.Tuple elts kk tpos) (IteA K k a) [e, it] e (fun i h => (∃ old, IsEnum h e it ((i : Nat) : Int) old) ∧ ItK h k it a i) where
  mem := by simp
  obj := fun i h st b hb => by
    obtain ⟨⟨old, he⟩, hi⟩ := st
    have e' : b = e ∨ b = it := by simpa using hb
    rcases e' with z | z
    · rw [z]; exact ⟨_, he, fun v q => nomatch q⟩
    · rw [z]; exact itK_obj hi
  keep := fun i h h' st k => let ⟨⟨old, he⟩, hi⟩ := st; ⟨⟨old, k e (by simp) _ he⟩, itK_at hi fun o q => k it (by simp) o q⟩
  item := by
    intro X hP hw hK hc i pins s σ H E I hf st hg
    subst hP hw hK
    obtain ⟨⟨old, he⟩, hit⟩ := st
    obtain ⟨xs, x, hq, hx⟩ := hg
    obtain ⟨its, rv, p⟩ := sqK_of I hq
    have hxl : i < xs.length := (List.getElem?_eq_some_iff.mp hx).1
    have W := GoesN.enumFrom (prog := X.prog) (w := X.w) (A := X.A) (elts := elts) (x1 := kk) (pos := tpos) 0 (drawsK (A := X.A.in1) (I.ok.hd hc) k it a hia its.toArray) e hei (by simp [hei, hea]) (by simp)
    have live : ∀ c ∈ [e, it], c < s.heap.objs.size := fun c hc' => by
      have e' : c = e ∨ c = it := by simpa using hc'
      rcases e' with q | q
      · rw [q]; exact Heap.lt_size he
      · rw [q]; obtain ⟨_, e, _⟩ := itK_obj hit; exact Heap.lt_size e
    refine wpAny_mono (W.goes i s (fun u s2 => ∃ x H', Inv X pins σ H' s2 ∧ RelV x u ∧ (IteA X.K k a).yld i H x H' ∧ ((∃ old, IsEnum s2.heap e it ((i + 1 : Nat) : Int) old) ∧ ItK s2.heap k it a (i + 1)) ∧ ∀ b ∈ [e, it], H' b = none) E
      (by rw [List.size_toArray, ← rv.length]; omega) ⟨⟨old, by rw [Int.zero_add]; exact he⟩, hit, p⟩ fun v h' tk hY st' hk htk => ?_) (fun r s1 h => h) (fun _ _ h => h)
    obtain ⟨T, t, u1, ev, hT, hu1, hTup⟩ := hY
    subst ev
    obtain ⟨v1, hv1, r1⟩ := rv.get hx
    have e1 : v1 = u1 := by
      have q : its[i]? = some u1 := by simpa using hu1
      rw [hv1] at q; exact Option.some.inj q
    subst e1
    rw [Int.zero_add] at hTup
    have new : ObjOk X.prog X.w (upd H T (.tup [.int (i : Nat), x])) h' T (.tup [.int (i : Nat), x]) := ⟨by show 2 ≤ sizeLine; decide, [.int (i : Nat) t, v1], .cons ⟨_, rfl⟩ (.cons r1 .nil), hTup⟩
    have I1 : Inv X pins σ (upd H T (.tup [.int (i : Nat), x])) { s with heap := h', toks := tk } :=
      I.turnedNew (t' := tk) (ch := [e, it]) (fun c o hb q => hk c o hb q) hf hT new
    obtain ⟨⟨old', he'⟩, hit', _⟩ := st'
    rw [Int.zero_add] at he'
    refine ⟨.ref T, _, I1, rfl, ⟨T, x, rfl, I.hok.fresh hT, rfl, fun l hl => by rw [sqK_inj I hl hq]; exact hx⟩, ⟨⟨old', he'⟩, hit'⟩, fun c hcm => ?_⟩
    rw [upd_ne (Nat.ne_of_lt (Nat.lt_of_lt_of_le (live c hcm) hT))]
    exact (hf c hcm).1
  done := by
    intro X hP hw hK hc i pins s σ H E I hf st hg
    subst hP hw hK
    obtain ⟨⟨old, he⟩, hit⟩ := st
    obtain ⟨xs, hq, hend⟩ := hg
    obtain ⟨its, rv, p⟩ := sqK_of I hq
    have W := GoesN.enumFrom (prog := X.prog) (w := X.w) (A := X.A) (elts := elts) (x1 := kk) (pos := tpos) 0 (drawsK (A := X.A.in1) (I.ok.hd hc) k it a hia its.toArray) e hei (by simp [hei, hea]) (by simp)
    have ei : i = its.toArray.size := by rw [List.size_toArray, ← rv.length]; exact hend
    subst ei
    refine wpAny_mono (W.stops s (fun s1 => Inv X pins σ H s1) E ⟨⟨old, by rw [Int.zero_add]; exact he⟩, hit, p⟩ fun h' tk hk htk => ?_) (fun r s1 h => h) (fun _ _ h => h)
    exact I.turnedL (t' := tk) (ch := [e, it]) (fun c o hb q => hk c o hb q) hf
  self := fun A i s Q E st h => let ⟨⟨_, he⟩, _⟩ := st; wpAny_pyIter_enum he h
set_option maxHeartbeats 4000000 in
theorem meets_enum1 {v : Value} {o : Obj} {H : Heap → Prop} (B : Begins v o H) :
    Meets (Builtin.«enumerate.__new__» ⟨[.type "enumerate", v], []⟩) (fun _ R s => H s.heap ∧
      R (.ok (.ret (.ref (s.heap.push o).objs.size))) { s with heap := (s.heap.push o).push { cls := .type "enumerate", data := .fields #[.none, .bool false, .ref s.heap.objs.size, rawInt 0, .none, .none] } }) :=
  .of_wp fun prog w A R s h => by
    obtain ⟨hp, g, d, tk, os⟩ := s; obtain ⟨h1, h⟩ := h
    have hsub := sub_enumerate
    have q1 : ∀ {A' : Around} {E : Value → Shared → Prop} {Q : Value → Shared → Prop}, Q (.ref hp.objs.size) ⟨hp.push o, g, d, tk, os⟩ → wpAny (model prog w) A' (pyIter v) Q E ⟨hp, g, d, tk, os⟩ :=
      fun q => B.iter prog w _ _ ⟨hp, g, d, tk, os⟩ _ h1 q
    wp_walk using q1
    refine wpAny_stack_any fun st => wpAny_pure ?_
    split
    · rename_i c _ _ _ _ _
      cases (c == Value.type "enumerate")
      · wp_walk using q1
        exact ⟨_, rfl, h⟩
      · wp_walk using q1
        exact ⟨_, rfl, h⟩
    · wp_walk using q1
      exact ⟨_, rfl, h⟩
theorem enum_begins1 {prog : Program} {w : World} {A : Around} {E : Value → Shared → Prop} {s : Shared} {v : Value} {o : Obj} {H : Heap → Prop} {Q : Value → Shared → Prop} (B : Begins v o H) (h1 : H s.heap)
    (h : ∀ h', IsEnum h' (s.heap.objs.size + 1) s.heap.objs.size 0 .none → h'.get? s.heap.objs.size = some o → h'.objs.size = s.heap.objs.size + 2 →
      (∀ b o, s.heap.get? b = some o → h'.get? b = some o) → Q (.ref (s.heap.objs.size + 1)) { s with heap := h' }) :
    wpAny (model prog w) A (call (.type "enumerate") [v]) Q E s := by
  refine callType_new F.called_enumerate (by decide) (F.typeCall_enumerate_1 _) (F.newCall_enumerate_1 _) (fun obj => F.args_object_init_2 obj _) F.entry_enumerate_new
    (meets_enum1 B) ⟨h1, ?_⟩
  have hz : (s.heap.push o).objs.size = s.heap.objs.size + 1 := Heap.size_push ..
  show _ ∧ _
  rw [hz]
  have he : IsEnum ((s.heap.push o).push { cls := .type "enumerate", data := .fields #[.none, .bool false, .ref s.heap.objs.size, rawInt 0, .none, .none] }) (s.heap.objs.size + 1) s.heap.objs.size 0 .none := by
    have := Heap.get?_push_size (s.heap.push o) (o := { cls := .type "enumerate", data := .fields #[.none, .bool false, .ref s.heap.objs.size, rawInt 0, .none, .none] }) rfl
    rw [hz] at this; exact this
  refine ⟨⟨_, he, rfl⟩, h _ he (Heap.get?_push_of_some _ (Heap.get?_push_size _ B.free)) (by rw [Heap.size_push, hz]) fun b o x => Heap.get?_push_of_some _ (Heap.get?_push_of_some _ x)⟩
def iEnumU (K : PySem.W.Frag) (ta : TA) : TI := fun σ H R => ta σ H fun vs H1 => ∃ k a xs, vs = [.ref a] ∧ SqK K H1 k a xs ∧ R (IteA K k a) H1
theorem pi_enumU {X : Cx} {e : Expr} {ta : TA} {p pos tpos : Pos} {elts : List Expr} {kk : Nat} (hg : Gl X "enumerate") (hm : X.mg "enumerate" = none) (ha : PA X [e] ta) (hs : starEach [e] X.env = [(false, eval e X.env)] := by rfl) :
    PI X (.Tuple elts kk tpos) (.Call (.Name "enumerate" p) [e] [] pos) (iEnumU X.K ta) := by
  refine ⟨fun pins s σ H R I h => ?_⟩
  refine Call_ (ld_blt I hg hm boot_enumerate (PyProof.Rows.callWith_type1 (thn (ha.run pos pins s σ H _ I h) fun us s1 ⟨vs, H1, I1, r1, q1⟩ => ?_) hs rfl))
  obtain ⟨k, a, xs, ex, hq, q⟩ := q1
  subst ex
  cases r1 with
  | cons r rr =>
    cases rr
    cases r
    obtain ⟨its, rv, p'⟩ := sqK_of I1 hq
    have la := hasK_lt p'
    refine enum_begins1 (beginsK k a its.toArray) p' fun h' he hit hsz hk => wpAny_pyIter_enum he ?_
    have I2 : Inv X pins σ H1 { s1 with heap := h' } := I1.kept (t' := s1.toks) hk
    refine ⟨s1.heap.objs.size + 1, [s1.heap.objs.size + 1, s1.heap.objs.size], _, _, H1, rfl, I2, turn_enumA (k := k) (a := a) (Nat.succ_ne_self _) (Nat.ne_of_gt (Nat.lt_succ_of_lt la)) (Nat.ne_of_lt la), ⟨⟨.none, he⟩, itK_new hit⟩, fun b hb => ?_, q⟩
    have e' : b = s1.heap.objs.size + 1 ∨ b = s1.heap.objs.size := by simpa using hb
    have hle : s1.heap.objs.size ≤ b := by
      rcases e' with z | z
      · rw [z]; exact Nat.le_add_right _ _
      · rw [z]; exact Nat.le_refl _
    exact I1.fpOk hle (I1.hok.fresh hle)
/-! ### a list or a tuple, whichever it is -/
def iSeq (K : PySem.W.Frag) (tl : TE) : TI := fun σ H R => tl σ H fun x H1 => ∃ a, x = .ref a ∧ (((∃ xs, SqL K H1 a xs) ∧ R (Itl K a) H1) ∨ ((∃ xs, SqT K H1 a xs) ∧ R (Itt K a) H1))
theorem pi_seq {X : Cx} {tg : Expr} {l : Expr} {tl : TE} (hl : PE X l tl) : PI X tg l (iSeq X.K tl) := by
  refine ⟨fun pins s σ H R I h => ?_⟩
  refine thn (hl.run pins s σ H _ I h) fun v s1 ⟨x, H1, I1, r1, q1⟩ => ?_
  obtain ⟨a, e, q⟩ := q1
  subst e
  cases r1
  rcases q with ⟨⟨xs, hq⟩, q⟩ | ⟨⟨xs, hq⟩, q⟩
  · obtain ⟨its, rv, p, hz⟩ := I1.list hq
    refine wpAny_pyIter_list p.isList ?_
    refine ⟨s1.heap.objs.size, [s1.heap.objs.size], _, _, H1, rfl, I1.kept (t' := s1.toks) fun b o e => Heap.get?_push_of_some _ e, turn_list a _, ⟨_, Heap.get?_push_size _ rfl, rfl, rfl⟩, fun b hb => ?_, q⟩
    have e : b = s1.heap.objs.size := by simpa using hb
    subst e
    exact I1.fpOk (Nat.le_refl _) (I1.hok.fresh (Nat.le_refl _))
  · obtain ⟨its, rv, p, hz⟩ := I1.tuple hq
    refine wpAny_pyIter_tuple (show s1.heap.IsTuple a its.toArray from p) ?_
    refine ⟨s1.heap.objs.size, [s1.heap.objs.size], _, _, H1, rfl, I1.kept (t' := s1.toks) fun b o e => Heap.get?_push_of_some _ e, turn_tuple a _, ⟨_, Heap.get?_push_size _ rfl, rfl, rfl⟩, fun b hb => ?_, q⟩
    have e : b = s1.heap.objs.size := by simpa using hb
    subst e
    exact I1.fpOk (Nat.le_refl _) (I1.hok.fresh (Nat.le_refl _))
end DlP

namespace Dl
open PySem PySem.Spec PyProof.Rows L2 DlP
/-! ### sources -/
section
variable {K : Fg} {sa : Option Addr} {m : Bool} {H0 G0 G H H' : Hp} {δ : List Cell} {E : Hp → Prop} {σ : L2.St}
theorem AtG.notSp (A : AtG K m sa H0 G0 δ E σ G H) {a : Addr} {u : HO} (h : G a = some u) : sa ≠ some a := fun e => by
  rw [A.gd.notIn e] at h; cases h
theorem AtG.exL (A : AtG K m sa H0 G0 δ E σ G H) {a : Addr} {xs : List V} (h : G a = some (.lst xs)) (e : ExB sa H H') : H' a = some (.lst xs) := e a _ (A.notSp h) (A.gd.gh _ _ h)
theorem AtG.exT (A : AtG K m sa H0 G0 δ E σ G H) {a : Addr} {xs : List V} (h : SqT K G a xs) (e : ExB sa H H') : SqT K H' a xs := by
  rcases h with (h | ⟨o, h⟩) | h
  · exact .inl (.inl (e a _ (A.notSp h) (A.gd.gh _ _ h)))
  · exact .inl (.inr ⟨o, e a _ (A.notSp h) (A.gd.gh _ _ h)⟩)
  · exact .inr h
theorem itd_list {a : Addr} {xs : List V} {ds : List D} (r : RpA K G xs ds) : Itd K (Itl K a) (fun H' => H' a = some (.lst xs)) G ds where
  go := fun i H hi st => ⟨xs, xs[i]'(by rw [r.length]; exact hi), .inl (.inl st), by simp [r.length, hi]⟩
  stop := fun H st => ⟨xs, .inl (.inl st), by rw [r.length]; exact Nat.le_refl _⟩
  yld := fun i H x H' hi st y => by
    obtain ⟨d, hd, rd⟩ := r.getV (y.2 xs (.inl (.inl st)))
    exact ⟨d, hd, .inl ⟨y.1, rd⟩⟩
theorem itd_tup {a : Addr} {xs : List V} {ds : List D} (r : RpA K G xs ds) : Itd K (Itt K a) (fun H' => SqT K H' a xs) G ds where
  go := fun i H hi st => ⟨xs, xs[i]'(by rw [r.length]; exact hi), st, by simp [r.length, hi]⟩
  stop := fun H st => ⟨xs, st, by rw [r.length]; exact Nat.le_refl _⟩
  yld := fun i H x H' hi st y => by
    obtain ⟨d, hd, rd⟩ := r.getV (y.2 xs st)
    exact ⟨d, hd, .inl ⟨y.1, rd⟩⟩
/-- the whole numbers from lo on -/
def rngD (lo : Int) (n : Nat) : List D := (List.range n).map fun i => .int (lo + (i : Nat))
theorem rngD_len (lo : Int) (n : Nat) : (rngD lo n).length = n := by unfold rngD; rw [List.length_map, List.length_range]
theorem rngD_get {lo : Int} {n i : Nat} (h : i < n) : (rngD lo n)[i]? = some (.int (lo + (i : Nat))) := by
  unfold rngD; rw [List.getElem?_map, List.getElem?_range h]; rfl
theorem rngD_inv {lo : Int} {n i : Nat} {d : D} (h : (rngD lo n)[i]? = some d) : i < n ∧ d = .int (lo + (i : Nat)) := by
  have hi : i < n := by have := (List.getElem?_eq_some_iff.mp h).1; rwa [rngD_len] at this
  rw [rngD_get hi] at h
  exact ⟨hi, (Option.some.inj h).symm⟩
theorem itd_rng {lo : Int} {n : Nat} : Itd K (Itr lo n) (fun _ => True) G (rngD lo n) where
  go := fun i H hi st => by rw [rngD_len] at hi; exact hi
  stop := fun H st => by rw [rngD_len]; exact Nat.le_refl _
  yld := fun i H x H' hi st y => by
    rw [rngD_len] at hi
    exact ⟨_, rngD_get hi, .inl ⟨y.1, by rw [y.2]; exact .int _⟩⟩
end
/-- data that is walked: a list or a tuple of ds -/
def SeqD (d : D) (ds : List D) : Prop := d = .list ds ∨ d = .tuple ds
section
variable {K : Fg} {sa : Option Addr} {st : Bool} {δ : List Cell} {tl : TE} {ta : TA} {P : List D → Prop}
theorem wj_seq (h : WE K sa tl δ fun d => ∃ ds, SeqD d ds ∧ P ds) : WJ K sa st (iSeq K tl) δ P := fun m H0 G0 E up σ H A R q =>
  h m H0 G0 E up σ H A _ fun v d H1 ⟨ds, e, p⟩ ⟨G, a⟩ => by
    rcases e with e | e
    · subst e
      obtain ⟨b, xs, ev, hb, rx⟩ := a.ex.2.lst_inv
      exact ⟨b, ev, .inl ⟨⟨xs, .inl (.inl (a.gd.gh _ _ hb))⟩, q _ ds H1 G _ p (a.same a.ex.1) (itd_list rx) (fun H' e => a.exL hb e) fun _ H' e => e _ _ hb⟩⟩
    · subst e
      obtain ⟨b, xs, ev, hb, rx⟩ := a.ex.2.tup_inv
      exact ⟨b, ev, .inr ⟨⟨xs, sqT_mono a.gd.gh hb⟩, q _ ds H1 G _ p (a.same a.ex.1) (itd_tup rx) (fun H' e => a.exT hb e) fun _ H' e => sqT_mono e hb⟩⟩
theorem wj_own {i : Nat} {ds : List D} (hi : δ[i]? = some (.own ds)) (p : P ds) : WJ K sa false (iSeq K (tVar i)) δ P := fun m H0 G0 E up σ H ⟨G, a⟩ R q => by
  obtain ⟨o, e, b, xs, ev, hb, gp, ne, rx, hm⟩ := a.slot hi
  subst ev
  exact ⟨_, e, b, rfl, .inl ⟨⟨xs, .inl (.inl hb)⟩, q _ ds H G _ p a (itd_list rx) (fun H' e => e b _ ne hb) fun z => nomatch z⟩⟩
theorem wj_rng1 (h : WA K sa ta δ fun ds => ∃ n : Int, ds = [.int n] ∧ (-(2 ^ 62) ≤ n ∧ n < 2 ^ 62) ∧ P (rngD 0 n.toNat)) : WJ K sa st (iRng1 ta) δ P := fun m H0 G0 E up σ H A R q =>
  h m H0 G0 E up σ H A _ fun vs ds H1 ⟨n, e, hn, p⟩ ⟨G, a⟩ => by
    subst e
    obtain ⟨v, ev, rv⟩ := a.ex.2.one
    exact ⟨n, by rw [ev, rv.int_inv], hn.1, hn.2, q _ _ H1 G _ p (a.same a.ex.1) itd_rng (fun _ _ => trivial) fun _ _ _ => trivial⟩
theorem wj_rng2 (h : WA K sa ta δ fun ds => ∃ i n : Int, ds = [.int i, .int n] ∧ (-(2 ^ 62) ≤ i ∧ i < 2 ^ 62 ∧ -(2 ^ 62) ≤ n ∧ n < 2 ^ 62) ∧ P (rngD i (n - i).toNat)) : WJ K sa st (iRng2 ta) δ P := fun m H0 G0 E up σ H A R q =>
  h m H0 G0 E up σ H A _ fun vs ds H1 ⟨i, n, e, hn, p⟩ ⟨G, a⟩ => by
    subst e
    obtain ⟨v, w, ev, rv, rw'⟩ := a.ex.2.two
    exact ⟨i, n, by rw [ev, rv.int_inv, rw'.int_inv], hn, q _ _ H1 G _ p (a.same a.ex.1) itd_rng (fun _ _ => trivial) fun _ _ _ => trivial⟩
/-- what is walked by pairs -/
theorem seqD_sq {G : Hp} {v : V} {d : D} {ds : List D} (r : Rp K G v d) (e : SeqD d ds) : ∃ k a xs, v = .ref a ∧ SqK K G k a xs ∧ RpA K G xs ds ∧ (G a = some (.lst xs) ∧ k = true ∨ SqT K G a xs ∧ k = false) := by
  rcases e with e | e
  · subst e
    obtain ⟨b, xs, ev, hb, rx⟩ := r.lst_inv
    exact ⟨true, b, xs, ev, .inl (.inl hb), rx, .inl ⟨hb, rfl⟩⟩
  · subst e
    obtain ⟨b, xs, ev, hb, rx⟩ := r.tup_inv
    exact ⟨false, b, xs, ev, hb, rx, .inr ⟨hb, rfl⟩⟩
theorem sqK_same {G H : Hp} {k : Bool} {a : Addr} {xs : List V} (e : Same G H) (h : SqK K G k a xs) : SqK K H k a xs := by
  cases k with
  | true => exact sqL_mono e h
  | false => exact sqT_mono e h
theorem AtG.exK {m : Bool} {H0 G0 G H H' : Hp} {E : Hp → Prop} {σ : L2.St} (A : AtG K m sa H0 G0 δ E σ G H) {k : Bool} {a : Addr} {xs : List V} (h : G a = some (.lst xs) ∧ k = true ∨ SqT K G a xs ∧ k = false) (e : ExB sa H H') : SqK K H' k a xs := by
  rcases h with ⟨h, rfl⟩ | ⟨h, rfl⟩
  · exact .inl (.inl (A.exL h e))
  · exact A.exT h e
def zipD (ds es : List D) : List D := (ds.zip es).map fun p => .tuple [p.1, p.2]
theorem zipD_len (ds es : List D) : (zipD ds es).length = min ds.length es.length := by unfold zipD; rw [List.length_map, List.length_zip]
theorem zipD_get {ds es : List D} {i : Nat} {d e : D} (h1 : ds[i]? = some d) (h2 : es[i]? = some e) : (zipD ds es)[i]? = some (.tuple [d, e]) := by
  unfold zipD
  have hz : (ds.zip es)[i]? = some (d, e) := List.getElem?_zip_eq_some.mpr ⟨h1, h2⟩
  rw [List.getElem?_map, hz]
  rfl
theorem zipD_inv {ds es : List D} {i : Nat} {x : D} (h : (zipD ds es)[i]? = some x) : ∃ d e, ds[i]? = some d ∧ es[i]? = some e ∧ x = .tuple [d, e] := by
  have hi : i < (zipD ds es).length := (List.getElem?_eq_some_iff.mp h).1
  rw [zipD_len] at hi
  have h1 : i < ds.length := by omega
  have h2 : i < es.length := by omega
  rw [zipD_get (List.getElem?_eq_getElem h1) (List.getElem?_eq_getElem h2)] at h
  exact ⟨_, _, List.getElem?_eq_getElem h1, List.getElem?_eq_getElem h2, (Option.some.inj h).symm⟩
theorem wj_zip (h : WA K sa ta δ fun xs => ∃ d e ds es, xs = [d, e] ∧ SeqD d ds ∧ SeqD e es ∧ P (zipD ds es)) : WJ K sa st (iZipU K ta) δ P := fun m H0 G0 E up σ H A R q =>
  h m H0 G0 E up σ H A _ fun vs xs H1 ⟨d, e, ds, es, ex, sd, se, p⟩ ⟨G, a⟩ => by
    subst ex
    obtain ⟨v, w, ev, rv, rw'⟩ := a.ex.2.two
    obtain ⟨k1, b1, xs1, e1, q1, r1, c1⟩ := seqD_sq rv sd
    obtain ⟨k2, b2, xs2, e2, q2, r2, c2⟩ := seqD_sq rw' se
    refine ⟨k1, k2, b1, b2, xs1, xs2, by rw [ev, e1, e2], sqK_same a.gd.gh q1, sqK_same a.gd.gh q2, q _ _ H1 G (fun H' => SqK K H' k1 b1 xs1 ∧ SqK K H' k2 b2 xs2) p (a.same a.ex.1) ⟨fun i H hi st => ?_, fun H st => ⟨xs1, xs2, st.1, st.2, by rw [zipD_len, r1.length, r2.length]⟩, fun i H x H' hi st y => ?_⟩
      (fun H' e => ⟨a.exK c1 e, a.exK c2 e⟩) fun _ H' e => ⟨sqK_same e q1, sqK_same e q2⟩⟩
    · rw [zipD_len] at hi
      have h1 : i < xs1.length := by rw [r1.length]; omega
      have h2 : i < xs2.length := by rw [r2.length]; omega
      exact ⟨xs1, xs2, xs1[i], xs2[i], st.1, st.2, by simp [h1], by simp [h2]⟩
    · obtain ⟨T, x1, x2, ex, hT, eH, f1, f2⟩ := y
      obtain ⟨d1, hd1, rd1⟩ := r1.getV (f1 xs1 st.1)
      obtain ⟨d2, hd2, rd2⟩ := r2.getV (f2 xs2 st.2)
      exact ⟨_, zipD_get hd1 hd2, .inr ⟨T, [x1, x2], [d1, d2], ex, hT, eH, .cons rd1 (.cons rd2 .nil), rfl⟩⟩
def enumD (ds : List D) : List D := zipD (rngD 0 ds.length) ds
theorem enumD_len (ds : List D) : (enumD ds).length = ds.length := by unfold enumD; rw [zipD_len, rngD_len, Nat.min_self]
theorem enumD_get {ds : List D} {i : Nat} {d : D} (h : ds[i]? = some d) : (enumD ds)[i]? = some (.tuple [.int (i : Nat), d]) := by
  have := zipD_get (rngD_get (lo := 0) (List.getElem?_eq_some_iff.mp h).1) h
  rw [Int.zero_add] at this
  exact this
theorem enumD_inv {ds : List D} {i : Nat} {x : D} (h : (enumD ds)[i]? = some x) : ∃ d, ds[i]? = some d ∧ x = .tuple [.int (i : Nat), d] := by
  have hi : i < (enumD ds).length := (List.getElem?_eq_some_iff.mp h).1
  rw [enumD_len] at hi
  rw [enumD_get (List.getElem?_eq_getElem hi)] at h
  exact ⟨_, List.getElem?_eq_getElem hi, (Option.some.inj h).symm⟩
theorem wj_enum (h : WA K sa ta δ fun xs => ∃ d ds, xs = [d] ∧ SeqD d ds ∧ P (enumD ds)) : WJ K sa st (iEnumU K ta) δ P := fun m H0 G0 E up σ H A R q =>
  h m H0 G0 E up σ H A _ fun vs xs H1 ⟨d, ds, ex, sd, p⟩ ⟨G, a⟩ => by
    subst ex
    obtain ⟨v, ev, rv⟩ := a.ex.2.one
    obtain ⟨k1, b1, xs1, e1, q1, r1, c1⟩ := seqD_sq rv sd
    refine ⟨k1, b1, xs1, by rw [ev, e1], sqK_same a.gd.gh q1, q _ _ H1 G (fun H' => SqK K H' k1 b1 xs1) p (a.same a.ex.1) ⟨fun i H hi st => ?_, fun H st => ⟨xs1, st, by rw [enumD_len, r1.length]⟩, fun i H x H' hi st y => ?_⟩
      (fun H' e => a.exK c1 e) fun _ H' e => sqK_same e q1⟩
    · rw [enumD_len] at hi
      have h1 : i < xs1.length := by rw [r1.length]; omega
      exact ⟨xs1, xs1[i], st, by simp [h1]⟩
    · obtain ⟨T, x1, ex, hT, eH, f1⟩ := y
      obtain ⟨d1, hd1, rd1⟩ := r1.getV (f1 xs1 st)
      exact ⟨_, enumD_get hd1, .inr ⟨T, _, [.int (i : Nat), d1], ex, hT, eH, .cons (.int _) (.cons rd1 .nil), rfl⟩⟩
end
/-! ### the script -/
section
variable {K : Fg} {sa : Option Addr} {δ : List Cell} {te : TE} {P : D → Prop}
theorem cw_lenScr {ns : List Int} (p : P (.int ns.length)) : CW K sa (fun xs H Q => ∃ x n, xs = [x] ∧ LenV K x H n ∧ Q (.int n) H) [scrD ns] P :=
  cw_at (z := .int ns.length) (fun _ => .int _) p fun G H vs Q s r q => by
    obtain ⟨v, e, rv⟩ := r.one
    obtain ⟨a, e2, h⟩ := rv.scr_inv
    exact ⟨v, ns.length, e, by rw [e2]; exact .inl ⟨_, sqL_mono s h, by rw [List.length_map]⟩, q⟩
theorem ow_ixScr {ns : List Int} {i x : Int} (h : atI ns i = some x) (p : P (.int x)) : OW K sa (rIx K) (scrD ns) (.int i) P :=
  ow_at (z := .int x) (fun _ => .int _) p fun G H v w Q s r1 r2 q => by
    obtain ⟨a, e2, hs⟩ := r1.scr_inv
    refine .inl ⟨a, _, i, .int x, e2, r2.int_inv, sqL_mono s hs, ?_, q⟩
    unfold atI at h ⊢
    rw [List.length_map]
    cases e : ixN ns.length i with
    | none => rw [e] at h; cases h
    | some j =>
      rw [e] at h
      show (ns.map V.int)[j]? = _
      rw [List.getElem?_map]
      have h : ns[j]? = some x := h
      rw [h]; rfl
theorem wf_slScr {tl th : TO} {ns : List Int} {P : List D → Prop} (h : WE K sa te δ fun d => d = scrD ns ∧ WO K sa tl δ fun l => WO K sa th δ fun u => P ((ns.map PyData.int).drop (HT.sIx ns.length 0 l) |>.take (HT.sIx ns.length ns.length u - HT.sIx ns.length 0 l))) : WF K sa (tSl (rSlL K) te tl th) δ P := fun m H0 G0 E up σ H A Q q =>
  h m H0 G0 E up σ H A _ fun v d H1 ⟨e, h1⟩ A1 => h1 m H0 G0 _ (up_and up up_rp) σ H1 A1 _ fun l H2 h2 A2 => h2 m H0 G0 _ (up_and up up_rp) σ H2 A2 _ fun u H3 p ⟨G, a⟩ => by
    subst e
    obtain ⟨b, e1, hs⟩ := a.ex.2.scr_inv
    refine ⟨b, _, e1, sqL_mono a.gd.gh hs, fun x hx => wf_new up ⟨G, a.same ⟨a.ex.1, ?_⟩⟩ p q hx⟩
    unfold cutV
    rw [List.length_map]
    exact ((RpA.of_ints ns).drop _).take _
end
/-! ### defs, called where nothing is being shown (no list's or tuple's repr runs) -/
structure FnG (P : Program) (w : World) (K : Fg) (mg : Str → Option Value) (base : Heap) (CX : CXT) (k : Nat) (f : Addr) (fd : FuncData) (ps : List Str) (sp : Sp) : Prop where
  len : ∀ vs H Q E, sp vs H Q E → vs.length = ps.length
  run : ∀ (A : Around) (outer : List Env) (s : Shared) (H : Hp) (args : Args) (us : List Value) (vs : List V) (Q : VK) (E : XK), Room k A → A.guards = some [] → Env0 P w K mg base A outer s H → BindsTo s fd args (ps.zip us) → Vals vs us → sp vs H Q E →
    codeAny (model P w) A (.call (.ref f) args) (CR CX outer P w H s Q E) s
section
variable {P : Program} {w : World} {K : Fg} {mg : Str → Option Value} {base : Heap} {CX : CXT}
theorem fun_okG {x qual : Str} {st : Stmt} {f : Addr} {fd : FuncData} {N ps : List Str} {k : Nat} {sp : Sp} (F : Fun K x qual st f fd) (S : FnScope N ps (defScope st)) (len : ∀ vs H Q E, sp vs H Q E → vs.length = ps.length)
    (hbody : ∀ (cdv : Value) (A : Around) (outer : List Env) (s : Shared) (H : Hp) (vs : List V) (Q : VK) (E : XK), Room k (A.deeper (envOfC qual (defScope st) s.heap.objs.size f cdv)) → (A.deeper (envOfC qual (defScope st) s.heap.objs.size f cdv)).guards = some [] → sp vs H Q E →
      ∃ t, PSs (cxOf CX P w K mg base N qual (defScope st) f cdv A outer s H E) (defBody st) t ∧ t { nx := fun _ H' => Q .non H', rt := Q } (L2.start N vs) H) : FnG P w K mg base CX (k + 1) f fd ps sp := by
  obtain ⟨oc, od, kV, doc, pm, an, cdv, ct, osl, rfl, lk, hcd⟩ := F.ex
  refine ⟨len, fun A outer s H args us vs Q E hr hg e0 hb r hsp => ?_⟩
  exact LamX.run_ofS lk hcd S hr e0 hb r (len _ _ _ _ hsp) fun hr' => hbody cdv A outer s H vs Q E hr' hg hsp
end
section
variable {X : Cx} {CX : CXT} {k : Nat} {f : Addr} {fd : FuncData} {ps ks : List Str} {sp : Sp} {dvs : List V} {ds : List Value} {E : XK} {x : Str} {p pos : Pos} {e : Expr} {es : List Expr} {ta t tk : TA} {kws : List Keyword} {g : List Value → List Value → List Value} {gV : List V → List V → List V}
theorem ran {pins : List (Addr × Obj)} {σ : L2.St} {H : Hp} {s : Shared} {Q : VK} (hx : Passes CX X E) (I : Inv X pins σ H s) {args : Args} (h : codeAny (model X.prog X.w) X.A (.call (.ref f) args) (CR CX X.stack X.prog X.w H s Q E) s) :
    codeAny (model X.prog X.w) X.A (.call (.ref f) args) (fun r s' => match r with | .ok (.ret u) => EP X pins σ Q u s' | .ok _ => False | .error e => X.xe e s') s :=
  codeAny_mono h fun r s' hq => by
    cases r with
    | error e => exact hx pins σ H s e s' I hq
    | ok fl =>
      cases fl with
      | ret u => exact I.after hq
      | next => exact hq
      | brk => exact hq
      | cont => exact hq
theorem run_fnG {pins : List (Addr × Obj)} {σ : L2.St} {H : Hp} {s : Shared} {Q : VK} {us : List Value} {vs : List V} (F : FnG X.prog X.w X.K X.mg X.base CX k f fd ps sp) (hr : Room k X.A) (hgd : X.A.guards = some []) (hb : Binds X.K fd ps ds) (hd : Vals dvs ds) (hx : Passes CX X E)
    (I : Inv X pins σ H s) (r : Vals vs us) (h : sp (vs ++ dvs) H Q E) : wpAny (model X.prog X.w) X.A (call (.ref f) us) (EP X pins σ Q) X.xe s := by
  have r2 : Vals (vs ++ dvs) (us ++ ds) := r.append hd
  have hl : (us ++ ds).length = ps.length := by rw [← r2.length]; exact F.len _ _ _ _ h
  refine wpAny_call (codeAny_mono (ran hx I (F.run X.A X.stack s H ⟨us, []⟩ (us ++ ds) (vs ++ dvs) Q E hr hgd I.env0 (hb s us I.kIn hl) r2 h)) fun r s' hq => ?_)
  cases r with
  | error e => exact hq
  | ok fl =>
    cases fl with
    | ret u => exact hq
    | next => exact False.elim hq
    | brk => exact False.elim hq
    | cont => exact False.elim hq
theorem pe_callG (F : FnG X.prog X.w X.K X.mg X.base CX k f fd ps sp) (hr : Room k X.A) (hgd : X.A.guards = some []) (hg : Gl X x) (hm : X.mg x = some (.ref f)) (hk : PySem.W.keepIn X.K (.ref f) = true) (hb : Binds X.K fd ps ds) (hd : Vals dvs ds) (hx : Passes CX X E)
    (ha : PA X (e :: es) t) (hdb : (x == ("__debug__" : Str)) = false := by decide) (he : starEach (e :: es) X.env = (false, eval e X.env) :: starEach es X.env := by rfl) (hpl : (backTo pos (starEach es X.env)).any (·.1) = false := by rfl) :
    PE X (.Call (.Name x p) (e :: es) [] pos) (tCall sp dvs E t) := by
  refine ⟨fun pins s σ H Q I h => ?_⟩
  refine wpAny_Call_Name_kw (ld_glob I hg hm ?_ hdb)
  refine PySem.W.callWith_K (h₀ := X.base) I.ok.mod.kin hk (thn (ha.run pos pins s σ H _ I h) fun us s1 ⟨vs, H1, I1, r, q⟩ => ⟨I1.kIn, ?_⟩) he hpl
  exact run_fnG F hr hgd hb hd hx I1 r q
theorem pe_callG0 (F : FnG X.prog X.w X.K X.mg X.base CX k f fd ps sp) (hr : Room k X.A) (hgd : X.A.guards = some []) (hg : Gl X x) (hm : X.mg x = some (.ref f)) (hk : PySem.W.keepIn X.K (.ref f) = true) (hb : Binds X.K fd ps ds) (hd : Vals dvs ds) (hx : Passes CX X E)
    (hdb : (x == ("__debug__" : Str)) = false := by decide) : PE X (.Call (.Name x p) [] [] pos) (tCall sp dvs E tNil) := by
  refine ⟨fun pins s σ H Q I h => ?_⟩
  refine wpAny_Call_Name_kw (ld_glob I hg hm ?_ hdb)
  exact PySem.W.callWith_K0 I.kIn hk (run_fnG (us := []) F hr hgd hb hd hx I .nil h)
theorem run_fnGk {pins : List (Addr × Obj)} {σ : L2.St} {H : Hp} {s : Shared} {Q : VK} {us ws : List Value} {vs zs : List V} (F : FnG X.prog X.w X.K X.mg X.base CX k f fd ps sp) (hr : Room k X.A) (hgd : X.A.guards = some []) (hb : KBinds X.K fd ps ks g gV) (hx : Passes CX X E)
    (I : Inv X pins σ H s) (r : Vals vs us) (rz : Vals zs ws) (h : sp (gV vs zs) H Q E) : wpAny (model X.prog X.w) X.A (call (.ref f) us (ks.zip ws)) (EP X pins σ Q) X.xe s := by
  have r2 := hb.rel r rz
  have hl : (g us ws).length = ps.length := by rw [← r2.length]; exact F.len _ _ _ _ h
  refine wpAny_call (codeAny_mono (ran hx I (F.run X.A X.stack s H ⟨us, ks.zip ws⟩ (g us ws) (gV vs zs) Q E hr hgd I.env0 (hb.to s us ws I.kIn hl) r2 h)) fun r s' hq => ?_)
  cases r with
  | error e => exact hq
  | ok fl =>
    cases fl with
    | ret u => exact hq
    | next => exact False.elim hq
    | brk => exact False.elim hq
    | cont => exact False.elim hq
/-- f(k = v, ..) -/
theorem pe_callGk0 (F : FnG X.prog X.w X.K X.mg X.base CX k f fd ps sp) (hr : Room k X.A) (hgd : X.A.guards = some []) (hg : Gl X x) (hm : X.mg x = some (.ref f)) (hk : PySem.W.keepIn X.K (.ref f) = true) (hb : KBinds X.K fd ps ks g gV) (hx : Passes CX X E) (hkw : PK X kws tk)
    (hall : (backToKw pos (keywordEach kws X.env)).all (·.1.isSome) = true := by rfl) (hks : (backToKw pos (keywordEach kws X.env)).filterMap (·.1) = ks := by rfl) (hdb : (x == ("__debug__" : Str)) = false := by decide)
    (hpl : ((backTo pos (starEach [] X.env)).any (·.1) || (backToKw pos (keywordEach kws X.env)).any (·.1.isNone)) = false := by rfl) :
    PE X (.Call (.Name x p) [] kws pos) (tCallK sp gV E tNil tk) := by
  refine ⟨fun pins s σ H Q I h => ?_⟩
  refine wpAny_Call_Name_kw (ld_glob I hg hm ?_ hdb)
  refine PySem.W.callWith_KW0 (h₀ := X.base) I.ok.mod.kin hk hall ?_ hpl
  refine thn (hkw.run pos pins s σ H _ I h) fun ws s2 ⟨zs, H2, I2, rz, q2⟩ => ⟨I2.kIn, ?_⟩
  rw [hks]
  exact run_fnGk (us := []) (vs := []) F hr hgd hb hx I2 .nil rz q2
/-- f(e, .., k = v, ..) -/
theorem pe_callGk (F : FnG X.prog X.w X.K X.mg X.base CX k f fd ps sp) (hr : Room k X.A) (hgd : X.A.guards = some []) (hg : Gl X x) (hm : X.mg x = some (.ref f)) (hk : PySem.W.keepIn X.K (.ref f) = true) (hb : KBinds X.K fd ps ks g gV) (hx : Passes CX X E)
    (ha : PA X (e :: es) t) (hkw : PK X kws tk) (hall : (backToKw pos (keywordEach kws X.env)).all (·.1.isSome) = true := by rfl) (hks : (backToKw pos (keywordEach kws X.env)).filterMap (·.1) = ks := by rfl)
    (hdb : (x == ("__debug__" : Str)) = false := by decide) (he : starEach (e :: es) X.env = (false, eval e X.env) :: starEach es X.env := by rfl)
    (hpl : ((backTo pos (starEach (e :: es) X.env)).any (·.1) || (backToKw pos (keywordEach kws X.env)).any (·.1.isNone)) = false := by rfl) :
    PE X (.Call (.Name x p) (e :: es) kws pos) (tCallK sp gV E t tk) := by
  refine ⟨fun pins s σ H Q I h => ?_⟩
  refine wpAny_Call_Name_kw (ld_glob I hg hm ?_ hdb)
  refine PySem.W.callWith_KW (h₀ := X.base) I.ok.mod.kin hk hall (thn (ha.run pos pins s σ H _ I h) fun us s1 ⟨vs, H1, I1, r, q⟩ => ?_) hpl he
  refine thn (hkw.run pos pins s1 σ H1 _ I1 q) fun ws s2 ⟨zs, H2, I2, rz, q2⟩ => ⟨I2.kIn, ?_⟩
  rw [hks]
  exact run_fnGk F hr hgd hb hx I2 r rz q2
end
/-! ### what defs promise -/
/-- a def that changes nothing: from data to data -/
def spF (K : Fg) (pre : List D → Prop) (post : List D → D → Prop) : Sp := fun vs H Q _ => ∃ G ds, Same G H ∧ RpA K G vs ds ∧ pre ds ∧
  ∀ H' G' v d, Same H H' → Same G G' → Same G' H' → (∀ b, H b ≠ none → G b = none → G' b = none) → Rp K G' v d → post ds d → Q v H'
/-- a def that draws from the spring -/
def spS (K : Fg) (pre : List D → Prop) (post : List D → D → Prop) : Sp := fun vs H Q _ => ∃ a ws G ds, vs = .ref a :: ws ∧ Same G H ∧ SprV H a ∧ G a = none ∧ RpA K G ws ds ∧ pre ds ∧
  ∀ H' G' v d, ExB (some a) H H' → SprV H' a → Same G G' → Same G' H' → (∀ b, H b ≠ none → G b = none → G' b = none) → Rp K G' v d → post ds d → Q v H'
section
variable {K : Fg} {sa : Option Addr} {δ : List Cell} {ta tk : TA} {P : D → Prop} {pre : List D → Prop} {post : List D → D → Prop}
theorem we_call {E0 : XK} (h : WA K sa ta δ fun ds => pre ds ∧ ∀ d, post ds d → P d) : WE K sa (tCall (spF K pre post) [] E0 ta) δ P := fun m H0 G0 E up σ H A Q q =>
  h m H0 G0 E up σ H A _ fun vs ds H1 ⟨p, k⟩ ⟨G, a⟩ => by
    show spF K pre post (vs ++ []) H1 Q E0
    rw [List.append_nil]
    exact ⟨G, ds, a.gd.gh, a.ex.2, p, fun H' G' v d s1 s2 s3 fr r hp => q v d H' (k d hp) ⟨G', a.grow s2 s3 fr (.of s1) (fun z ez => let ⟨c, s, n, e⟩ := (a.gd.sp z ez).1; ⟨c, s, n, s1 _ _ e⟩) ⟨up _ _ s2 a.ex.1, r⟩⟩⟩
theorem we_callK {E0 : XK} {gV : List V → List V → List V} {gD : List D → List D → List D} (hg : ∀ (G : Hp) (vs zs : List V) (ds es : List D), RpA K G vs ds → RpA K G zs es → RpA K G (gV vs zs) (gD ds es))
    (h : WA K sa ta δ fun ds => WA K sa tk δ fun es => pre (gD ds es) ∧ ∀ d, post (gD ds es) d → P d) : WE K sa (tCallK (spF K pre post) gV E0 ta tk) δ P := fun m H0 G0 E up σ H A Q q =>
  h m H0 G0 E up σ H A _ fun vs ds H1 h1 A1 => h1 m H0 G0 _ (up_and up up_rpA) σ H1 A1 _ fun zs es H2 ⟨p, k⟩ ⟨G, a⟩ =>
    ⟨G, gD ds es, a.gd.gh, hg _ _ _ _ _ a.ex.1.2 a.ex.2, p, fun H' G' v d s1 s2 s3 fr r hp => q v d H' (k d hp) ⟨G', a.grow s2 s3 fr (.of s1) (fun z ez => let ⟨c, s, n, e⟩ := (a.gd.sp z ez).1; ⟨c, s, n, s1 _ _ e⟩) ⟨up _ _ s2 a.ex.1.1, r⟩⟩⟩
theorem we_callS {E0 : XK} {a : Addr} {i : Nat} (hi : δ[i]? = some .spr) (h : WA K (some a) ta δ fun ds => pre ds ∧ ∀ d, post ds d → P d) : WE K (some a) (tCall (spS K pre post) [] E0 (tCons (tVar i) ta)) δ P := fun m H0 G0 E up σ H ⟨G1, a1⟩ Q q => by
  obtain ⟨o, e, b, eb, eo⟩ := a1.slot hi
  cases eb
  subst eo
  refine ⟨_, e, h m H0 G0 E up σ H ⟨G1, a1⟩ _ fun vs ds H1 ⟨p, k⟩ ⟨G, A⟩ => ?_⟩
  show spS K pre post ((V.ref a :: vs) ++ []) H1 Q E0
  rw [List.append_nil]
  exact ⟨a, vs, G, ds, rfl, A.gd.gh, (A.gd.sp a rfl).1, A.gd.notIn rfl, A.ex.2, p, fun H' G' v d s1 sp s2 s3 fr r hp => q v d H' (k d hp) ⟨G', A.grow s2 s3 fr s1 (fun z ez => by cases ez; exact sp) ⟨up _ _ s2 A.ex.1, r⟩⟩⟩
end
section
variable {P : Program} {w : World} {K : Fg} {mg : Str → Option Value} {base : Heap}
theorem rpA_cells {G H : Hp} {m : Bool} {sa : Option Addr} {vs : List V} {ds : List D} (r : RpA K G vs ds) (n : Nat) : ∀ (i : Nat) (c : Cell) (o : Option V), (ds.map Cell.dat ++ List.replicate n Cell.no)[i]? = some c → (vs.map some ++ List.replicate n none)[i]? = some o → CellOk K m sa H G H o c := fun i c o h1 h2 => by
  by_cases hi : i < ds.length
  · rw [List.getElem?_append_left (by simpa using hi), List.getElem?_map] at h1
    rw [List.getElem?_append_left (by rw [List.length_map, r.length]; exact hi), List.getElem?_map] at h2
    obtain ⟨d, hd, e1⟩ := Option.map_eq_some_iff.mp h1
    obtain ⟨v, hv, e2⟩ := Option.map_eq_some_iff.mp h2
    subst e1 e2
    obtain ⟨v', hv', rv⟩ := r.get hd
    rw [hv] at hv'; cases hv'
    exact ⟨v, rfl, rv⟩
  · rw [List.getElem?_append_right (by simpa using hi), List.getElem?_replicate] at h1
    split at h1
    · cases h1; trivial
    · cases h1
theorem no_own {ds : List D} {n i : Nat} {es : List D} (h : (ds.map Cell.dat ++ List.replicate n Cell.no)[i]? = some (.own es)) : False := by
  by_cases hi : i < ds.length
  · rw [List.getElem?_append_left (by simpa using hi), List.getElem?_map] at h
    obtain ⟨d, _, e⟩ := Option.map_eq_some_iff.mp h
    cases e
  · rw [List.getElem?_append_right (by simpa using hi), List.getElem?_replicate] at h
    split at h <;> cases h
theorem no_foot {H : Hp} {o : Option V} {b : Addr} {c : Cell} {ds : List D} {n i : Nat} (h : (ds.map Cell.dat ++ List.replicate n Cell.no)[i]? = some c) (f : foot H o c b) : False := by
  by_cases hi : i < ds.length
  · rw [List.getElem?_append_left (by simpa using hi), List.getElem?_map] at h
    obtain ⟨d, _, e⟩ := Option.map_eq_some_iff.mp h
    subst e; exact f
  · rw [List.getElem?_append_right (by simpa using hi), List.getElem?_replicate] at h
    split at h
    · cases h; exact f
    · cases h
/-- THE RULE for a def that changes nothing -/
theorem ok_fn {x qual : Str} {st : Stmt} {f : Addr} {fd : FuncData} {N ps : List Str} {k : Nat} {pre : List D → Prop} {post : List D → D → Prop} (F : Fun K x qual st f fd) (S : FnScope N ps (defScope st)) (len : ∀ ds, pre ds → ds.length = ps.length)
    (hb : ∀ (cdv : Value) (A : Around) (outer : List Env) (s : Shared) (H : Hp) (E : XK), Room k (A.deeper (envOfC qual (defScope st) s.heap.objs.size f cdv)) → (A.deeper (envOfC qual (defScope st) s.heap.objs.size f cdv)).guards = some [] →
      ∃ t, PSs (cxOf CX0 P w K mg base N qual (defScope st) f cdv A outer s H E).nox (defBody st) t ∧ ∀ ds, pre ds → WS K none t ⟨fun _ => post ds .none, post ds, fun _ => False, fun _ => False⟩ (ds.map Cell.dat ++ List.replicate (N.length - ps.length) Cell.no)) :
    FnG P w K mg base CX0 (k + 1) f fd ps (spF K pre post) := by
  refine fun_okG F S (fun vs H Q E h => ?_) (fun cdv A outer s H vs Q E hr hgd h => ?_)
  · obtain ⟨G, ds, _, r, p, _⟩ := h
    rw [r.length]; exact len ds p
  · obtain ⟨G, ds, sm, r, p, q⟩ := h
    obtain ⟨t, ht, hw⟩ := hb cdv A outer s H E hr hgd
    have hl : vs.length = ps.length := by rw [r.length]; exact len ds p
    refine ⟨t, ht.nox, hw ds p H G (fun _ => True) up_true _ H _ ⟨G, ⟨Same.refl _, sm, fun _ _ h => h, .refl _ _, fun _ e => nomatch e⟩, ?_, ?_, fun _ _ _ _ _ _ _ h1 _ _ _ _ f1 _ => no_foot h1 f1, trivial⟩ ⟨?_, fun _ _ _ h => h.elim, fun _ _ _ h => h.elim, ?_⟩⟩
    · unfold L2.start
      rw [List.length_append, List.length_append, List.length_map, List.length_map, List.length_replicate, List.length_replicate, r.length, hl.symm, r.length]
    · unfold L2.start
      rw [hl]
      exact rpA_cells r _
    · intro δ σ H' pn ⟨G', a⟩
      exact q H' G' .non .none (fun b o e => a.gd.hh b o (fun z => nomatch z) e) a.gd.g0 a.gd.gh a.gd.fr .non pn
    · intro δ v d σ H' pr ⟨G', a⟩
      exact q H' G' v d (fun b o e => a.gd.hh b o (fun z => nomatch z) e) a.gd.g0 a.gd.gh a.gd.fr a.ex.2 pr
/-- .. and for one that draws -/
theorem ok_fnS {x qual : Str} {st : Stmt} {f : Addr} {fd : FuncData} {N ps : List Str} {k : Nat} {pre : List D → Prop} {post : List D → D → Prop} (F : Fun K x qual st f fd) (S : FnScope N ps (defScope st)) (len : ∀ ds, pre ds → ds.length + 1 = ps.length)
    (hb : ∀ (cdv : Value) (A : Around) (outer : List Env) (s : Shared) (H : Hp) (E : XK), Room k (A.deeper (envOfC qual (defScope st) s.heap.objs.size f cdv)) → (A.deeper (envOfC qual (defScope st) s.heap.objs.size f cdv)).guards = some [] →
      ∃ t, PSs (cxOf CX0 P w K mg base N qual (defScope st) f cdv A outer s H E).nox (defBody st) t ∧ ∀ a ds, pre ds → WS K (some a) t ⟨fun _ => post ds .none, post ds, fun _ => False, fun _ => False⟩ (.spr :: (ds.map Cell.dat ++ List.replicate (N.length - ps.length) Cell.no))) :
    FnG P w K mg base CX0 (k + 1) f fd ps (spS K pre post) := by
  refine fun_okG F S (fun vs H Q E h => ?_) (fun cdv A outer s H vs Q E hr hgd h => ?_)
  · obtain ⟨a, ws, G, ds, rfl, _, _, _, r, p, _⟩ := h
    rw [List.length_cons, r.length]; exact len ds p
  · obtain ⟨a, ws, G, ds, rfl, sm, sp, ga, r, p, q⟩ := h
    obtain ⟨t, ht, hw⟩ := hb cdv A outer s H E hr hgd
    have hl : ws.length + 1 = ps.length := by rw [r.length]; exact len ds p
    have est : L2.start N (V.ref a :: ws) = some (V.ref a) :: (ws.map some ++ List.replicate (N.length - ps.length) none) := by
      unfold L2.start
      rw [List.length_cons, hl]; rfl
    rw [est]
    refine ⟨t, ht.nox, hw a ds p H G (fun _ => True) up_true _ H _ ⟨G, ⟨Same.refl _, sm, fun _ _ h => h, .refl _ _, fun b e => ?_⟩, ?_, ?_, ?_, trivial⟩ ⟨?_, fun _ _ _ h => h.elim, fun _ _ _ h => h.elim, ?_⟩⟩
    · cases e
      refine ⟨sp, ?_, ga⟩
      obtain ⟨c, s, n, e⟩ := sp
      rw [e]; simp
    · rw [List.length_cons, List.length_cons, List.length_append, List.length_append, List.length_map, List.length_map, List.length_replicate, List.length_replicate, r.length]
    · intro i c o h1 h2
      cases i with
      | zero => cases h1; cases h2; exact ⟨a, rfl, rfl⟩
      | succ i => exact rpA_cells r _ i c o h1 h2
    · intro i j c c' o o' hij h1 h2 h3 h4 b f1 f2
      cases i with
      | zero => cases h1; exact f1
      | succ i => exact no_foot h1 f1
    · intro δ σ H' pn ⟨G', a'⟩
      exact q H' G' .non .none a'.gd.hh (a'.gd.sp a rfl).1 a'.gd.g0 a'.gd.gh a'.gd.fr .non pn
    · intro δ v d σ H' pr ⟨G', a'⟩
      exact q H' G' v d a'.gd.hh (a'.gd.sp a rfl).1 a'.gd.g0 a'.gd.gh a'.gd.fr a'.ex.2 pr
end
/-! ### isinstance -/
def tyD : D → String
  | .none => "NoneType" | .bool _ => "bool" | .int _ => "int" | .str _ => "str" | .list _ => "list" | .tuple _ => "tuple" | .dict _ => "dict"
theorem Rp.tyX {K : Fg} {G H : Hp} {v : V} {d : D} (s : Same G H) (r : Rp K G v d) (hd : ∀ ks, d ≠ .dict ks ∨ True) : ((∀ ns, d ≠ scrD ns) ∧ ∀ ds, d ≠ dixD ds) → TyX K H v (.type (tyD d)) := fun hn => by
  cases r with
  | non => exact .base .non
  | bl b => exact .base (.bl b)
  | int i => exact .base (.int i)
  | str x => exact .base (.str x)
  | lst h r => exact .base (.lst (s _ _ h))
  | tup h r => exact .base (.tup (s _ _ h))
  | dic h r => exact .base (.dK (s _ _ h))
  | scr h => exact absurd rfl (hn.1 _)
  | dix h r => exact absurd rfl (hn.2 _)
section
variable {K : Fg} {sa : Option Addr} {δ : List Cell} {te : TE} {P : D → Prop}
theorem we_isi {T : String} (h : WE K sa te δ fun d => ((∀ ns, d ≠ scrD ns) ∧ ∀ ds, d ≠ dixD ds) ∧ ∃ b, PySem.W.kitOne K (.type (tyD d)) (.type T) = some b ∧ P (.bool b)) : WE K sa (tCB (rIsi K) (tCons te (tCons (tC (.ty T)) tNil))) δ P := fun m H0 G0 E up σ H A Q q =>
  h m H0 G0 E up σ H A _ fun v d H1 ⟨hn, b, e, p⟩ ⟨G, a⟩ => ⟨v, .ty T, _, _, b, rfl, .ty T, a.ex.2.tyX a.gd.gh (fun _ => .inr trivial) hn, e, q _ _ H1 p ⟨G, a.same ⟨a.ex.1, .bl b⟩⟩⟩
end
end Dl

namespace Dl
open PySem PySem.Spec PyProof.Rows L2 DlP
/-! ### operators that look at what comes -/
def rAddU (K : Fg) : R2 := fun x y H Q => rI0 (fun i j => .int (i + j)) x y H Q ∨ rCatA K x y H Q ∨ rCat x y H Q
def rMulU (K : Fg) : R2 := fun x y H Q => rI CMul (fun i j => .int (i * j)) x y H Q ∨ rRep x y H Q ∨ rRepT K x y H Q
def rEqU (K : Fg) : R2 := fun x y H Q => rEq x y H Q ∨ rEqD K x y H Q
def rNeU (K : Fg) : R2 := fun x y H Q => rNe x y H Q ∨ rNeD K x y H Q
section
variable {X : Cx}
theorem op_addU : OpR X (binaryOp .Add) (rAddU X.K) := fun pins s σ H x y u v Q I rx ry h => by
  rcases h with h | h | h
  · exact op_add pins s σ H x y u v Q I rx ry h
  · exact op_catA pins s σ H x y u v Q I rx ry h
  · exact op_cat pins s σ H x y u v Q I rx ry h
theorem op_mulU : OpR X (binaryOp .Mult) (rMulU X.K) := fun pins s σ H x y u v Q I rx ry h => by
  rcases h with h | h | h
  · exact op_mul pins s σ H x y u v Q I rx ry h
  · exact op_rep pins s σ H x y u v Q I rx ry h
  · exact op_repT pins s σ H x y u v Q I rx ry h
theorem op_eqU (hu : X.A.units + 64 < cLine) : OpR X (compareOp .Eq) (rEqU X.K) := fun pins s σ H x y u v Q I rx ry h => by
  rcases h with h | h
  · exact op_eq pins s σ H x y u v Q I rx ry h
  · exact op_eqD hu pins s σ H x y u v Q I rx ry h
theorem op_neU (hu : X.A.units + 64 < cLine) : OpR X (compareOp .NotEq) (rNeU X.K) := fun pins s σ H x y u v Q I rx ry h => by
  rcases h with h | h
  · exact op_ne pins s σ H x y u v Q I rx ry h
  · exact op_neD hu pins s σ H x y u v Q I rx ry h
def rSlU (K : Fg) : V → Option Int → Option Int → Hp → VK → Prop := fun x lo hi H Q => rSlL K x lo hi H Q ∨ rSlA K x lo hi H Q
theorem sl_any : SlR X (rSlU X.K) := fun pins s σ H x v vl vu lo hi sl Q I rx hs pl pu h => by
  rcases h with h | h
  · exact sl_list pins s σ H x v vl vu lo hi sl Q I rx hs pl pu h
  · exact sl_tupA pins s σ H x v vl vu lo hi sl Q I rx hs pl pu h
/-- any of a tuple of whole numbers -/
theorem truth_ints {prog : Program} {w : World} {A : Around} {ns : List Int} {its : List Value} (r : Vals (ns.map V.int) its) :
    TruthOf prog w A (fun i v => its.toArray[i]? = some v) (fun i => (ns.getD i 0) != 0) := fun i v s Q E hv hq => by
  have hv' : its[i]? = some v := by simpa using hv
  cases e : ns[i]? with
  | none =>
    have := r.none_of (i := i) (by rw [List.getElem?_map, e]; rfl)
    rw [this] at hv'; cases hv'
  | some n =>
    obtain ⟨u, hu, ru⟩ := r.get (i := i) (x := .int n) (by rw [List.getElem?_map, e]; rfl)
    rw [hu] at hv'; cases hv'
    obtain ⟨t, rfl⟩ := ru
    have hg : ns.getD i 0 = n := by rw [List.getD_eq_getElem?_getD, e]; rfl
    have hq' : Q ((ns.getD i 0) != 0) s := hq
    rw [hg] at hq'
    exact PySem.P.truthy_int hq'
theorem any_rangeI : ∀ ns : List Int, (List.range ns.length).any (fun i => (ns.getD i 0) != 0) = ns.any (· != 0)
  | [] => rfl
  | b :: bs => by
    rw [List.length_cons, List.range_succ_eq_map, List.any_cons, List.any_map, List.any_cons, ← any_rangeI bs]
    rfl
def rAnyT (K : Fg) : List V → Hp → VK → Prop := fun vs H Q => ∃ (a : Addr) (ns : List Int), vs = [V.ref a] ∧ SqT K H a (ns.map V.int) ∧ Q (.bl (ns.any (· != 0))) H
def rAnyU (K : Fg) : List V → Hp → VK → Prop := fun vs H Q => rAny K vs H Q ∨ rAnyT K vs H Q
theorem call_anyU (hc : X.calm = true := by rfl) : CallR X (.builtin "any") (rAnyU X.K) := by
  intro pins s σ H vs us Q I r h
  rcases h with h | h
  · exact cr_any hc pins s σ H vs us Q I r h
  · obtain ⟨a, ns, rfl, hs, q⟩ := h
    obtain ⟨its, rv, hl, _⟩ := I.tuple hs
    rw [Vals.ref1 r]
    have hlt : a < s.heap.objs.size := by obtain ⟨_, e, _⟩ := id hl; exact Heap.lt_size e
    refine call_any_walk (wpAny_pyIter_tuple (show s.heap.IsTuple a its.toArray from hl) ?_)
    refine ⟨s.heap.objs.size, _, _, _, _, _, _, rfl, Walks.tuple (A := X.A.in1) (I.ok.hd hc) _ a (Nat.ne_of_lt hlt) its.toArray, ⟨⟨_, Heap.get?_push_size _ rfl, rfl, rfl⟩, Heap.IsTuple.at hl fun o e => Heap.get?_push_of_some _ e⟩, truth_ints rv, fun h' tk hk => ?_⟩
    refine ⟨.bl _, H, I.kept fun b o eo => hk b o (fun hmem => ?_) (Heap.get?_push_of_some _ eo), ?_, q⟩
    · have e1 : b = s.heap.objs.size := by simpa using hmem
      exact absurd (e1 ▸ Heap.lt_size eo) (Nat.lt_irrefl _)
    · show Value.bool _ = Value.bool _
      have hlen : its.toArray.size = ns.length := by rw [List.size_toArray, ← rv.length, List.length_map]
      rw [hlen, any_rangeI]
/-! ### repr -/
mutual
theorem Rp.reads {pins : List (Addr × Obj)} {σ : L2.St} {H : Hp} {s : Shared} (I : Inv X pins σ H s) : ∀ {v : V} {d : D}, Rp X.K H v d → d.hasDict = false → ∀ {u : Value}, RelV v u → ∃ as, Reads s.heap u d as
  | _, _, .non, _, u, r => by cases r; exact ⟨_, .none⟩
  | _, _, .bl b, _, u, r => by cases r; exact ⟨_, .bool b⟩
  | _, _, .int i, _, u, r => by obtain ⟨t, rfl⟩ := r; exact ⟨_, .int i t⟩
  | _, _, .str x, _, u, r => by obtain ⟨t, rfl⟩ := r; exact ⟨_, .str x t⟩
  | _, _, .lst h ha, hd, u, r => by
    cases r
    obtain ⟨its, rv, ⟨o, n, ho, hc, _, hdt⟩, _⟩ := I.list (.inl (.inl h))
    obtain ⟨as, hr⟩ := RpA.reads I ha (by simpa [PyData.hasDict] using hd) rv
    exact ⟨_, Reads.list ho hc hdt hr⟩
  | _, _, .tup h ha, hd, u, r => by
    cases r
    obtain ⟨its, rv, ⟨o, ho, hc, n, hdt⟩, _⟩ := I.tuple (.inl (.inl h))
    obtain ⟨as, hr⟩ := RpA.reads I ha (by simpa [PyData.hasDict] using hd) rv
    exact ⟨_, Reads.tuple ho hc hdt hr⟩
  | _, _, .dic _ _, hd, _, _ => by simp [PyData.hasDict] at hd
  | _, _, .scr _, hd, _, _ => by simp [PyData.hasDict] at hd
  | _, _, .dix _ _, hd, _, _ => by simp [PyData.hasDict] at hd
theorem RpA.reads {pins : List (Addr × Obj)} {σ : L2.St} {H : Hp} {s : Shared} (I : Inv X pins σ H s) : ∀ {vs : List V} {ds : List D}, RpA X.K H vs ds → PyData.hasDictAll ds = false → ∀ {us : List Value}, Vals vs us → ∃ as, ReadsAll s.heap us ds as
  | _, _, .nil, _, us, r => by cases r; exact ⟨_, .nil⟩
  | _, _, .cons h t, hd, us, r => by
    have hd' := (by simpa [PyData.hasDictAll] using hd : _ ∧ _)
    cases r with
    | cons r1 r2 =>
      obtain ⟨as, q1⟩ := Rp.reads I h hd'.1 r1
      obtain ⟨bs, q2⟩ := RpA.reads I t hd'.2 r2
      exact ⟨_, .cons q1 q2⟩
end
def ShowD (d : D) : Prop := d.showable = true ∧ d.hasDict = false ∧ d.depth ≤ 60 ∧ d.shown.length ≤ sizeLine
def rRepr (K : Fg) : List V → Hp → VK → Prop := fun xs H Q => ∃ v d, xs = [v] ∧ Rp K H v d ∧ ShowD d ∧ Q (.str d.shown) H
theorem call_reprU (hu : X.A.units + 64 < cLine) (hgd : X.A.guards = some []) : CallR X (.builtin "repr") (rRepr X.K) := by
  intro pins s σ H xs us Q I r h
  obtain ⟨v, d, rfl, rp, ⟨h1, h2, h3, h4⟩, q⟩ := h
  obtain ⟨u, rfl, rv⟩ := vals1 r
  cases rp with
  | non => cases rv; exact PySem.P.repr_of_none ⟨.str _, H, I.tok _, ⟨_, rfl⟩, q⟩
  | bl b => cases rv; exact PySem.P.repr_of_bool ⟨.str _, H, I.tok _, ⟨_, by simp only [PyData.shown]; cases b <;> rfl⟩, q⟩
  | int i =>
    obtain ⟨t, rfl⟩ := rv
    exact PySem.P.repr_of_int (by simpa [PyData.showable] using h1) ⟨.str _, H, I.tok _, ⟨s.toks, by simp only [PyData.shown]⟩, q⟩
  | str x =>
    obtain ⟨t, rfl⟩ := rv
    exact PySem.P.repr_of_str ⟨.str _, H, I.tok _, ⟨s.toks, by simp only [PyData.shown]⟩, q⟩ (by simpa only [PyData.shown] using h4)
  | lst h ha =>
    obtain ⟨as, hr⟩ := Rp.reads I (.lst h ha) h2 rv
    cases rv
    exact repr_of_reads' hr h1 (PyData.noDict_hsm h2) hgd (by omega) (fun _ _ e => e) (fun h' u tk hk => ⟨.str _, H, I.kept (t' := tk) hk, ⟨_, rfl⟩, q⟩) h4
  | tup h ha =>
    obtain ⟨as, hr⟩ := Rp.reads I (.tup h ha) h2 rv
    cases rv
    exact repr_of_reads' hr h1 (PyData.noDict_hsm h2) hgd (by omega) (fun _ _ e => e) (fun h' u tk hk => ⟨.str _, H, I.kept (t' := tk) hk, ⟨_, rfl⟩, q⟩) h4
  | dic h ha => simp [PyData.hasDict] at h2
  | scr h => simp [PyData.hasDict] at h2
  | dix h r => simp [PyData.hasDict] at h2
end
section
variable {K : Fg} {sa : Option Addr} {δ : List Cell} {P : D → Prop} {ta tb te : TE} {d e : D}
theorem cw_repr (h : ShowD d) (p : P (.str d.shown)) : CW K sa (rRepr K) [d] P :=
  cw_at (fun _ => .str _) p fun G H vs Q s r q => by
    obtain ⟨v, e, rv⟩ := r.one
    exact ⟨v, d, e, rv.mono s, h, q⟩
theorem cw_anyI {ns : List Int} (p : P (.bool (ns.any (· != 0)))) : CW K sa (rAnyU K) [.tuple (ns.map PyData.int)] P :=
  cw_at (z := .bl (ns.any (· != 0))) (fun _ => .bl _) p fun G H vs Q s r q => by
    obtain ⟨v, e, rv⟩ := r.one
    obtain ⟨a, xs, e2, h, rx⟩ := rv.tup_inv
    refine .inr ⟨a, ns, by rw [e, e2], ?_, q⟩
    rw [← rx.ints]
    exact sqT_mono s h
theorem ow_addI {i j : Int} (p : P (.int (i + j))) : OW K sa (rAddU K) (.int i) (.int j) P := ow_inl (ow_I0i p)
theorem ow_addT {ds es : List D} (hz : ds.length + es.length ≤ sizeLine) (p : P (.tuple (ds ++ es))) : OW K sa (rAddU K) (.tuple ds) (.tuple es) P := ow_inr (ow_inl (ow_catA hz p))
theorem ow_mulI {i j : Int} (c : CMul i j) (p : P (.int (i * j))) : OW K sa (rMulU K) (.int i) (.int j) P := ow_inl (ow_Ii c p)
theorem ow_eqUI {i j : Int} (p : P (.bool (decide (i = j)))) : OW K sa (rEqU K) (.int i) (.int j) P := ow_inl (ow_eqI p)
theorem ow_neUI {i j : Int} (p : P (.bool (!decide (i = j)))) : OW K sa (rNeU K) (.int i) (.int j) P := ow_inl (ow_neI p)
theorem ow_eqUS {i j : Str} (p : P (.bool (decide (i = j)))) : OW K sa (rEqU K) (.str i) (.str j) P := ow_inl (ow_eqS p)
theorem ow_neUS {i j : Str} (p : P (.bool (!decide (i = j)))) : OW K sa (rNeU K) (.str i) (.str j) P := ow_inl (ow_neS p)
theorem ow_eqUD (h1 : SeqAt.shaped d = true) (h2 : SeqAt.shaped e = true) (p : P (.bool (PyData.eqv d e))) : OW K sa (rEqU K) d e P := ow_inr (ow_eqD h1 h2 p)
theorem ow_neUD (h1 : SeqAt.shaped d = true) (h2 : SeqAt.shaped e = true) (p : P (.bool (!PyData.eqv d e))) : OW K sa (rNeU K) d e P := ow_inr (ow_neD h1 h2 p)
theorem wf_opR {r r' : R2} {P : List D → Prop} (h : WF K sa (tOp r' ta tb) δ P) (k : ∀ x y H Q, r' x y H Q → r x y H Q) (m1 : ∀ x y H (Q Q' : VK), (∀ v H', Q v H' → Q' v H') → r' x y H Q → r' x y H Q') (ha : ∀ σ H (Q Q' : VK), (∀ v H', Q v H' → Q' v H') → ta σ H Q → ta σ H Q') (hb : ∀ σ H (Q Q' : VK), (∀ v H', Q v H' → Q' v H') → tb σ H Q → tb σ H Q') : WF K sa (tOp r ta tb) δ P := fun m H0 G0 E up σ H A Q q =>
  ha σ H _ _ (fun v H' h => hb σ H' _ _ (fun w H'' h' => k _ _ _ _ h') h) (h m H0 G0 E up σ H A Q q)
theorem wf_catU {P : List D → Prop} (h : WE K sa ta δ fun d => ∃ ds, d = .list ds ∧ WE K sa tb δ fun e => ∃ es, e = .list es ∧ ds.length + es.length ≤ sizeLine ∧ P (ds ++ es)) : WF K sa (tOp (rAddU K) ta tb) δ P := fun m H0 G0 E up σ H A Q q =>
  h m H0 G0 E up σ H A _ fun v d H1 ⟨ds, e1, h1⟩ A1 => h1 m H0 G0 _ (up_and up up_rp) σ H1 A1 _ fun w e H2 ⟨es, e2, hz, hp⟩ ⟨G, a⟩ => by
    subst e1 e2
    obtain ⟨b, xs, e1, hs, rx⟩ := a.ex.1.2.lst_inv
    obtain ⟨c, ys, e2, hs2, ry⟩ := a.ex.2.lst_inv
    exact .inr (.inr ⟨b, c, xs, ys, e1, e2, a.gd.gh _ _ hs, a.gd.gh _ _ hs2, by rw [rx.length, ry.length]; exact hz, fun x hx => wf_new up ⟨G, a.same ⟨a.ex.1.1, rx.append ry⟩⟩ hp q hx⟩)
theorem wf_repU {P : List D → Prop} (h : WE K sa ta δ fun d => ∃ ds, d = .list ds ∧ WE K sa tb δ fun e => ∃ k, e = .int k ∧ (-(2 ^ 63) ≤ k ∧ k < 2 ^ 63) ∧ ds.length * k.toNat ≤ sizeLine ∧ P (List.replicate k.toNat ds).flatten) : WF K sa (tOp (rMulU K) ta tb) δ P := fun m H0 G0 E up σ H A Q q =>
  h m H0 G0 E up σ H A _ fun v d H1 ⟨ds, e1, h1⟩ A1 => h1 m H0 G0 _ (up_and up up_rp) σ H1 A1 _ fun w e H2 ⟨k, e2, hk, hz, hp⟩ ⟨G, a⟩ => by
    subst e1 e2
    obtain ⟨b, xs, e1, hs, rx⟩ := a.ex.1.2.lst_inv
    exact .inr (.inl ⟨b, k, xs, e1, a.ex.2.int_inv, a.gd.gh _ _ hs, hk.1, hk.2, by rw [rx.length]; exact hz, fun x hx => wf_new up ⟨G, a.same ⟨a.ex.1.1, rpA_flat rx k.toNat⟩⟩ hp q hx⟩)
theorem we_slTU {tl th : TO} (h : WE K sa te δ fun d => ∃ ds, d = .tuple ds ∧ WO K sa tl δ fun l => WO K sa th δ fun u => P (.tuple (cutD ds l u))) : WE K sa (tSl (rSlU K) te tl th) δ P := fun m H0 G0 E up σ H A Q q =>
  h m H0 G0 E up σ H A _ fun v d H1 ⟨ds, e, h1⟩ A1 => h1 m H0 G0 _ (up_and up up_rp) σ H1 A1 _ fun l H2 h2 A2 => h2 m H0 G0 _ (up_and up up_rp) σ H2 A2 _ fun u H3 p ⟨G, a⟩ => by
    subst e
    obtain ⟨b, xs, e1, hs, rx⟩ := a.ex.2.tup_inv
    refine .inr ⟨b, xs, e1, sqT_mono a.gd.gh hs, fun hw => ?_, fun hw x hx => ?_⟩
    · rw [rx.length] at hw
      have p : P (.tuple (cutD ds l u)) := p
      rw [cutD_whole hw] at p
      rw [← e1]
      exact q _ _ _ p ⟨G, a.same a.ex⟩
    · exact at_newTup up ⟨G, a.same ⟨a.ex.1, rpA_cut rx l u⟩⟩ p q hx
theorem wf_slLU {tl th : TO} {P : List D → Prop} (h : WE K sa te δ fun d => ∃ ds, d = .list ds ∧ WO K sa tl δ fun l => WO K sa th δ fun u => P (cutD ds l u)) : WF K sa (tSl (rSlU K) te tl th) δ P := fun m H0 G0 E up σ H A Q q =>
  h m H0 G0 E up σ H A _ fun v d H1 ⟨ds, e, h1⟩ A1 => h1 m H0 G0 _ (up_and up up_rp) σ H1 A1 _ fun l H2 h2 A2 => h2 m H0 G0 _ (up_and up up_rp) σ H2 A2 _ fun u H3 p ⟨G, a⟩ => by
    subst e
    obtain ⟨b, xs, e1, hs, rx⟩ := a.ex.2.lst_inv
    exact .inl ⟨b, xs, e1, .inl (.inl (a.gd.gh _ _ hs)), fun x hx => wf_new up ⟨G, a.same ⟨a.ex.1, rpA_cut rx l u⟩⟩ p q hx⟩
theorem wf_slScrU {tl th : TO} {ns : List Int} {P : List D → Prop} (h : WE K sa te δ fun d => d = scrD ns ∧ WO K sa tl δ fun l => WO K sa th δ fun u => P (((ns.map PyData.int).drop (HT.sIx ns.length 0 l)).take (HT.sIx ns.length ns.length u - HT.sIx ns.length 0 l))) : WF K sa (tSl (rSlU K) te tl th) δ P := fun m H0 G0 E up σ H A Q q =>
  h m H0 G0 E up σ H A _ fun v d H1 ⟨e, h1⟩ A1 => h1 m H0 G0 _ (up_and up up_rp) σ H1 A1 _ fun l H2 h2 A2 => h2 m H0 G0 _ (up_and up up_rp) σ H2 A2 _ fun u H3 p ⟨G, a⟩ => by
    subst e
    obtain ⟨b, e1, hs⟩ := a.ex.2.scr_inv
    refine .inl ⟨b, _, e1, sqL_mono a.gd.gh hs, fun x hx => wf_new up ⟨G, a.same ⟨a.ex.1, ?_⟩⟩ p q hx⟩
    unfold cutV
    rw [List.length_map]
    exact ((RpA.of_ints ns).drop _).take _
/-! ### the spring -/
theorem we_spr {a : Addr} {i : Nat} {j : Int} (hi : δ[i]? = some .spr) (hj : j = 0 ∨ j = 1 ∨ j = 2) (p : ∀ z : Int, P (.int z)) : WE K (some a) (tOp (rIx K) (tVar i) (tC (.int j))) δ P := fun m H0 G0 E up σ H ⟨G, A⟩ Q q => by
  obtain ⟨o, e, b, eb, eo⟩ := A.slot hi
  cases eb
  subst eo
  obtain ⟨c, s, n, hl⟩ := (A.gd.sp a rfl).1
  have fin : ∀ z : Int, atI [V.int c, .int s, .int n] j = some (.int z) → tOp (rIx K) (tVar i) (tC (.int j)) σ H Q := fun z hz =>
    ⟨_, e, .inl ⟨a, _, j, .int z, rfl, rfl, .inl (.inl hl), hz, q _ _ H (p z) ⟨G, A.same ⟨A.ex, .int z⟩⟩⟩⟩
  rcases hj with e | e | e
  · subst e; exact fin c rfl
  · subst e; exact fin s rfl
  · subst e; exact fin n rfl
theorem ws_spr {nx : List Cell → Prop} {rt : D → Prop} {bk ct : List Cell → Prop} {a : Addr} {i : Nat} {j : Int} (hi : δ[i]? = some .spr) (hj : j = 0 ∨ j = 1 ∨ j = 2) (h : WE K (some a) te δ fun d => ∃ z, d = .int z ∧ nx δ) : WS K (some a) (tAsg te (gSub (tVar i) (tC (.int j)) rSetL)) ⟨nx, rt, bk, ct⟩ δ := fun H0 G0 E up σ H Dn A R =>
  h true H0 G0 E up σ H A _ fun v d H1 ⟨z, e, p⟩ ⟨G, a1⟩ => by
    subst e
    obtain ⟨o, e, b, eb, eo⟩ := a1.slot hi
    cases eb
    subst eo
    obtain ⟨⟨c, s, n, hl⟩, ha, hg⟩ := a1.gd.sp a rfl
    have gn : G a = none := a1.gd.notIn rfl
    have ev := a1.ex.2.int_inv
    subst ev
    have mv : ∀ {u : HO} {i' : Nat} {c' : Cell} {o : Option V}, δ[i']? = some c' → σ[i']? = some o → CellOk K true (some a) H0 G (upd H1 a u) o c' ∧ ∀ b, foot (upd H1 a u) o c' b → foot H1 o c' b := fun {u i' c' o} h1 h2 =>
      cell_move (a1.cell i' c' o h1 h2) (Same.refl _) fun b f => by
        obtain ⟨_, l2, l3, _⟩ := foot_live (a1.cell i' c' o h1 h2) f
        exact ⟨upd_ne fun z => l3 (by rw [z]), l2⟩
    have fin : ∀ (k : Nat) (x y w : Int), ixN 3 j = some k → ([V.int c, .int s, .int n].set k (.int z)) = [.int x, .int y, .int w] → gSub (tVar i) (tC (.int j)) rSetL (.int z) σ H1 Dn.nx := fun k x y w hk hs => by
      refine ⟨_, e, a, _, j, k, rfl, rfl, hl, hk, R.nx _ _ _ p ⟨G, ⟨⟨a1.gd.g0, fun b o q => ?_, a1.gd.fr, fun b o ne q => ?_, fun b eb => ?_⟩, a1.len, fun i' c' o h1 h2 => (mv h1 h2).1, fun i j c c' o o' hij h1 h2 h3 h4 b f1 f2 => a1.dis i j c c' o o' hij h1 h2 h3 h4 b ((mv h1 h3).2 b f1) ((mv h2 h4).2 b f2), a1.ex.1⟩⟩⟩
      · rw [upd_ne (fun z => by subst z; rw [gn] at q; cases q)]; exact a1.gd.gh b o q
      · rw [upd_ne (fun z => ne (by rw [z]))]; exact a1.gd.hh b o ne q
      · cases eb
        exact ⟨⟨x, y, w, by rw [upd_same, hs]⟩, ha, hg⟩
    rcases hj with e' | e' | e'
    · subst e'; exact fin 0 z s n rfl rfl
    · subst e'; exact fin 1 c z n rfl rfl
    · subst e'; exact fin 2 c s z rfl rfl
/-- x, y = a, [..]: the second a list of one's own -/
theorem ws_parF {nx : List Cell → Prop} {rt : D → Prop} {bk ct : List Cell → Prop} {i j : Nat} (h : WE K sa ta δ fun d => WF K sa tb δ fun es => nx ((δ.set i (.dat d)).set j (.own es))) (hij : i ≠ j) (hni : ∀ es, δ[i]? ≠ some (.own es)) : WS K sa (tPar i j (tCons ta (tCons tb tNil))) ⟨nx, rt, bk, ct⟩ δ := fun H0 G0 E up σ H Dn A R =>
  h true H0 G0 E up σ H A _ fun v d H1 h1 A1 => h1 true H0 G0 _ (up_and up up_rp) σ H1 A1 _ fun p vs es H2 pp ⟨G, a⟩ hp h0 hs hj => by
    refine ⟨v, .ref p, rfl, R.nx _ _ _ pp ⟨G, AtG.setOwn (E := E) (p := p) (vs := vs) ((a.same (E' := fun G => (E G ∧ G p = none ∧ RpA K G vs es) ∧ Rp K G v d) ⟨⟨a.ex.1.1, a.ex.2⟩, a.ex.1.2⟩).set i) j hp h0 hs fun k c o hk ho f => ?_⟩⟩
    rcases set_at hk with ⟨_, e, _⟩ | ⟨n, k1⟩
    · subst e; exact f
    · rcases set_at ho with ⟨e, _, _⟩ | ⟨_, k2⟩
      · exact n e
      · exact hj k c o k1 k2 f
/-- one's own list, looked at, measured, handed on where no list comes back -/
theorem we_melted {i : Nat} {ds : List D} (hi : δ[i]? = some (.own ds)) (h : WE K sa te (δ.set i (.dat (.list ds))) fun d => ((∃ n, d = .int n) ∨ (∃ b, d = .bool b) ∨ d = .none ∨ ∃ s, d = .str s) ∧ P d) : WE K sa te δ P := fun m H0 G0 E up σ H ⟨G, A⟩ Q q => by
  have B := A.base
  obtain ⟨o, e1, p, vs, e2, hp, gp, ne, r, h0⟩ := A.slot hi
  subst e2
  have hil : i < δ.length := (List.getElem?_eq_some_iff.mp hi).1
  have s1 : Same G (upd G p (.lst vs)) := fun b o e => by rw [upd_ne (ne_of_none e gp)]; exact e
  have rp : Rp K (upd G p (.lst vs)) (.ref p) (.list ds) := .lst upd_same (r.mono s1)
  have hl : Lone H (δ.set i .no) σ p := fun j c o h1 h2 f => by
    rcases set_at h1 with ⟨e, e3, _⟩ | ⟨e, k1⟩
    · subst e3; exact f.elim
    · exact A.dis i j (.own ds) c _ o e hi k1 e1 h2 p rfl f
  have B1 : AtG K false sa H G (δ.set i .no) E σ G H := B.recell i fun c o _ _ => ⟨trivial, fun b f => f.elim⟩
  have mvn : ∀ {j : Nat} {c : Cell} {o : Option V}, (δ.set i .no)[j]? = some c → σ[j]? = some o → CellOk K false sa H (upd G p (.lst vs)) H o c := fun {j c o} h1 h2 =>
    (cell_move (B1.cell j c o h1 h2) s1 fun b f => ⟨rfl, by rw [upd_ne (fun z => hl j c o h1 h2 (by rw [← z]; exact f))]; exact (foot_live (B1.cell j c o h1 h2) f).2.1⟩).1
  have B2 : AtG K false sa H (upd G p (.lst vs)) (δ.set i .no) (fun _ => True) σ (upd G p (.lst vs)) H := by
    refine ⟨⟨Same.refl _, fun b o q => ?_, fun _ _ h => h, .refl _ _, fun a ea => ⟨(A.gd.sp a ea).1, ?_, ?_⟩⟩, B1.len, fun j c o h1 h2 => mvn h1 h2, B1.dis, trivial⟩
    · by_cases hb : b = p
      · subst hb; rw [upd_same] at q; cases q; exact hp
      · rw [upd_ne hb] at q; exact A.gd.gh b o q
    · obtain ⟨c, s, n, q⟩ := (A.gd.sp a ea).1
      rw [q]; simp
    · rw [upd_ne (fun z => ne (by rw [ea, z]))]; exact A.gd.notIn ea
  have B' : AtG K false sa H (upd G p (.lst vs)) (δ.set i (.dat (.list ds))) (fun _ => True) σ (upd G p (.lst vs)) H := by
    have := B2.recell i (c0 := .dat (.list ds)) fun c o _ h2 => by
      rw [e1] at h2; cases h2
      exact ⟨⟨_, rfl, rp⟩, fun b f => f.elim⟩
    rwa [List.set_set] at this
  refine h false H (upd G p (.lst vs)) (fun _ => True) up_true σ H ⟨_, B'⟩ Q fun v d H' ⟨sc, pd⟩ ⟨G', b⟩ => q v d H' pd ⟨G, ?_⟩
  have rs : Rp K G v d := by
    rcases sc with ⟨n, e⟩ | ⟨n, e⟩ | e | ⟨n, e⟩
    · subst e; rw [b.ex.2.int_inv]; exact .int n
    · subst e; rw [b.ex.2.bl_inv]; exact .bl n
    · subst e; rw [b.ex.2.non_inv]; exact .non
    · subst e; rw [b.ex.2.str_inv]; exact .str n
  have gh : Same G H' := fun b' o' e' => b.gd.gh _ _ (b.gd.g0 _ _ (s1 _ _ e'))
  exact A.grow (Same.refl _) gh (fun _ _ h => h) b.gd.hh (fun z ez => (b.gd.sp z ez).1) ⟨A.ex, rs⟩
end
end Dl

namespace Dl
open PySem PySem.Spec PyProof.Rows L2 DlP
/-! ### the law's own call -/
theorem law_callG {P : Program} {w : World} {K : Fg} {mg mb : Str → Option Value} {k : Nat} {fa a : Addr} {fd : FuncData} {x : Str} {sp : Sp} {s₁ : Shared} {vs : List Value} {ns : List Int}
    (KX : K.In s₁.heap) (hns : s₁.heap.Ns mainGlobals mg) (hb : s₁.heap.Ns builtinsNs mb) (hbb : ∀ x : Str, x ≠ "__name__" → mb x = bootBuiltins x) (hlim : s₁.heap.NoLimit) (hg : s₁.gens = #[])
    (ha : s₁.heap.get? a = some { cls := .type "list", data := .seq vs.toArray }) (hi : IntsAre vs ns) (hl : ns.length ≤ sizeLine) (hr : Room k callerA)
    (F : ∀ base : Heap, K.In base → base.Ns mainGlobals mg → FnG P w K mg base CX0 k fa fd [x] sp) (hbind : ∀ (s : Shared) (u : Value), BindsTo s fd ⟨[u], []⟩ [(x, u)])
    (hsp : ∀ H : Hp, Only H → SqL K H a (ns.map V.int) → sp [.ref a] H (fun v _ => v = .bl true) fun _ _ _ => False) :
    codeAny (model P w) callerA (.call (.ref fa) ⟨[.ref a], []⟩) (fun r s' => r = .ok (.ret (.bool true)) ∧ OldK s₁.heap s'.heap ∧ s'.os = s₁.os ∧ AllBare s'.gens) s₁ := by
  have rv := vals_ints hi
  have lenV := hi.length
  have core : ∀ H : Hp, Only H → SqL K H a (ns.map V.int) → HOk P w H s₁.heap → (∀ b, H b ≠ none → b = a) → (H a ≠ none → K.lookup a = none) →
      codeAny (model P w) callerA (.call (.ref fa) ⟨[.ref a], []⟩) (fun r s' => r = .ok (.ret (.bool true)) ∧ OldK s₁.heap s'.heap ∧ s'.os = s₁.os ∧ AllBare s'.gens) s₁ := by
    intro H hO hS hok hA hK
    have noA : ∀ {b : Addr} {o : Obj} {es : Array DictEntry} {ep : Nat}, s₁.heap.get? b = some o → o.data = .dict es ep → H b = none := fun {b o es ep} e d => by
      cases q : H b with
      | none => rfl
      | some u =>
        have e' : b = a := hA b (by rw [q]; simp)
        subst e'
        rw [ha] at e; cases e
        have d' : Data.seq vs.toArray _ = Data.dict es ep := d
        cases d'
    have nsK : ∀ {b : Addr} {m : Str → Option Value}, s₁.heap.Ns b m → (hidT s₁.heap H).Ns b m := fun {b m} ⟨o, es, ep, e, d, r⟩ => ⟨o, es, ep, hidT_get e (noA e d), d, r⟩
    have hKb : K.In (hidT s₁.heap H) := fun b o e => hidT_get (KX b o e) (by
      cases q : H b with
      | none => rfl
      | some u =>
        have e' : b = a := hA b (by rw [q]; simp)
        subst e'
        rw [hK (by rw [q]; simp)] at e; cases e)
    have hM : Mod K mg (hidT s₁.heap H) := ⟨hKb, nsK hns, ⟨mb, nsK hb, hbb⟩, let ⟨mc, h1, h2⟩ := hlim; ⟨mc, nsK h1, h2⟩⟩
    have e0 : Env0 P w K mg (hidT s₁.heap H) callerA [] s₁ H := ⟨rfl, hM, fun b o e => of_hidT e, Nat.le_of_eq (hidT_size _ _), trivial, fun b hb => absurd (show b ∈ ([] : List Addr) from hb) (by simp), hok, .of_eq hg⟩
    refine codeAny_mono ((F _ hKb (nsK hns)).run callerA [] s₁ H ⟨[.ref a], []⟩ [.ref a] [.ref a] _ _ hr rfl e0 (hbind s₁ (.ref a)) (.cons rfl .nil) (hsp H hO hS)) fun r s' h => ?_
    cases r with
    | error e => exact False.elim h
    | ok fl =>
      cases fl with
      | next => exact False.elim h
      | brk => exact False.elim h
      | cont => exact False.elim h
      | ret u =>
        obtain ⟨v, H', os, bare, un, hok', r', q⟩ := h
        have q' : v = .bl true := q
        subst q'
        obtain rfl : u = Value.bool true := r'
        refine ⟨rfl, OldK.of_keep fun b o e => ?_, os, bare⟩
        cases q : H b with
        | none => exact un.keep b o e q (by intro z; exact absurd (show b ∈ ([] : List Addr) from z) (by simp)) (by simp)
        | some u =>
          rcases hO b with z | ⟨ob, xs, z⟩
          · rw [q] at z; cases z
          · have z2 := un.frzs b ob _ z
            obtain ⟨e1, _⟩ := hok b _ z
            obtain ⟨e2, _⟩ := hok' b _ z2
            rw [e] at e1; cases e1
            exact e2
  cases hk : K.lookup a with
  | some o =>
    have e := KX a o hk
    rw [ha] at e
    cases e
    refine core (fun _ => none) (fun _ => .inl rfl) (.inr ⟨_, vs.toArray, _, hk, rfl, rfl, rfl, by rw [List.size_toArray, lenV]; exact hl, by simpa using rv⟩) (fun b u z => by have z' : (none : Option HO) = some u := z; cases z') (fun b z => absurd rfl z) fun z => absurd rfl z
  | none =>
    refine core (fun b => if b = a then some (.frz { cls := .type "list", data := .seq vs.toArray } (.lst (ns.map V.int))) else none) (fun b => ?_) (.inl (.inr ⟨{ cls := .type "list", data := .seq vs.toArray }, if_pos rfl⟩)) (fun b u z => ?_) (fun b z => ?_) fun _ => hk
    · by_cases hb : b = a
      · exact .inr ⟨_, _, if_pos hb⟩
      · exact .inl (if_neg hb)
    · by_cases hb : b = a
      · have z' := (if_pos hb).symm.trans z
        cases z'
        subst hb
        exact ⟨ha, by rw [List.length_map]; exact hl, vs, _, rv, ha⟩
      · have z' := (if_neg hb).symm.trans z
        cases z'
    · by_cases hb : b = a
      · exact hb
      · exact absurd (if_neg hb) z
def preLaw (ds : List D) : Prop := ∃ ns : List Int, ds = [scrD ns] ∧ ns.length ≤ 63
def postLaw (_ : List D) (d : D) : Prop := d = .bool true
theorem walkG {l : PySem.W.OpenLaw} {k : Nat} {q : Program} {loose : List Str} {XP : (Str → Option Value) → Heap → Prop} {YP : World → Heap → Prop} {d : DefRec} {K : Params → PySem.W.Frag} {x : Str}
    (hn : l.most = some 63) (hdf : d.params.defaults = []) (hr : Room k callerA)
    (hY : ∀ (w : World) (h : Heap), YP w h → (K w.params).In h)
    (F : ∀ (w : World) (mg : Str → Option Value) (fa : Addr) (h : Heap), (K w.params).In h → h.Ns mainGlobals mg → mg d.name = some (.ref fa) →
      ∃ fd : FuncData, (∀ (s : Shared) (u : Value), BindsTo s fd ⟨[u], []⟩ [(x, u)]) ∧
        ∀ base : Heap, (K w.params).In base → base.Ns mainGlobals mg → FnG l.prog w (K w.params) mg base CX0 k fa fd [x] (spF (K w.params) preLaw postLaw)) :
    PySem.W.WalkO q loose XP YP l.row.toRowW d [] (fun f vs => PySem.call f vs) := by
  refine Att.attach_call hn hdf fun w s₀ s₁ mg mb fa o pm cd doc a vs ns G Y ho hd hcd hmg hobj hints hlen hg => ?_
  have KX := hY w _ Y
  obtain ⟨fd, hb, hF⟩ := F w mg fa _ KX G.T.g hmg
  refine law_callG KX G.T.g G.T.b G.T.builtins G.T.nolimit hg hobj hints (Nat.le_trans hlen (by rw [sizeLine_eq]; decide)) hr hF hb fun H hO hS => ?_
  have hT : SqL (K w.params) (thin H) a (ns.map V.int) := by
    rcases hS with (h | ⟨o, h⟩) | h
    · rcases hO a with z | ⟨o, xs, z⟩
      · rw [h] at z; cases z
      · rw [h] at z; cases z
    · exact .inl (.inr ⟨o, thin_of h fun xs z => nomatch z⟩)
    · exact .inr h
  exact ⟨H, [scrD ns], Same.refl _, .cons (.scr hT) .nil, ⟨ns, rfl, hlen⟩, fun H' G' v d _ _ _ _ r p => by
    have p : d = .bool true := p
    subst p
    exact r.bl_inv⟩
/-! ### the spring comes -/
/-- no lists in it but the script -/
def flatD : D → Prop
  | .list _ => False
  | .tuple _ => False
  | .dict [(.list _, .none)] => True
  | .dict _ => False
  | _ => True
theorem flat_dict : ∀ {ds : List (D × D)}, flatD (.dict ds) → ∃ xs, ds = [(.list xs, .none)]
  | [], f => f.elim
  | [(.list xs, .none)], _ => ⟨xs, rfl⟩
  | (a, b) :: _ :: _, f => by cases a <;> cases b <;> exact f.elim
  | [(.none, _)], f => f.elim
  | [(.bool _, _)], f => f.elim
  | [(.int _, _)], f => f.elim
  | [(.str _, _)], f => f.elim
  | [(.tuple _, _)], f => f.elim
  | [(.dict _, _)], f => f.elim
  | [(.list _, .bool _)], f => f.elim
  | [(.list _, .int _)], f => f.elim
  | [(.list _, .str _)], f => f.elim
  | [(.list _, .list _)], f => f.elim
  | [(.list _, .tuple _)], f => f.elim
  | [(.list _, .dict _)], f => f.elim
theorem Rp.thin {K : Fg} {G : Hp} {v : V} {d : D} (r : Rp K G v d) (f : flatD d) : Rp K (Dl.thin G) v d := by
  cases r with
  | non => exact .non
  | bl b => exact .bl b
  | int i => exact .int i
  | str x => exact .str x
  | lst h r => exact f.elim
  | tup h r => exact f.elim
  | dic h r =>
    obtain ⟨xs, e⟩ := flat_dict f
    subst e
    exact absurd rfl (r.no_list _ (List.mem_singleton.mpr rfl) _)
  | scr h => exact .scr (sqL_mono (thin_thin G) h)
  | dix h r =>
    obtain ⟨xs, e⟩ := flat_dict f
    injection e with e _
    injection e with _ e
    cases e
theorem RpA.thin {K : Fg} {G : Hp} : ∀ {vs : List V} {ds : List D}, RpA K G vs ds → (∀ d ∈ ds, flatD d) → RpA K (Dl.thin G) vs ds
  | _, _, .nil, _ => .nil
  | _, _, .cons r t, h => .cons (r.thin (h _ (by simp))) (RpA.thin t fun d hd => h d (by simp [hd]))
section
variable {K : Fg} {δ : List Cell} {ta : TA} {pre : List D → Prop} {nx : List Cell → Prop} {rt : D → Prop} {bk ct : List Cell → Prop} {u : TS}
def quiet : Cell → Prop
  | .own _ => False
  | .res _ => False
  | _ => True
def noOwn (δ : List Cell) : Prop := ∀ (i : Nat) (c : Cell), δ[i]? = some c → quiet c
theorem quiet_foot {c : Cell} (h : quiet c) {H : Hp} {o : Option V} {b : Addr} (f : foot H o c b) : False := by cases c <;> first | exact f.elim | exact h.elim
/-- what stands in a frame without the spring's slot -/
def dry (δ : List Cell) : List Cell := δ.map fun c => match c with | .spr => .no | c => c
theorem ws_spring {i : Nat} {E0 : XK} {post : List D → D → Prop} (hno : noOwn δ) (h : WA K none ta δ fun ds => pre ds ∧ (∀ d ∈ ds, flatD d) ∧ (∀ d, post ds d → ∃ c s n, d = .list [.int c, .int s, .int n]) ∧
      ∀ a, WS K (some a) u ⟨fun δ' => nx (dry δ'), rt, fun δ' => bk (dry δ'), fun δ' => ct (dry δ')⟩ (δ.set i .spr)) :
    WS K none (tSeq (tAsg (tCall (spF K pre post) [] E0 ta) (gName i)) u) ⟨nx, rt, bk, ct⟩ δ := fun H0 G0 E up σ H Dn A R => by
  refine h true H0 G0 E up σ H A _ fun vs ds H1 ⟨p, hfl, hpo, k⟩ ⟨G, a⟩ => ?_
  show spF K pre post (vs ++ []) H1 _ E0
  rw [List.append_nil]
  refine ⟨thin G, ds, (thin_same G).trans a.gd.gh, a.ex.2.thin hfl, p, fun H' G' v d s1 s2 s3 fr r hp => ?_⟩
  obtain ⟨c, z, n, ed⟩ := hpo d hp
  subst ed
  obtain ⟨b, xs, ev, hG', rx⟩ := r.lst_inv
  subst ev
  have exs : xs = [.int c, .int z, .int n] := rx.ints (ns := [c, z, n])
  subst exs
  have sp : SprV H' b := ⟨c, z, n, s3 _ _ hG'⟩
  have hb : H1 b = none := by
    cases q : H1 b with
    | none => rfl
    | some o =>
      exfalso
      cases q2 : thin G b with
      | none => rw [fr b (by rw [q]; simp) q2] at hG'; cases hG'
      | some u =>
        have q3 := s2 _ _ q2
        rw [hG'] at q3
        cases q3
        exact thin_no q2
  have gb : G b = none := by
    cases z : G b with
    | none => rfl
    | some o => rw [a.gd.gh b o z] at hb; cases hb
  have h0b : H0 b = none := by
    cases z : H0 b with
    | none => rfl
    | some o => exact absurd hb (a.gd.live (by rw [z]; simp))
  have B : AtG K true (some b) H' G (δ.set i .spr) E (σ.set i (some (.ref b))) G H' := by
    refine ⟨⟨Same.refl _, a.gd.gh.trans s1, fun _ _ h => h, .refl _ _, fun c ec => ?_⟩, by rw [List.length_set, List.length_set]; exact a.len, fun j c o h1 h2 => ?_, fun j k c c' o o' hjk h1 h2 h3 h4 x f1 f2 => ?_, a.ex.1⟩
    · cases ec
      refine ⟨sp, ?_, gb⟩
      obtain ⟨c, s, n, e⟩ := sp
      rw [e]; simp
    · by_cases e : i = j
      · subst e
        have hi : i < δ.length := by
          have := (List.getElem?_eq_some_iff.mp h1).1
          rwa [List.length_set] at this
        rw [List.getElem?_set_self hi] at h1
        rw [List.getElem?_set_self (by rw [a.len]; exact hi)] at h2
        cases h1; cases h2
        exact ⟨b, rfl, rfl⟩
      · rw [List.getElem?_set_ne e] at h1 h2
        have q := a.cell j c o h1 h2
        cases c with
        | no => trivial
        | dat d => exact q
        | own es => exact (hno j _ h1).elim
        | res R => exact (hno j _ h1).elim
        | spr => obtain ⟨z, ez, _⟩ := q; cases ez
    · rcases set_at h1 with ⟨_, e, _⟩ | ⟨_, k1⟩
      · subst e; exact f1
      · exact quiet_foot (hno j c k1) f1
  have back : ∀ {δ' : List Cell} {F : Hp → Prop} {σ' : L2.St} {H'' : Hp}, At K true (some b) H' G δ' F σ' H'' → At K true none H0 G0 (dry δ') F σ' H'' := fun {δ' F σ' H''} ⟨G'', c⟩ => by
    have hs : ExB none H0 H'' := fun z o _ e => by
      have nz : (some b : Option Addr) ≠ some z := fun e' => by cases e'; rw [h0b] at e; cases e
      exact c.gd.hh z o nz (s1 z o (a.gd.hh z o (fun e' => nomatch e') e))
    have live' : ∀ z, H0 z ≠ none → H' z ≠ none := fun z hz => by
      have := a.gd.live hz
      cases q : H1 z with
      | none => exact absurd q this
      | some o => rw [s1 z o q]; simp
    refine ⟨G'', ⟨a.gd.g0.trans c.gd.g0, c.gd.gh, fun z h1 h2 => c.gd.fr z (live' z h1) (a.gd.fr z h1 h2), hs, fun _ e => nomatch e⟩, by unfold dry; rw [List.length_map]; exact c.len, fun j c' o h1 h2 => ?_, fun j k c1 c2 o1 o2 hjk h1 h2 h3 h4 x f1 f2 => ?_, c.ex⟩
    · unfold dry at h1
      rw [List.getElem?_map] at h1
      obtain ⟨c0, hc, e⟩ := Option.map_eq_some_iff.mp h1
      have q := c.cell j c0 o hc h2
      cases c0 with
      | no => cases e; trivial
      | dat d => cases e; exact q
      | own es =>
        cases e
        obtain ⟨p', vs, e1, hp, gp, ne, r, hm⟩ := q
        refine ⟨p', vs, e1, hp, gp, fun z => (nomatch z), r, fun _ => ?_⟩
        cases z : H0 p' with
        | none => rfl
        | some o' => exact absurd (hm rfl) (live' p' (by rw [z]; simp))
      | res Rr =>
        cases e
        obtain ⟨v, e1, k1, l1⟩ := q
        refine ⟨v, e1, k1, fun x f => ⟨(l1 x f).1, fun z => (nomatch z), fun _ => ?_⟩⟩
        cases z : H0 x with
        | none => rfl
        | some o' => exact absurd ((l1 x f).2.2 rfl) (live' x (by rw [z]; simp))
      | spr => cases e; trivial
    · have key : ∀ {j : Nat} {c1 : Cell} {o1 : Option V}, (dry δ')[j]? = some c1 → foot H'' o1 c1 x → ∃ c0, δ'[j]? = some c0 ∧ foot H'' o1 c0 x := fun {j c1 o1} h f => by
        unfold dry at h
        rw [List.getElem?_map] at h
        obtain ⟨c0, hc, e⟩ := Option.map_eq_some_iff.mp h
        refine ⟨c0, hc, ?_⟩
        cases c0 with
        | own es' => cases e; exact f
        | res Rr => cases e; exact f
        | no => cases e; exact f
        | dat d => cases e; exact f
        | spr => cases e; exact f.elim
      obtain ⟨d1, k1, g1⟩ := key h1 f1
      obtain ⟨d2, k2, g2⟩ := key h2 f2
      exact c.dis j k d1 d2 o1 o2 hjk k1 k2 h3 h4 x g1 g2
  show u Dn (σ.set i (some (.ref b))) H'
  refine k b H' G E up _ H' Dn ⟨G, B⟩ ⟨fun δ' σ' H'' p' A' => R.nx _ _ _ p' (back A'), fun δ' σ' H'' p' A' => R.bk _ _ _ p' (back A'), fun δ' σ' H'' p' A' => R.ct _ _ _ p' (back A'), fun δ' v d σ' H'' p' A' => R.rt _ v d _ _ p' (back A')⟩
end
end Dl

namespace Dl
open PySem PySem.Spec PyProof.Rows L2 DlP
theorem cmul_left {i j : Int} (h : -(2 ^ 64) < i ∧ i < 2 ^ 64) : CMul i j := .inl h
theorem cmul_right {i j : Int} (h : -(2 ^ 64) < j ∧ j < 2 ^ 64) : CMul i j := .inr h
theorem and_cases {b : Bool} {A B : Prop} (h1 : b = true → A) (h2 : b = false → B) : (b = true → A) ∧ (b = false → B) := ⟨h1, h2⟩
theorem ex_int {x : Int} {P : Int → Prop} (h : P x) : ∃ i, (PyData.int x) = .int i ∧ P i := ⟨x, rfl, h⟩
theorem ex_bool {x : Bool} {P : Bool → Prop} (h : P x) : ∃ i, (PyData.bool x) = .bool i ∧ P i := ⟨x, rfl, h⟩
theorem ex_list {x : List D} {P : List D → Prop} (h : P x) : ∃ i, (PyData.list x) = .list i ∧ P i := ⟨x, rfl, h⟩
theorem ex_tuple {x : List D} {P : List D → Prop} (h : P x) : ∃ i, (PyData.tuple x) = .tuple i ∧ P i := ⟨x, rfl, h⟩
theorem ex_seqL {x : List D} {P : List D → Prop} (h : P x) : ∃ i, SeqD (.list x) i ∧ P i := ⟨x, .inl rfl, h⟩
theorem ex_seqT {x : List D} {P : List D → Prop} (h : P x) : ∃ i, SeqD (.tuple x) i ∧ P i := ⟨x, .inr rfl, h⟩
section
variable {K : Fg} {sa : Option Addr} {δ : List Cell} {P : D → Prop} {ta tb te : TE}
theorem ow_modN {i j : Int} (c : j ≠ 0) (p : P (.int (i.fmod j))) : OW K sa (rI (fun _ j => j ≠ 0) fun i j => .int (i.fmod j)) (.int i) (.int j) P := ow_Ii c p
theorem ow_fdivN {i j : Int} (c : CDivN i j) (p : P (.int (i.fdiv j))) : OW K sa (rI CDivN fun i j => .int (i.fdiv j)) (.int i) (.int j) P := ow_Ii c p
theorem ow_pow {i j : Int} (c : CPow i j) (p : P (.int (i ^ j.toNat))) : OW K sa (rI CPow fun i j => .int (i ^ j.toNat)) (.int i) (.int j) P := ow_Ii c p
theorem we_neg {i : Int} (h : WE K sa te δ fun d => ∃ i, d = .int i ∧ P (.int (-i))) : WE K sa (tUn (rU fun i => .int (-i)) te) δ P := fun m H0 G0 E up σ H A Q q =>
  h m H0 G0 E up σ H A _ fun v d H1 ⟨i, e, p⟩ ⟨G, a⟩ => by
    subst e
    exact ⟨i, a.ex.2.int_inv, q _ _ H1 p ⟨G, a.same ⟨a.ex.1, .int _⟩⟩⟩
theorem we_isN {te : TE} (h : WE K sa te δ fun d => P (.bool (match d with | .none => true | _ => false))) : WE K sa (tOp (fun x y H Q => y = .non ∧ Q (.bl (decide (x = .non))) H) te (tC .non)) δ P := fun m H0 G0 E up σ H A Q q =>
  h m H0 G0 E up σ H A _ fun v d H1 p ⟨G, a⟩ => by
    refine ⟨rfl, q _ _ H1 p ⟨G, a.same ⟨a.ex.1, ?_⟩⟩⟩
    have r := a.ex.2
    cases r <;> exact .bl _
theorem we_notN {te : TE} (h : WE K sa te δ fun d => P (.bool (match d with | .none => false | _ => true))) : WE K sa (tOp (fun x y H Q => y = .non ∧ Q (.bl (!decide (x = .non))) H) te (tC .non)) δ P := fun m H0 G0 E up σ H A Q q =>
  h m H0 G0 E up σ H A _ fun v d H1 p ⟨G, a⟩ => by
    refine ⟨rfl, q _ _ H1 p ⟨G, a.same ⟨a.ex.1, ?_⟩⟩⟩
    have r := a.ex.2
    cases r <;> exact .bl _
/-- a < b < c -/
theorem we_chain {r r' : R2} {tc : TE} (h : WE K sa ta δ fun d => WE K sa tb δ fun e => ∀ (m : Bool) (H0 G0 : Hp) (E : Hp → Prop), Up E → ∀ (σ : L2.St) (H : Hp) (v w : V), At K m sa H0 G0 δ (fun G => E G ∧ Rp K G v d ∧ Rp K G w e) σ H → ∀ Q : VK, (∀ v d H', P d → At K m sa H0 G0 δ (fun G => E G ∧ Rp K G v d) σ H' → Q v H') → r v w H fun z H3 => ∃ k, z = .bl k ∧ if k = true then tc σ H3 fun u H4 => r' w u H4 Q else Q (.bl false) H3) :
    WE K sa (tChain r r' ta tb tc) δ P := fun m H0 G0 E up σ H A Q q =>
  h m H0 G0 E up σ H A _ fun v d H1 h1 A1 => h1 m H0 G0 _ (up_and up up_rp) σ H1 A1 _ fun w e H2 h2 A2 => h2 m H0 G0 E up σ H2 v w (A2.imp fun _ x => ⟨x.1.1, x.1.2, x.2⟩) Q q
/-- of whole numbers -/
theorem we_chainI {g g' : Int → Int → Bool} {tc : TE} (h : WE K sa ta δ fun d => ∃ i, d = .int i ∧ WE K sa tb δ fun e => ∃ j, e = .int j ∧ (g i j = true → WE K sa tc δ fun f => ∃ l, f = .int l ∧ P (.bool (g' j l))) ∧ (g i j = false → P (.bool false))) :
    WE K sa (tChain (rI0 fun i j => .bl (g i j)) (rI0 fun i j => .bl (g' i j)) ta tb tc) δ P := fun m H0 G0 E up σ H A Q q =>
  h m H0 G0 E up σ H A _ fun v d H1 ⟨i, e1, h1⟩ A1 => h1 m H0 G0 _ (up_and up up_rp) σ H1 A1 _ fun w e H2 ⟨j, e2, h2, h3⟩ ⟨G, a⟩ => by
    subst e1 e2
    refine ⟨i, j, a.ex.1.2.int_inv, a.ex.2.int_inv, g i j, rfl, ?_⟩
    cases hg : g i j with
    | true =>
      refine iteT (h2 hg m H0 G0 E up σ H2 ⟨G, a.same a.ex.1.1⟩ _ fun u f H3 ⟨l, e3, p⟩ ⟨G2, a2⟩ => ?_)
      subst e3
      exact ⟨j, l, a.ex.2.int_inv, a2.ex.2.int_inv, q _ _ H3 p ⟨G2, a2.same ⟨a2.ex.1, .bl _⟩⟩⟩
    | false => exact iteF (q _ _ H2 (h3 hg) ⟨G, a.same ⟨a.ex.1.1, .bl _⟩⟩)
theorem wt_chainI {g g' : Int → Int → Bool} {tc : TE} {P : Bool → Prop} (h : WE K sa ta δ fun d => ∃ i, d = .int i ∧ WE K sa tb δ fun e => ∃ j, e = .int j ∧ (g i j = true → WE K sa tc δ fun f => ∃ l, f = .int l ∧ P (g' j l)) ∧ (g i j = false → P false)) :
    WT K sa (tTest (tChain (rI0 fun i j => .bl (g i j)) (rI0 fun i j => .bl (g' i j)) ta tb tc)) δ P :=
  wt_test (we_chainI (h.imp fun d ⟨i, e, h1⟩ => ⟨i, e, h1.imp fun e' ⟨j, e2, h2, h3⟩ => ⟨j, e2, fun hg => (h2 hg).imp fun f ⟨l, e3, p⟩ => ⟨l, e3, _, rfl, p⟩, fun hg => ⟨_, rfl, h3 hg⟩⟩⟩))
end
end Dl

namespace Dl
open PySem PySem.Spec PyProof.Rows L2 DlP
/-! ### data without the script in it -/
mutual
def clean : D → Bool
  | .list ds => cleanAll ds
  | .tuple ds => cleanAll ds
  | .dict kvs => cleanKv kvs
  | .none => true
  | .bool _ => true
  | .int _ => true
  | .str _ => true
def cleanAll : List D → Bool
  | [] => true
  | d :: ds => clean d && cleanAll ds
def cleanKv : List (D × D) → Bool
  | [] => true
  | (.list _, _) :: _ => false
  | (_, v) :: r => clean v && cleanKv r
end
theorem clean_ne {d : D} (h : clean d = true) (ns : List Int) : d ≠ scrD ns := fun e => by
  subst e
  simp [scrD, clean, cleanKv] at h
theorem clean_nx {d : D} (h : clean d = true) : (∀ ns, d ≠ scrD ns) ∧ ∀ ds, d ≠ dixD ds := ⟨clean_ne h, fun ds e => by
  subst e
  simp [dixD, clean, cleanKv] at h⟩
theorem cleanAll_mem : ∀ {ds : List D}, cleanAll ds = true → ∀ d ∈ ds, clean d = true
  | d :: ds, h, x, hx => by
    have h' := (by simpa [cleanAll] using h : _ ∧ _)
    rcases List.mem_cons.mp hx with e | e
    · rw [e]; exact h'.1
    · exact cleanAll_mem h'.2 x e
  | [], _, _, hx => by cases hx
theorem cleanAll_of : ∀ {ds : List D}, (∀ d ∈ ds, clean d = true) → cleanAll ds = true
  | [], _ => rfl
  | d :: ds, h => by
    rw [cleanAll, h d (by simp), cleanAll_of fun x hx => h x (by simp [hx])]
    rfl
def isIntD : D → Bool | .int _ => true | .bool _ => true | _ => false
def isBoolD : D → Bool | .bool _ => true | _ => false
def isTupD : D → Bool | .tuple _ => true | _ => false
theorem kb_NoneType_int : kitB "NoneType" "int" = some false := by decide +kernel
theorem kb_bool_int : kitB "bool" "int" = some true := by decide +kernel
theorem kb_int_int : kitB "int" "int" = some true := by decide +kernel
theorem kb_str_int : kitB "str" "int" = some false := by decide +kernel
theorem kb_list_int : kitB "list" "int" = some false := by decide +kernel
theorem kb_tuple_int : kitB "tuple" "int" = some false := by decide +kernel
theorem kb_dict_int : kitB "dict" "int" = some false := by decide +kernel
theorem kit_isInt {K : PySem.W.Frag} : ∀ d : D, PySem.W.kitOne K (.type (tyD d)) (.type "int") = some (isIntD d)
  | .none => kit_ty kb_NoneType_int
  | .bool _ => kit_ty kb_bool_int
  | .int _ => kit_ty kb_int_int
  | .str _ => kit_ty kb_str_int
  | .list _ => kit_ty kb_list_int
  | .tuple _ => kit_ty kb_tuple_int
  | .dict _ => kit_ty kb_dict_int
theorem kb_NoneType_bool : kitB "NoneType" "bool" = some false := by decide +kernel
theorem kb_bool_bool : kitB "bool" "bool" = some true := by decide +kernel
theorem kb_int_bool : kitB "int" "bool" = some false := by decide +kernel
theorem kb_str_bool : kitB "str" "bool" = some false := by decide +kernel
theorem kb_list_bool : kitB "list" "bool" = some false := by decide +kernel
theorem kb_tuple_bool : kitB "tuple" "bool" = some false := by decide +kernel
theorem kb_dict_bool : kitB "dict" "bool" = some false := by decide +kernel
theorem kit_isBool {K : PySem.W.Frag} : ∀ d : D, PySem.W.kitOne K (.type (tyD d)) (.type "bool") = some (isBoolD d)
  | .none => kit_ty kb_NoneType_bool
  | .bool _ => kit_ty kb_bool_bool
  | .int _ => kit_ty kb_int_bool
  | .str _ => kit_ty kb_str_bool
  | .list _ => kit_ty kb_list_bool
  | .tuple _ => kit_ty kb_tuple_bool
  | .dict _ => kit_ty kb_dict_bool
theorem kb_NoneType_tuple : kitB "NoneType" "tuple" = some false := by decide +kernel
theorem kb_bool_tuple : kitB "bool" "tuple" = some false := by decide +kernel
theorem kb_int_tuple : kitB "int" "tuple" = some false := by decide +kernel
theorem kb_str_tuple : kitB "str" "tuple" = some false := by decide +kernel
theorem kb_list_tuple : kitB "list" "tuple" = some false := by decide +kernel
theorem kb_tuple_tuple : kitB "tuple" "tuple" = some true := by decide +kernel
theorem kb_dict_tuple : kitB "dict" "tuple" = some false := by decide +kernel
theorem kit_isTup {K : PySem.W.Frag} : ∀ d : D, PySem.W.kitOne K (.type (tyD d)) (.type "tuple") = some (isTupD d)
  | .none => kit_ty kb_NoneType_tuple
  | .bool _ => kit_ty kb_bool_tuple
  | .int _ => kit_ty kb_int_tuple
  | .str _ => kit_ty kb_str_tuple
  | .list _ => kit_ty kb_list_tuple
  | .tuple _ => kit_ty kb_tuple_tuple
  | .dict _ => kit_ty kb_dict_tuple
section
variable {K : Fg} {sa : Option Addr} {δ : List Cell} {te : TE} {P : D → Prop}
theorem we_isInt (h : WE K sa te δ fun d => clean d = true ∧ P (.bool (isIntD d))) : WE K sa (tCB (rIsi K) (tCons te (tCons (tC (.ty "int")) tNil))) δ P :=
  we_isi (h.imp fun d p => ⟨clean_nx p.1, isIntD d, kit_isInt d, p.2⟩)
theorem we_isBool (h : WE K sa te δ fun d => clean d = true ∧ P (.bool (isBoolD d))) : WE K sa (tCB (rIsi K) (tCons te (tCons (tC (.ty "bool")) tNil))) δ P :=
  we_isi (h.imp fun d p => ⟨clean_nx p.1, isBoolD d, kit_isBool d, p.2⟩)
theorem we_isTup (h : WE K sa te δ fun d => clean d = true ∧ P (.bool (isTupD d))) : WE K sa (tCB (rIsi K) (tCons te (tCons (tC (.ty "tuple")) tNil))) δ P :=
  we_isi (h.imp fun d p => ⟨clean_nx p.1, isTupD d, kit_isTup d, p.2⟩)
theorem inV_ints (i : Int) : ∀ ns : List Int, inV (.int i) (ns.map V.int) = ns.contains i
  | [] => rfl
  | n :: ns => by
    have ih := inV_ints i ns
    unfold inV at ih ⊢
    rw [List.map_cons, List.any_cons, ih, List.contains_cons]
    have e : eqV (.int n) (.int i) = (i == n) := by
      show (n == i) = (i == n)
      exact Bool.beq_comm
    rw [e]
theorem flat_ints (ns : List Int) : (ns.map V.int).all flatV = true := by
  rw [List.all_eq_true]
  intro x hx
  obtain ⟨n, _, rfl⟩ := List.mem_map.mp hx
  rfl
/-- a whole number in a tuple of the module -/
theorem we_inC {a : Addr} {ns : List Int} {vs : List V} (ha : SqT K (fun _ => none) a vs) (hv : vs = ns.map V.int) (h : WE K sa te δ fun d => ∃ i, d = .int i ∧ P (.bool (ns.contains i))) : WE K sa (tOp (rIn K false) te (tC (.ref a))) δ P := fun m H0 G0 E up σ H A Q q =>
  h m H0 G0 E up σ H A _ fun v d H1 hp hG => by
    obtain ⟨i, e, p⟩ := hp
    obtain ⟨G, a1⟩ := hG
    subst e
    subst hv
    have ev := a1.ex.2.int_inv
    subst ev
    refine ⟨a, _, rfl, .inr (sqT_mono (fun b o e => by cases e) ha), rfl, flat_ints ns, ?_⟩
    rw [inV_ints]
    exact q _ _ H1 p ⟨G, a1.same ⟨a1.ex.1, .bl _⟩⟩
/-- .. in a tuple that is made on the way, in a list or a tuple of whole numbers -/
theorem ow_inI {i : Int} {ns : List Int} {d : D} (hd : SeqD d (ns.map PyData.int)) (p : P (.bool (ns.contains i))) : OW K sa (rIn K false) (.int i) d P :=
  ow_at (z := .bl (ns.contains i)) (fun _ => .bl _) p fun G H v w Q s r1 r2 q => by
    have ev := r1.int_inv
    subst ev
    rcases hd with e | e
    · subst e
      obtain ⟨a, xs, e2, hs, rx⟩ := r2.lst_inv
      have ex := rx.ints
      subst ex
      exact ⟨a, _, e2, .inl (.inl (.inl (s _ _ hs))), rfl, flat_ints ns, by rw [inV_ints]; exact q⟩
    · subst e
      obtain ⟨a, xs, e2, hs, rx⟩ := r2.tup_inv
      have ex := rx.ints
      subst ex
      exact ⟨a, _, e2, .inr (sqT_mono s hs), rfl, flat_ints ns, by rw [inV_ints]; exact q⟩
theorem ow_notInI {i : Int} {ns : List Int} {d : D} (hd : SeqD d (ns.map PyData.int)) (p : P (.bool (!ns.contains i))) : OW K sa (rIn K true) (.int i) d P :=
  ow_at (z := .bl (!ns.contains i)) (fun _ => .bl _) p fun G H v w Q s r1 r2 q => by
    have ev := r1.int_inv
    subst ev
    rcases hd with e | e
    · subst e
      obtain ⟨a, xs, e2, hs, rx⟩ := r2.lst_inv
      have ex := rx.ints
      subst ex
      exact ⟨a, _, e2, .inl (.inl (.inl (s _ _ hs))), rfl, flat_ints ns, by rw [inV_ints]; exact q⟩
    · subst e
      obtain ⟨a, xs, e2, hs, rx⟩ := r2.tup_inv
      have ex := rx.ints
      subst ex
      exact ⟨a, _, e2, .inr (sqT_mono s hs), rfl, flat_ints ns, by rw [inV_ints]; exact q⟩
theorem cw_gcd {i j : Int} (p : P (.int ((Nat.gcd i.natAbs j.natAbs : Nat) : Int))) : CW K sa rGcd [.int i, .int j] P :=
  cw_at (fun _ => .int _) p fun G H vs Q _ r q => by
    obtain ⟨v, w, e, rv, rw'⟩ := r.two
    exact ⟨i, j, by rw [e, rv.int_inv, rw'.int_inv], q⟩
end
/-! ### comprehensions, told by a function -/
theorem fm_map {f : D → D} {ds es : List D} (h : FM (fun d o => o = some (f d)) ds es) : es = ds.map f := by
  induction h with
  | nil => rfl
  | yes _ r ih => rw [ih, List.map_append]; cases r; rfl
  | no _ r _ => cases r
theorem fm_filter {t : D → Bool} {f : D → D} {ds es : List D} (h : FM (fun d o => o = if t d = true then some (f d) else none) ds es) : es = (ds.filter t).map f := by
  induction h with
  | nil => rfl
  | @yes d e ds es _ r ih =>
    rw [ih, List.filter_append, List.map_append]
    cases ht : t d with
    | true => rw [if_pos ht] at r; cases r; simp [ht]
    | false => rw [ht, if_neg Bool.false_ne_true] at r; cases r
  | @no d ds es _ r ih =>
    rw [ih, List.filter_append, List.map_append]
    cases ht : t d with
    | true => rw [if_pos ht] at r; cases r
    | false => simp [ht]
theorem fm_rel {R : D → D → Prop} {ds es : List D} (h : FM (fun d o => ∃ e, o = some e ∧ R d e) ds es) : es.length = ds.length ∧ ∀ (i : Nat) (d e : D), ds[i]? = some d → es[i]? = some e → R d e := by
  induction h with
  | nil => exact ⟨rfl, fun i d e h => by simp at h⟩
  | @yes d e ds es _ r ih =>
    obtain ⟨e', e1, r⟩ := r
    cases e1
    refine ⟨by rw [List.length_append, List.length_append, ih.1]; rfl, fun i d' e' h1 h2 => ?_⟩
    by_cases hi : i < ds.length
    · rw [List.getElem?_append_left hi] at h1
      rw [List.getElem?_append_left (by rw [ih.1]; exact hi)] at h2
      exact ih.2 i d' e' h1 h2
    · rw [List.getElem?_append_right (by omega)] at h1
      rw [List.getElem?_append_right (by omega), ih.1] at h2
      cases hk : i - ds.length with
      | zero => rw [hk] at h1 h2; cases h1; cases h2; exact r
      | succ n => rw [hk] at h1; simp at h1
  | no _ r _ => obtain ⟨_, e, _⟩ := r; cases e
section
variable {K : Fg} {sa : Option Addr} {δ : List Cell} {te : TE} {tt : TT}
theorem wt_yes {P : Bool → Prop} (p : P true) : WT K sa tYes δ P := fun m H0 G0 E up σ H A Q q => q _ _ p A
theorem wf_map {wi : TI} {g : TG} {vs : List Nat} {P : List D → Prop} (f : D → D) (h : WJ K sa false wi δ fun ds => ds.length ≤ sizeLine ∧ (∀ (i : Nat) (d : D), ds[i]? = some d → WGv K sa vs g (wipeC δ vs) d fun δ2 => WE K sa te δ2 fun e => e = f d) ∧ P (ds.map f)) :
    WF K sa (tLc wi g tYes te vs) δ P := wf_lc fun m H0 G0 E up σ H A R q => h m H0 G0 E up σ H A R fun J ds H1 G1 Stay ⟨hz, step, p⟩ a I sx ss => q J ds H1 G1 Stay ⟨hz, fun d o => o = some (f d), fun i d hd =>
      fun m H0 G0 E up σ H v A Q q => step i d hd m H0 G0 E up σ H v A Q fun δ2 σ2 w => q δ2 σ2 (wt_yes ⟨fun _ => w.imp fun e he => by rw [he], fun z => nomatch z⟩), fun es fm => by rw [fm_map fm]; exact p⟩ a I sx ss
theorem wf_filter {wi : TI} {g : TG} {vs : List Nat} {P : List D → Prop} (t : D → Bool) (f : D → D) (h : WJ K sa false wi δ fun ds => ds.length ≤ sizeLine ∧ (∀ (i : Nat) (d : D), ds[i]? = some d → WGv K sa vs g (wipeC δ vs) d fun δ2 => WT K sa tt δ2 fun b => b = t d ∧ (b = true → WE K sa te δ2 fun e => e = f d)) ∧ P ((ds.filter t).map f)) :
    WF K sa (tLc wi g tt te vs) δ P := wf_lc fun m H0 G0 E up σ H A R q => h m H0 G0 E up σ H A R fun J ds H1 G1 Stay ⟨hz, step, p⟩ a I sx ss => q J ds H1 G1 Stay ⟨hz, fun d o => o = if t d = true then some (f d) else none, fun i d hd =>
      fun m H0 G0 E up σ H v A Q q => step i d hd m H0 G0 E up σ H v A Q fun δ2 σ2 w => q δ2 σ2 (w.imp fun b ⟨hb, we⟩ => ⟨fun z => (we z).imp fun e he => by show some e = _; rw [← hb, if_pos z, he], fun z => by show none = _; rw [← hb, z, if_neg Bool.false_ne_true]⟩), fun es fm => by rw [fm_filter fm]; exact p⟩ a I sx ss
theorem wf_rel {wi : TI} {g : TG} {vs : List Nat} {P : List D → Prop} (h : WJ K sa false wi δ fun ds => ds.length ≤ sizeLine ∧ ∃ R : D → D → Prop, (∀ (i : Nat) (d : D), ds[i]? = some d → WGv K sa vs g (wipeC δ vs) d fun δ2 => WE K sa te δ2 fun e => R d e) ∧
      ∀ es, es.length = ds.length → (∀ (i : Nat) (d e : D), ds[i]? = some d → es[i]? = some e → R d e) → P es) :
    WF K sa (tLc wi g tYes te vs) δ P := wf_lc fun m H0 G0 E up σ H A R q => h m H0 G0 E up σ H A R fun J ds H1 G1 Stay ⟨hz, R', step, p⟩ a I sx ss => q J ds H1 G1 Stay ⟨hz, fun d o => ∃ e, o = some e ∧ R' d e, fun i d hd =>
      fun m H0 G0 E up σ H v A Q q => step i d hd m H0 G0 E up σ H v A Q fun δ2 σ2 w => q δ2 σ2 (wt_yes ⟨fun _ => w.imp fun e he => ⟨e, rfl, he⟩, fun z => nomatch z⟩), fun es fm => p es (fm_rel fm).1 (fm_rel fm).2⟩ a I sx ss
end
end Dl

namespace Dl
open PySem PySem.Spec PyProof.Rows L2 DlP
/-! ### rules that name the fragment, so that a comprehension's parts don't hang on its scope -/
section
variable {X : Cx} {K : Fg} (hk : X.K = K)
include hk
theorem op_addUK : OpR X (binaryOp .Add) (rAddU K) := by subst hk; exact op_addU
theorem op_mulUK : OpR X (binaryOp .Mult) (rMulU K) := by subst hk; exact op_mulU
theorem op_eqUK (hu : X.A.units + 64 < cLine) : OpR X (compareOp .Eq) (rEqU K) := by subst hk; exact op_eqU hu
theorem op_neUK (hu : X.A.units + 64 < cLine) : OpR X (compareOp .NotEq) (rNeU K) := by subst hk; exact op_neU hu
theorem sl_anyK : SlR X (rSlU K) := by subst hk; exact sl_any
theorem ix_seqK : IxR X (rIx K) := by subst hk; exact ix_seq
theorem op_in_seqK : OpR X (compareOp .In) (rIn K false) := by subst hk; exact op_in_seq
theorem op_notIn_seqK : OpR X (compareOp .NotIn) (rIn K true) := by subst hk; exact op_notIn_seq
theorem call_lenK : CallR X (.builtin "len") (fun xs H Q => ∃ x n, xs = [x] ∧ LenV K x H n ∧ Q (.int n) H) := by subst hk; exact call_len
theorem cr_sumK (hc : X.calm = true) : CallR X (.builtin "sum") (rSum K) := by subst hk; exact cr_sum hc
theorem cr_allK (hc : X.calm = true) : CallR X (.builtin "all") (rAll K) := by subst hk; exact cr_all hc
theorem call_anyUK (hc : X.calm = true) : CallR X (.builtin "any") (rAnyU K) := by subst hk; exact call_anyU hc
theorem cr_sortedK : CallR X (.builtin "sorted") (rSorted K) := by subst hk; exact cr_sorted
theorem call_reprUK (hu : X.A.units + 64 < cLine) (hgd : X.A.guards = some []) : CallR X (.builtin "repr") (rRepr K) := by subst hk; exact call_reprU hu hgd
theorem call_isiK : CallR X (.builtin "isinstance") (rIsi K) := by subst hk; exact call_isi
theorem call_tuple_ofK : CallR X (.type "tuple") (fun xs H Q => ∃ p ys, xs = [.ref p] ∧ ((SqL K H p ys ∧ ∀ l, H l = none → Q (.ref l) (upd H l (.tup ys))) ∨ (SqT K H p ys ∧ Q (.ref p) H))) := by subst hk; exact call_tuple_of
theorem call_list_ofK : CallR X (.type "list") (fun xs H Q => ∃ p ys, xs = [.ref p] ∧ (SqL K H p ys ∨ SqT K H p ys) ∧ ∀ l, H l = none → Q (.ref l) (upd H l (.lst ys))) := by subst hk; exact call_list_of
theorem pi_seqK {tg : Expr} {l : Expr} {tl : TE} (hl : PE X l tl) : PI X tg l (iSeq K tl) := by subst hk; exact pi_seq hl
end
theorem pg_tupK {X : Cx} {K : Fg} (hk : X.K = K) {pos : Pos} {es : List Expr} {k : Nat} {t : TGs} {n : Nat} (hc : X.calm = true) (h : PGs X es t)
    (hn : (assignEach es X.env).length = n := by rfl) (hst : (assignEach es X.env).findIdx? (·.1) = none := by rfl) : PG X (.Tuple es k pos) (gTup K n t) := by subst hk; exact pg_tup hc h hn hst
theorem pi_zipUK {X : Cx} {K : Fg} (hk : X.K = K) {e e2 : Expr} {ta : TA} {p pos tpos : Pos} {elts : List Expr} {kk : Nat} (hg : Gl X "zip") (hm : X.mg "zip" = none) (ha : PA X [e, e2] ta)
    (hs : starEach [e, e2] X.env = (false, eval e X.env) :: starEach [e2] X.env := by rfl) (hpl : (backTo pos (starEach [e2] X.env)).any (·.1) = false := by rfl) :
    PI X (.Tuple elts kk tpos) (.Call (.Name "zip" p) [e, e2] [] pos) (iZipU K ta) := by subst hk; exact pi_zipU hg hm ha hs hpl
theorem pi_enumUK {X : Cx} {K : Fg} (hk : X.K = K) {e : Expr} {ta : TA} {p pos tpos : Pos} {elts : List Expr} {kk : Nat} (hg : Gl X "enumerate") (hm : X.mg "enumerate" = none) (ha : PA X [e] ta) (hs : starEach [e] X.env = [(false, eval e X.env)] := by rfl) :
    PI X (.Tuple elts kk tpos) (.Call (.Name "enumerate" p) [e] [] pos) (iEnumU K ta) := by subst hk; exact pi_enumU hg hm ha hs
def CDivL (_ j : Int) : Prop := j ≠ 0 ∧ j.natAbs.log2 < 9000
theorem op_fdivL {X : Cx} : OpR X (binaryOp .FloorDiv) (rI CDivL fun i j => .int (i.fdiv j)) := opI fun _ _ _ _ _ _ _ hc q => floordiv_int hc.1 q (.inl (PyProof.noPylong_of_log2 hc.2))
theorem cdivL {i j : Int} (h0 : j ≠ 0) (h1 : j.natAbs < 2 ^ 62) : CDivL i j := ⟨h0, Nat.lt_trans ((Nat.log2_lt (by omega)).mpr h1) (by decide)⟩
theorem ow_fdivL {K : Fg} {sa : Option Addr} {P : D → Prop} {i j : Int} (c : CDivL i j) (p : P (.int (i.fdiv j))) : OW K sa (rI CDivL fun i j => .int (i.fdiv j)) (.int i) (.int j) P := ow_Ii c p
theorem szl {n : Nat} (h : n ≤ 16777216) : n ≤ sizeLine := by rw [sizeLine_eq]; exact h
theorem szlt {n : Nat} (h : n < 16777216) : n < sizeLine := by rw [sizeLine_eq]; exact h
theorem cw_allT {K : Fg} {sa : Option Addr} {α : Type} {as : List α} {P : D → Prop} (p : P (.bool true)) : CW K sa (rAll K) [.list (as.map fun _ => PyData.bool true)] P := by
  have e : as.map (fun _ => PyData.bool true) = (as.map fun _ => true).map PyData.bool := by rw [List.map_map]; rfl
  rw [e]
  refine cw_all ?_
  have e2 : (as.map fun _ => true).all id = true := by simp
  rw [e2]
  exact p
theorem or_cases {b : Bool} {A B : Prop} (h1 : b = false → A) (h2 : b = true → B) : (b = false → A) ∧ (b = true → B) := ⟨h1, h2⟩
theorem ex_two {x y : D} {P : D → D → Prop} (h : P x y) : ∃ d e, [x, y] = [d, e] ∧ P d e := ⟨x, y, rfl, h⟩
theorem ex_oneI {x : Int} {P : Int → Prop} (h : P x) : ∃ i, [PyData.int x] = [.int i] ∧ P i := ⟨x, rfl, h⟩
section
variable {K : Fg} {sa : Option Addr} {δ : List Cell} {P : D → Prop}
/-- tuple(xs), xs one's own -/
theorem we_tupOwn {i : Nat} {ds : List D} (hi : δ[i]? = some (.own ds)) (p : P (.tuple ds)) :
    WE K sa (tCB (fun xs H Q => ∃ p ys, xs = [.ref p] ∧ ((SqL K H p ys ∧ ∀ l, H l = none → Q (.ref l) (upd H l (.tup ys))) ∨ (SqT K H p ys ∧ Q (.ref p) H))) (tCons (tVar i) tNil)) δ P := fun m H0 G0 E up σ H ⟨G, a⟩ Q q => by
  obtain ⟨o, e, b, xs, ev, hb, gp, ne, rx, hm⟩ := a.slot hi
  subst ev
  exact ⟨_, e, b, xs, rfl, .inl ⟨.inl (.inl hb), fun l hl => at_newTup up ⟨G, a.same ⟨a.ex, rx⟩⟩ p q hl⟩⟩
end
theorem list_of_get {α : Type} (f : α → D) (Q : α → Prop) : ∀ (es : List D), (∀ (i : Nat) (e : D), es[i]? = some e → ∃ a, e = f a ∧ Q a) → ∃ as : List α, es = as.map f ∧ ∀ a ∈ as, Q a
  | [], _ => ⟨[], rfl, fun _ h => nomatch h⟩
  | e :: es, h => by
    obtain ⟨a, ea, qa⟩ := h 0 e rfl
    obtain ⟨as, eas, qas⟩ := list_of_get f Q es fun i e he => h (i + 1) e (by simpa using he)
    refine ⟨a :: as, by rw [ea, eas]; rfl, fun x hx => ?_⟩
    rcases List.mem_cons.mp hx with z | z
    · subst z; exact qa
    · exact qas x z
theorem of_rel {α : Type} {f : α → D} {Q : α → Prop} {ds es : List D} (hl : es.length = ds.length) (h : ∀ (i : Nat) (d e : D), ds[i]? = some d → es[i]? = some e → ∃ a, e = f a ∧ Q a) : ∃ as : List α, es = as.map f ∧ as.length = ds.length ∧ ∀ a ∈ as, Q a := by
  obtain ⟨as, e, q⟩ := list_of_get f Q es fun i e he => by
    have hi : i < ds.length := by rw [← hl]; exact (List.getElem?_eq_some_iff.mp he).1
    exact h i ds[i] e (List.getElem?_eq_getElem hi) he
  refine ⟨as, e, ?_, q⟩
  rw [← hl, e, List.length_map]
def dot (l r : List Int) : Int := (List.zipWith (· * ·) l r).sum
def mulD : D → D | .tuple [.int x, .int y] => .int (x * y) | _ => .none
theorem zip_mul : ∀ l r : List Int, (zipD (l.map PyData.int) (r.map PyData.int)).map mulD = (List.zipWith (· * ·) l r).map PyData.int
  | [], _ => rfl
  | _ :: _, [] => rfl
  | x :: l, y :: r => by
    show mulD _ :: (zipD (l.map PyData.int) (r.map PyData.int)).map mulD = _
    rw [zip_mul l r]
    rfl
theorem mem_ints {ns : List Int} {i : Nat} {d : D} (h : (ns.map PyData.int)[i]? = some d) : ∃ x ∈ ns, d = .int x := by
  have hm := List.mem_of_getElem? h
  obtain ⟨x, hx, rfl⟩ := List.mem_map.mp hm
  exact ⟨x, hx, rfl⟩
theorem get_map {α : Type} {f : α → D} {as : List α} {i : Nat} {d : D} (h : (as.map f)[i]? = some d) : ∃ a, as[i]? = some a ∧ d = f a := by
  rw [List.getElem?_map] at h
  cases z : as[i]? with
  | none => rw [z] at h; cases h
  | some a => rw [z] at h; cases h; exact ⟨a, rfl, rfl⟩
theorem replI (n : Nat) (d : D) : (List.replicate n [d]).flatten = List.replicate n d := by
  induction n with
  | zero => rfl
  | succ n ih => rw [List.replicate_succ, List.flatten_cons, ih, List.replicate_succ]; rfl
section
variable {K : Fg} {sa : Option Addr} {δ : List Cell} {P : D → Prop} {ta : TA} {tb : TE}
theorem we_lst (h : WA K sa ta δ fun ds => ds.length ≤ sizeLine ∧ P (.list ds)) : WE K sa (tLst ta) δ P := we_fresh (wf_lst h)
theorem we_tup2 {tb : TE} {tc : TE} (h : WE K sa tb δ fun d => WE K sa tc δ fun e => P (.tuple [d, e])) : WE K sa (tTup (tCons tb (tCons tc tNil))) δ P :=
  we_tup (wa_cons (h.imp fun d w => wa_cons (w.imp fun e p => wa_nil ⟨szl (by simp), p⟩)))
theorem we_tup1 {tb : TE} (h : WE K sa tb δ fun d => P (.tuple [d])) : WE K sa (tTup (tCons tb tNil)) δ P :=
  we_tup (wa_cons (h.imp fun d p => wa_nil ⟨szl (by simp), p⟩))
theorem WA.imp {P P' : List D → Prop} (h : WA K sa ta δ P') (k : ∀ d, P' d → P d) : WA K sa ta δ P := fun m H0 G0 E up σ H A Q q => h m H0 G0 E up σ H A Q fun d ds H1 p a => q d ds H1 (k ds p) a
theorem WF.imp {te : TE} {P P' : List D → Prop} (h : WF K sa te δ P') (k : ∀ d, P' d → P d) : WF K sa te δ P := fun m H0 G0 E up σ H A Q q => h m H0 G0 E up σ H A Q fun p vs ds H1 pp => q p vs ds H1 (k ds pp)
theorem we_catLc {wi : TI} {g : TG} {tt : TT} {te : TE} {vs : List Nat} (h : WE K sa tb δ fun d => ∃ ds, d = .list ds ∧ WF K sa (tLc wi g tt te vs) δ fun es => ds.length + es.length ≤ sizeLine ∧ P (.list (ds ++ es))) : WE K sa (tOp (rAddU K) tb (tLc wi g tt te vs)) δ P :=
  we_fresh (wf_catU (h.imp fun d ⟨ds, e, w⟩ => ⟨ds, e, we_fresh (w.imp fun es ⟨z, p⟩ => ⟨es, rfl, z, p⟩)⟩))
theorem we_repL (h : WA K sa ta δ fun ds => ds.length ≤ sizeLine ∧ WE K sa tb δ fun e => ∃ k : Int, e = .int k ∧ (-(2 ^ 63) ≤ k ∧ k < 2 ^ 63) ∧ ds.length * k.toNat ≤ sizeLine ∧ P (.list (List.replicate k.toNat ds).flatten)) : WE K sa (tOp (rMulU K) (tLst ta) tb) δ P :=
  we_fresh (wf_repU (we_lst (h.imp fun ds ⟨z, w⟩ => ⟨z, ds, rfl, w⟩)))
end
end Dl

namespace Dl
open PySem PySem.Spec PyProof.Rows L2 DlP
/-! ### the least and the greatest of a list of data -/
structure BestD (d : D) (ds : List D) : Prop where
  alike : PySem.W.AlikeAll (d :: ds)
  flat : PyData.hasDictAll (d :: ds) = false
  deep : PyData.depthAll (d :: ds) ≤ 60
def rBestD (K : Fg) (best : D → List D → D) : List V → Hp → VK → Prop := fun xs H Q => ∃ a vs d ds, xs = [.ref a] ∧ SqL K H a vs ∧ RpA K H vs (d :: ds) ∧ BestD d ds ∧ ∀ (i : Nat) (u : V), vs[i]? = some u → (d :: ds)[i]? = some (best d ds) → Q u H
def rMinU (K : Fg) : List V → Hp → VK → Prop := fun xs H Q => (∃ i j, xs = [.int i, .int j] ∧ Q (.int (if j < i then j else i)) H) ∨ rBestD K PySem.W.minD xs H Q
def rMaxU (K : Fg) : List V → Hp → VK → Prop := fun xs H Q => (∃ i j, xs = [.int i, .int j] ∧ Q (.int (if j > i then j else i)) H) ∨ rBestD K PySem.W.maxD xs H Q
theorem noDict_mem : ∀ {ds : List D}, PyData.hasDictAll ds = false → ∀ d ∈ ds, d.hasDict = false
  | [], _, _, h => nomatch h
  | e :: es, hf, d, h => by
    have h2 := (by simpa [PyData.hasDictAll] using hf : _ ∧ _)
    rcases List.mem_cons.mp h with z | z
    · rw [z]; exact h2.1
    · exact noDict_mem h2.2 d z
theorem vals_at : ∀ {vs : List V} {us : List Value} {i : Nat} {u : Value}, Vals vs us → us[i]? = some u → ∃ v, vs[i]? = some v ∧ RelV v u
  | _, _, i, u, .nil, h => by simp at h
  | _, _, 0, u, .cons r _, h => by simp at h; subst h; exact ⟨_, rfl, r⟩
  | _, _, i + 1, u, .cons _ t, h => by
    obtain ⟨v, e, r⟩ := vals_at t (by simpa using h)
    exact ⟨v, by simpa using e, r⟩
section
variable {X : Cx}
theorem best_at {pins : List (Addr × Obj)} {σ : L2.St} {H : Hp} {s : Shared} (I : Inv X pins σ H s) {vs : List V} {ds : List D} {its : List Value} (rx : RpA X.K H vs ds) (hf : PyData.hasDictAll ds = false) (rv : Vals vs its) {i : Nat} {v : Value} {h' : Heap} {b : D} {bs : List Addr}
    (hi : its.toArray[i]? = some v) (hr : Reads h' v b bs) (hk : ∀ a o, s.heap.get? a = some o → h'.get? a = some o) : ∃ u, RelV u v ∧ vs[i]? = some u ∧ ds[i]? = some b := by
  have hi : its[i]? = some v := by simpa using hi
  obtain ⟨u, hu, ruv⟩ := vals_at rv hi
  obtain ⟨d, hd, rd⟩ := rx.getV hu
  obtain ⟨as, r1⟩ := Rp.reads I rd (noDict_mem hf d (List.mem_of_getElem? hd)) ruv
  have e := ((PySem.W.reads_keeps hk r1).unique _ _ hr).1
  subst e
  exact ⟨u, ruv, hu, hd⟩
theorem call_minU (hc : X.calm = true) (hu : X.A.units + 64 < cLine) : CallR X (.builtin "min") (rMinU X.K) := by
  intro pins s σ H xs us Q I r h
  rcases h with h | h
  · exact call_min2 hc pins s σ H xs us Q I r h
  · obtain ⟨a, vs, d, ds, rfl, hs, rx, hb, q⟩ := h
    obtain ⟨its, rv, hl, _⟩ := I.list hs
    obtain ⟨as, hR⟩ := RpA.reads I rx hb.flat rv
    rw [Vals.ref1 r]
    exact PySem.W.min_list_data (I.ok.hd hc) hl.isList hR hb.alike (by have := hb.deep; omega) fun i v h' tk bs hi hr hk => by
      obtain ⟨u, ruv, hu, hd⟩ := best_at I rx hb.flat rv hi hr hk
      exact ⟨u, H, I.kept hk, ruv, q i u hu hd⟩
theorem call_maxU (hc : X.calm = true) (hu : X.A.units + 64 < cLine) : CallR X (.builtin "max") (rMaxU X.K) := by
  intro pins s σ H xs us Q I r h
  rcases h with h | h
  · exact call_max2 hc pins s σ H xs us Q I r h
  · obtain ⟨a, vs, d, ds, rfl, hs, rx, hb, q⟩ := h
    obtain ⟨its, rv, hl, _⟩ := I.list hs
    obtain ⟨as, hR⟩ := RpA.reads I rx hb.flat rv
    rw [Vals.ref1 r]
    exact PySem.W.max_list_data (I.ok.hd hc) hl.isList hR hb.alike (by have := hb.deep; omega) fun i v h' tk bs hi hr hk => by
      obtain ⟨u, ruv, hu, hd⟩ := best_at I rx hb.flat rv hi hr hk
      exact ⟨u, H, I.kept hk, ruv, q i u hu hd⟩
end
section
variable {X : Cx} {K : Fg} (hk : X.K = K)
include hk
theorem call_minUK (hc : X.calm = true) (hu : X.A.units + 64 < cLine) : CallR X (.builtin "min") (rMinU K) := by subst hk; exact call_minU hc hu
theorem call_maxUK (hc : X.calm = true) (hu : X.A.units + 64 < cLine) : CallR X (.builtin "max") (rMaxU K) := by subst hk; exact call_maxU hc hu
end
section
variable {K : Fg} {sa : Option Addr} {δ : List Cell} {P : D → Prop}
theorem cw_min2U {i j : Int} (p : P (.int (if j < i then j else i))) : CW K sa (rMinU K) [.int i, .int j] P := fun m H0 G0 δ E up σ H vs A Q q => .inl (cw_min2 p m H0 G0 δ E up σ H vs A Q q)
theorem cw_max2U {i j : Int} (p : P (.int (if j > i then j else i))) : CW K sa (rMaxU K) [.int i, .int j] P := fun m H0 G0 δ E up σ H vs A Q q => .inl (cw_max2 p m H0 G0 δ E up σ H vs A Q q)
theorem cw_minD {d : D} {ds : List D} (hb : BestD d ds) (p : P (PySem.W.minD d ds)) : CW K sa (rMinU K) [.list (d :: ds)] P := fun m H0 G0 δ E up σ H vs ⟨G, a⟩ Q q => by
  obtain ⟨v, e, rv⟩ := a.ex.2.one
  obtain ⟨b, xs, e2, h, rx⟩ := rv.lst_inv
  refine .inr ⟨b, xs, d, ds, by rw [e, e2], .inl (.inl (a.gd.gh _ _ h)), rx.mono a.gd.gh, hb, fun i u hu hd => ?_⟩
  obtain ⟨e, he, re⟩ := rx.getV hu
  rw [hd] at he
  cases he
  exact q _ _ H p ⟨G, a.same ⟨a.ex.1, re⟩⟩
theorem cw_maxD {d : D} {ds : List D} (hb : BestD d ds) (p : P (PySem.W.maxD d ds)) : CW K sa (rMaxU K) [.list (d :: ds)] P := fun m H0 G0 δ E up σ H vs ⟨G, a⟩ Q q => by
  obtain ⟨v, e, rv⟩ := a.ex.2.one
  obtain ⟨b, xs, e2, h, rx⟩ := rv.lst_inv
  refine .inr ⟨b, xs, d, ds, by rw [e, e2], .inl (.inl (a.gd.gh _ _ h)), rx.mono a.gd.gh, hb, fun i u hu hd => ?_⟩
  obtain ⟨e, he, re⟩ := rx.getV hu
  rw [hd] at he
  cases he
  exact q _ _ H p ⟨G, a.same ⟨a.ex.1, re⟩⟩
/-- a tuple times a number from 2 on -/
theorem ow_mulT {ds : List D} {k : Int} (h0 : ds ≠ []) (hk : 2 ≤ k ∧ k ≤ 1000) (hl : ds.length ≤ 1000) (p : P (.tuple (List.replicate k.toNat ds).flatten)) : OW K sa (rMulU K) (.tuple ds) (.int k) P := fun m H0 G0 δ E up σ H v w ⟨G, a⟩ Q q => by
  obtain ⟨b, xs, e, h, rx⟩ := a.ex.2.1.tup_inv
  have ew := a.ex.2.2.int_inv
  refine .inr (.inr ⟨b, k, xs, e, ew, sqT_mono a.gd.gh h, ?_, hk.1, hk.2, by rw [rx.length]; exact hl, fun x hx => at_newTup up ⟨G, a.same ⟨a.ex.1, rpA_flat rx _⟩⟩ p q hx⟩)
  intro z
  subst z
  cases rx
  exact h0 rfl
end
end Dl

namespace Dl
open PySem PySem.Spec PyProof.Rows L2 DlP
section
variable {K : Fg} {sa : Option Addr} {δ : List Cell} {P : D → Prop}
theorem we_dict0 (p : P (.dict [])) : WE K sa tDNewK δ P := fun m H0 G0 E up σ H ⟨G, a⟩ Q q => fun x hx => by
  have gx : G x = none := by
    cases z : G x with
    | none => rfl
    | some u => rw [a.gd.gh x u z] at hx; cases hx
  have s1 : Same G (upd G x (.dK [])) := fun b o e => by rw [upd_ne (ne_of_none e gx)]; exact e
  exact q _ _ _ p ⟨_, a.new hx ⟨up _ _ s1 a.ex, .dic upd_same .nil⟩⟩
theorem we_disp1 {k : Str} {i : Int} (p : P (.dict [(.str k, .int i)])) : WE K sa (tDisp [(tC (.str k), tC (.int i))]) δ P := fun m H0 G0 E up σ H ⟨G, a⟩ Q q => fun x hx => by
  have gx : G x = none := by
    cases z : G x with
    | none => rfl
    | some u => rw [a.gd.gh x u z] at hx; cases hx
  have s1 : ∀ o, Same G (upd G x o) := fun o b u e => by rw [upd_ne (ne_of_none e gx)]; exact e
  show (upd H x (.dK [])) x = some (.dK []) ∧ ∃ kvs : List (Key × V), [(V.str k, V.int i)] = kvs.map (fun kv => (kV kv.1, kv.2)) ∧ kvs.length ≤ 15 ∧ Q (.ref x) (upd (upd H x (.dK [])) x (.dK (mergeK [] kvs)))
  refine ⟨upd_same, [(.inr k, .int i)], rfl, by simp, ?_⟩
  have e : upd (upd H x (.dK [])) x (.dK (mergeK [] [(.inr k, .int i)])) = upd H x (.dK [(.inr k, .int i)]) := by
    funext b
    by_cases hb : b = x
    · subst hb; rw [upd_same, upd_same]; rfl
    · rw [upd_ne hb, upd_ne hb, upd_ne hb]
  rw [e]
  exact q _ _ _ p ⟨_, a.new hx ⟨up _ _ (s1 _) a.ex, .dic upd_same (.cons (k := .inr k) (.int i) .nil)⟩⟩
theorem we_minOwn {i : Nat} {d : D} {ds : List D} (hi : δ[i]? = some (.own (d :: ds))) (hb : BestD d ds) (p : P (PySem.W.minD d ds)) : WE K sa (tCB (rMinU K) (tCons (tVar i) tNil)) δ P := fun m H0 G0 E up σ H ⟨G, a⟩ Q q => by
  obtain ⟨o, e, b, xs, ev, hbb, gp, ne, rx, hm⟩ := a.slot hi
  subst ev
  refine ⟨_, e, .inr ⟨b, xs, d, ds, rfl, .inl (.inl hbb), rx.mono a.gd.gh, hb, fun j u hu hd => ?_⟩⟩
  obtain ⟨e2, he, re⟩ := rx.getV hu
  rw [hd] at he
  cases he
  exact q _ _ H p ⟨G, a.same ⟨a.ex, re⟩⟩
theorem we_maxOwn {i : Nat} {d : D} {ds : List D} (hi : δ[i]? = some (.own (d :: ds))) (hb : BestD d ds) (p : P (PySem.W.maxD d ds)) : WE K sa (tCB (rMaxU K) (tCons (tVar i) tNil)) δ P := fun m H0 G0 E up σ H ⟨G, a⟩ Q q => by
  obtain ⟨o, e, b, xs, ev, hbb, gp, ne, rx, hm⟩ := a.slot hi
  subst ev
  refine ⟨_, e, .inr ⟨b, xs, d, ds, rfl, .inl (.inl hbb), rx.mono a.gd.gh, hb, fun j u hu hd => ?_⟩⟩
  obtain ⟨e2, he, re⟩ := rx.getV hu
  rw [hd] at he
  cases he
  exact q _ _ H p ⟨G, a.same ⟨a.ex, re⟩⟩
theorem cw_allB {t : D → Bool} {ds : List D} (p : P (.bool (ds.all t))) : CW K sa (rAll K) [.list (ds.map fun d => PyData.bool (t d))] P := by
  have e : ds.map (fun d => PyData.bool (t d)) = (ds.map t).map PyData.bool := by rw [List.map_map]; rfl
  rw [e]
  refine cw_all ?_
  have e2 : (ds.map t).all id = ds.all t := by rw [List.all_map]; rfl
  rw [e2]
  exact p
end
mutual
theorem clean_of : ∀ d : D, d.canLay0 = true → clean d = true
  | .none, _ => rfl
  | .bool _, _ => rfl
  | .int _, _ => rfl
  | .str _, _ => rfl
  | .list ds, h => cleanAll_lay ds (by simpa [PyData.canLay0] using h)
  | .tuple ds, h => cleanAll_lay ds (by simpa [PyData.canLay0] using h)
  | .dict _, h => by simp [PyData.canLay0] at h
theorem cleanAll_lay : ∀ ds : List D, PyData.canLayAll0 ds = true → cleanAll ds = true
  | [], _ => rfl
  | d :: ds, h => by
    have h2 := (by simpa [PyData.canLayAll0] using h : _ ∧ _)
    rw [cleanAll, clean_of d h2.1, cleanAll_lay ds h2.2]
    rfl
end
theorem lay_mem : ∀ {ds : List D}, PyData.canLayAll0 ds = true → ∀ d ∈ ds, d.canLay0 = true
  | [], _, _, h => nomatch h
  | e :: es, hf, d, h => by
    have h2 := (by simpa [PyData.canLayAll0] using hf : _ ∧ _)
    rcases List.mem_cons.mp h with z | z
    · rw [z]; exact h2.1
    · exact lay_mem h2.2 d z
theorem lay_all : ∀ {ds : List D}, (∀ d ∈ ds, d.canLay0 = true) → PyData.canLayAll0 ds = true
  | [], _ => by simp [PyData.canLayAll0]
  | e :: es, h => by
    simp only [PyData.canLayAll0]
    rw [h e (by simp), lay_all fun d hd => h d (by simp [hd])]
    rfl
/-! ### nets told of anything -/
def lenD : D → Nat | .tuple xs => xs.length | _ => 0
def headD : D → D | .tuple (x :: _) => x | _ => .none
def unD : D → List D | .tuple xs => xs | _ => []
def baseB : D → Bool | .int p => [2, 3, 5, 7].contains p | _ => false
def figB (p : Int) : D → Bool | .int x => decide (0 ≤ x) && decide (x < p) | _ => false
def rowB (p l m : Int) : D → Bool | .tuple xs => decide (l ≤ (xs.length : Int) ∧ (xs.length : Int) ≤ m) && xs.all (figB p) | _ => false
def tabB (p : Int) : D → Bool | .tuple rs => decide (1 ≤ rs.length ∧ rs.length ≤ 12) && rs.all (rowB p 1 12) && rs.all (fun r => decide (lenD r = lenD (headD (.tuple rs)))) | _ => false
def sizeB (a b : Nat) (t : D) : Bool := decide (lenD t = a) && decide (lenD (headD t) = b)
def tablesB (p : Int) : D → Bool | .tuple ts => decide (1 ≤ ts.length ∧ ts.length ≤ 6) && ts.all (tabB p) && ts.all (sizeB (lenD (headD (.tuple ts))) (lenD (headD (headD (.tuple ts))))) | _ => false
def netB : D → Bool | .tuple [.int p, t] => [2, 3, 5, 7].contains p && tablesB p t | _ => false
theorem rowB_out {p l m : Int} {xs : List D} (h : ¬(l ≤ (xs.length : Int) ∧ (xs.length : Int) ≤ m)) : rowB p l m (.tuple xs) = false := by
  show (decide _ && _) = false
  rw [decide_eq_false h]
  rfl
theorem rowB_in {p l m : Int} {xs : List D} (h : l ≤ (xs.length : Int) ∧ (xs.length : Int) ≤ m) : rowB p l m (.tuple xs) = xs.all (figB p) := by
  show (decide _ && _) = _
  rw [decide_eq_true h, Bool.true_and]
theorem tabB_out {p : Int} {rs : List D} (h : ¬(1 ≤ rs.length ∧ rs.length ≤ 12)) : tabB p (.tuple rs) = false := by
  show (decide _ && _ && _) = false
  rw [decide_eq_false h]
  rfl
theorem tabB_in {p : Int} {rs : List D} (h : 1 ≤ rs.length ∧ rs.length ≤ 12) : tabB p (.tuple rs) = (rs.all (rowB p 1 12) && rs.all (fun r => decide (lenD r = lenD (headD (.tuple rs))))) := by
  show (decide _ && _ && _) = _
  rw [decide_eq_true h, Bool.true_and]
theorem tablesB_out {p : Int} {ts : List D} (h : ¬(1 ≤ ts.length ∧ ts.length ≤ 6)) : tablesB p (.tuple ts) = false := by
  show (decide _ && _ && _) = false
  rw [decide_eq_false h]
  rfl
theorem tablesB_in {p : Int} {ts : List D} (h : 1 ≤ ts.length ∧ ts.length ≤ 6) : tablesB p (.tuple ts) = (ts.all (tabB p) && ts.all (sizeB (lenD (headD (.tuple ts))) (lenD (headD (headD (.tuple ts)))))) := by
  show (decide _ && _ && _) = _
  rw [decide_eq_true h, Bool.true_and]
end Dl

namespace Dl
open PySem PySem.Spec PyProof.Rows L2 DlP
theorem and_sz {ds : List D} {Q : Prop} (h : ds.length ≤ 16777216) (q : Q) : ds.length ≤ sizeLine ∧ Q := ⟨szl h, q⟩
section
variable {K : Fg} {sa : Option Addr} {δ : List Cell} {P : D → Prop} {ta : TA} {tb : TE}
theorem we_negI {te : TE} (h : WE K sa te δ fun d => ∃ i, d = .int i ∧ P (.int (-i))) : WE K sa (tUn (rU fun i => .int (-i)) te) δ P := we_neg (i := 0) h
theorem we_catLst (h : WE K sa tb δ fun d => ∃ ds, d = .list ds ∧ WA K sa ta δ fun es => es.length ≤ sizeLine ∧ ds.length + es.length ≤ sizeLine ∧ P (.list (ds ++ es))) : WE K sa (tOp (rAddU K) tb (tLst ta)) δ P :=
  we_fresh (wf_catU (h.imp fun d ⟨ds, e, w⟩ => ⟨ds, e, we_lst (w.imp fun es ⟨z, z2, p⟩ => ⟨z, es, rfl, z2, p⟩)⟩))
theorem we_listof (h : WA K sa ta δ fun es => ∃ ds, (es = [.list ds] ∨ es = [.tuple ds]) ∧ P (.list ds)) : WE K sa (tCB (fun xs H Q => ∃ p ys, xs = [.ref p] ∧ (SqL K H p ys ∨ SqT K H p ys) ∧ ∀ l, H l = none → Q (.ref l) (upd H l (.lst ys))) ta) δ P := we_fresh (wf_listof h)
end
theorem ex_listT {xs : List D} {P : List D → Prop} (h : P xs) : ∃ ds, (([.tuple xs] : List D) = [.list ds] ∨ ([.tuple xs] : List D) = [.tuple ds]) ∧ P ds := ⟨xs, .inr rfl, h⟩
theorem mem_cut {xs : List D} {lo hi : Option Int} : ∀ x ∈ cutD xs lo hi, x ∈ xs := fun x hx => List.mem_of_mem_drop (List.mem_of_mem_take hx)
theorem len_cut {xs : List D} {lo hi : Option Int} : (cutD xs lo hi).length ≤ xs.length := by
  unfold cutD
  rw [List.length_take, List.length_drop]
  omega
end Dl

namespace Dl
open PySem PySem.Spec PyProof.Rows L2 DlP
/-! ### sum of a tuple of whole numbers -/
section
variable {prog : Program} {w : World} {A : Around} {E : Value → Shared → Prop} {s : Shared} {l : Addr} {its : List Value} {ns : List Int} {Q : Value → Shared → Prop}
theorem sum_rawT (hh : A.handled = none) (hl : s.heap.IsTuple l its.toArray) (hi : IntsAre its ns)
    (h : ∀ h' tk t', (∀ b o, s.heap.get? b = some o → h'.get? b = some o) → Q (.int ns.sum t') { s with heap := h', toks := tk }) : wpAny (model prog w) A (call (.builtin "sum") [.ref l]) Q E s := by
  obtain ⟨xs, e⟩ := hi.allInts.items
  have hn : numsOf (intItems xs).toList = ns := by rw [← e]; exact hi.numsOf
  rw [nums_intItems] at hn
  rw [e] at hl
  have hlt : l < s.heap.objs.size := by obtain ⟨_, e, _⟩ := id hl; exact Heap.lt_size e
  refine call_sum_walkG (wpAny_pyIter_tuple hl ?_)
  refine ⟨s.heap.objs.size, _, _, _, _, _, numAt xs, rfl, Walks.tuple (A := A.in1) hh _ l (Nat.ne_of_lt hlt) (intItems xs), ⟨⟨_, Heap.get?_push_size _ rfl, rfl, rfl⟩, Heap.IsTuple.at hl fun o e => Heap.get?_push_of_some _ e⟩, fun b hb => ?_, (fun _ _ => intItems_at), fun h' tk t' hk => ?_⟩
  · show b < (s.heap.push _).objs.size
    rw [Heap.size_push]
    rcases List.mem_cons.mp hb with rfl | hb
    · exact Nat.lt_succ_self _
    · rcases List.mem_cons.mp hb with rfl | hb
      · exact Nat.lt_succ_of_lt hlt
      · cases hb
  · have := h h' tk t' fun b o e => hk b o (fun hm => by
        rcases List.mem_cons.mp hm with e1 | hm
        · exact absurd (e1 ▸ Heap.lt_size e) (Nat.lt_irrefl _)
        · cases hm) (Heap.get?_push_of_some _ e)
    rw [preSum_eq, List.take_of_length_le (by simp [intItems]), hn]
    exact this
end
def rSumU (K : Fg) : List V → Hp → VK → Prop := fun vs H Q => rSum K vs H Q ∨ ∃ (a : Addr) (ns : List Int), vs = [V.ref a] ∧ SqT K H a (ns.map V.int) ∧ Q (.int ns.sum) H
/-! ### max of a list with default= -/
def rMaxDf (K : Fg) : List V → List V → Hp → VK → Prop := fun xs zs H Q => ∃ a vs ds x, xs = [.ref a] ∧ zs = [x] ∧ SqL K H a vs ∧ RpA K H vs ds ∧ PySem.W.AlikeAll ds ∧ PyData.hasDictAll ds = false ∧ PyData.depthAll ds ≤ 60 ∧ (ds = [] → Q x H) ∧
  ∀ d ds', ds = d :: ds' → ∀ (i : Nat) (u : V), vs[i]? = some u → ds[i]? = some (PySem.W.maxD d ds') → Q u H
section
variable {X : Cx} {K : Fg} (hk : X.K = K)
include hk
theorem call_sumUK (hc : X.calm = true) : CallR X (.builtin "sum") (rSumU K) := by
  subst hk
  intro pins s σ H vs us Q I r h
  rcases h with h | h
  · exact cr_sum hc pins s σ H vs us Q I r h
  · obtain ⟨a, ns, rfl, hs, q⟩ := h
    obtain ⟨its, rv, hl, _⟩ := I.tuple hs
    rw [Vals.ref1 r]
    exact sum_rawT (I.ok.hd hc) hl rv.ints fun h' tk t' hk => ⟨.int _, H, I.kept hk, ⟨_, rfl⟩, q⟩
theorem call_maxDfK (hc : X.calm = true) (hu : X.A.units + 64 < cLine) : CallRK X (.builtin "max") [Str.ofString "default"] (rMaxDf K) := by
  subst hk
  intro pins s σ H xs zs us ws Q I r rz h
  obtain ⟨a, vs, ds, x, rfl, rfl, hs, rx, ha, hd, hp, h0, h1⟩ := h
  obtain ⟨its, rv, hl, _⟩ := I.list hs
  obtain ⟨as, hR⟩ := RpA.reads I rx hd rv
  obtain ⟨u, rfl, ru⟩ := vals1 rz
  rw [Vals.ref1 r]
  refine PySem.W.max_list_default (I.ok.hd hc) hl.isList hR ha (by omega) (fun e h' tk hk => ⟨x, H, I.kept hk, ru, h0 e⟩) fun y ys i v h' tk bs e hi hr hk => ?_
  subst e
  obtain ⟨u, ruv, hu, hd⟩ := best_at I rx hd rv hi hr hk
  exact ⟨u, H, I.kept hk, ruv, h1 _ _ rfl i u hu hd⟩
end
section
variable {K : Fg} {sa : Option Addr} {δ : List Cell} {P : D → Prop} {ta tk : TA} {te : TE}
theorem cw_sumU {ns : List Int} (p : P (.int ns.sum)) : CW K sa (rSumU K) [.list (ns.map PyData.int)] P := fun m H0 G0 δ E up σ H vs A Q q => .inl (cw_sum p m H0 G0 δ E up σ H vs A Q q)
theorem cw_sumT {ns : List Int} (p : P (.int ns.sum)) : CW K sa (rSumU K) [.tuple (ns.map PyData.int)] P :=
  cw_at (z := .int ns.sum) (fun _ => .int _) p fun G H vs Q s r q => by
    obtain ⟨v, e, rv⟩ := r.one
    obtain ⟨a, xs, e2, h, rx⟩ := rv.tup_inv
    refine .inr ⟨a, ns, by rw [e, e2], ?_, q⟩
    rw [← rx.ints]
    exact sqT_mono s h
theorem we_maxDf (h : WA K sa ta δ fun es => ∃ ds, es = [.list ds] ∧ PySem.W.AlikeAll ds ∧ PyData.hasDictAll ds = false ∧ PyData.depthAll ds ≤ 60 ∧ WA K sa tk δ fun fs => ∃ x, fs = [x] ∧ (ds = [] → P x) ∧ ∀ d ds', ds = d :: ds' → P (PySem.W.maxD d ds')) : WE K sa (tCKw (rMaxDf K) ta tk) δ P := fun m H0 G0 E up σ H A Q q =>
  h m H0 G0 E up σ H A _ fun vs es H1 ⟨ds, e, ha, hd, hp, h1⟩ A1 => h1 m H0 G0 _ (up_and up up_rpA) σ H1 A1 _ fun zs fs H2 ⟨x, e2, p0, p1⟩ ⟨G, a⟩ => by
    subst e e2
    obtain ⟨v, ev, rv⟩ := a.ex.1.2.one
    obtain ⟨z, ez, rz⟩ := a.ex.2.one
    obtain ⟨b, xs, e2, hb, rx⟩ := rv.lst_inv
    refine ⟨b, xs, ds, z, by rw [ev, e2], ez, .inl (.inl (a.gd.gh _ _ hb)), rx.mono a.gd.gh, ha, hd, hp, fun e => q _ _ _ (p0 e) ⟨G, a.same ⟨a.ex.1.1, rz⟩⟩, fun d ds' e i u hu hi => ?_⟩
    obtain ⟨w, hw, rw'⟩ := rx.getV hu
    rw [hi] at hw
    cases hw
    exact q _ _ _ (p1 d ds' e) ⟨G, a.same ⟨a.ex.1.1, rw'⟩⟩
/-- max of whole numbers, with a whole number beside -/
theorem alike_ints (ns : List Int) : PySem.W.AlikeAll (ns.map PyData.int) := by
  constructor
  · intro x hx y hy
    obtain ⟨a, _, rfl⟩ := List.mem_map.mp hx
    obtain ⟨b, _, rfl⟩ := List.mem_map.mp hy
    rfl
  · intro x hx e
    obtain ⟨a, _, rfl⟩ := List.mem_map.mp hx
    cases e
theorem noDict_ints : ∀ ns : List Int, PyData.hasDictAll (ns.map PyData.int) = false
  | [] => rfl
  | n :: ns => by
    rw [List.map_cons]
    simp only [PyData.hasDictAll, PyData.hasDict, noDict_ints ns]
    rfl
theorem depth_ints : ∀ ns : List Int, PyData.depthAll (ns.map PyData.int) ≤ 60
  | [] => by simp [PyData.depthAll]
  | n :: ns => by
    rw [List.map_cons]
    have := depth_ints ns
    simp only [PyData.depthAll, PyData.depth]
    omega
def maxI : List Int → Int → Int
  | [], x => x
  | n :: ns, _ => ns.foldl max n
theorem we_maxDfI (h : WA K sa ta δ fun es => ∃ ns : List Int, es = [.list (ns.map PyData.int)] ∧ WA K sa tk δ fun fs => ∃ x : Int, fs = [.int x] ∧ P (.int (maxI ns x))) : WE K sa (tCKw (rMaxDf K) ta tk) δ P := by
  refine we_maxDf (h.imp ?_)
  rintro es ⟨ns, e, h1⟩
  refine ⟨ns.map PyData.int, e, alike_ints ns, noDict_ints ns, depth_ints ns, h1.imp ?_⟩
  rintro fs ⟨x, e2, p⟩
  refine ⟨.int x, e2, fun e => ?_, fun d ds' e => ?_⟩
  · cases ns with
    | nil => exact p
    | cons n ns => cases e
  · cases ns with
    | nil => cases e
    | cons n ns =>
      cases e
      rw [PySem.W.maxD_ints]
      exact p
theorem best_ints (n : Int) (ns : List Int) : BestD (.int n) (ns.map .int) := ⟨alike_ints (n :: ns), noDict_ints (n :: ns), depth_ints (n :: ns)⟩
theorem cw_maxI {n : Int} {ns : List Int} (p : P (.int (ns.foldl max n))) : CW K sa (rMaxU K) [.list ((n :: ns).map PyData.int)] P := cw_maxD (best_ints n ns) (by rw [PySem.W.maxD_ints]; exact p)
theorem cw_minI {n : Int} {ns : List Int} (p : P (.int (ns.foldl min n))) : CW K sa (rMinU K) [.list ((n :: ns).map PyData.int)] P := cw_minD (best_ints n ns) (by rw [PySem.W.minD_ints]; exact p)
end
section
variable {K : Fg} {sa : Option Addr} {δ : List Cell} {nx : List Cell → Prop} {rt : D → Prop} {bk ct : List Cell → Prop} {ti te : TE}
/-- xs[i] = e, xs one's own -/
theorem ws_setOwn {i : Nat} {ds : List D} (hd : δ[i]? = some (.own ds)) (h : WE K sa te δ fun d => WE K sa ti δ fun e => ∃ (k : Int) (j : Nat), e = .int k ∧ ixN ds.length k = some j ∧ nx (δ.set i (.own (ds.set j d)))) :
    WS K sa (tAsg te (gSub (tVar i) ti rSetL)) ⟨nx, rt, bk, ct⟩ δ := fun H0 G0 E up σ H Dn A R =>
  h true H0 G0 E up σ H A _ fun v d H1 h1 ⟨G1, a1⟩ => by
    obtain ⟨o, e, p, vs, ep, hp, gp, ne, r, hm⟩ := a1.slot hd
    subst ep
    refine ⟨_, e, h1 true H0 G0 _ (up_and up up_rp) σ H1 ⟨G1, a1⟩ _ fun w f H2 ⟨k, j, ef, hj, pp⟩ ⟨G2, a2⟩ => ?_⟩
    subst ef
    obtain ⟨o', e', p', vs', ep', hp', gp', ne', r', hm'⟩ := a2.slot hd
    rw [e] at e'; cases e'; cases ep'
    exact ⟨p, vs', k, j, rfl, a2.ex.2.int_inv, hp', by rw [r'.length]; exact hj, R.nx _ _ _ pp ⟨G2, (a2.same (E' := E) a2.ex.1.1).mut hd e (RpA.set a2.ex.1.2 j r')⟩⟩
end
end Dl

namespace Dl
open PySem PySem.Spec PyProof.Rows L2 DlP
/-! ### promises told of a thing of Lean -/
def spA (K : Fg) {α : Type} (enc : α → List D) (pre : α → Prop) (post : α → D → Prop) : Sp := fun vs H Q _ => ∃ G a, Same G H ∧ RpA K G vs (enc a) ∧ pre a ∧
  ∀ H' G' v d, Same H H' → Same G G' → Same G' H' → (∀ b, H b ≠ none → G b = none → G' b = none) → Rp K G' v d → post a d → Q v H'
section
variable {K : Fg} {sa : Option Addr} {δ : List Cell} {ta tk : TA} {P : D → Prop} {α : Type} {enc : α → List D} {pre : α → Prop} {post : α → D → Prop}
theorem we_callA {E0 : XK} (h : WA K sa ta δ fun ds => ∃ a, ds = enc a ∧ pre a ∧ ∀ d, post a d → P d) : WE K sa (tCall (spA K enc pre post) [] E0 ta) δ P := fun m H0 G0 E up σ H A Q q =>
  h m H0 G0 E up σ H A _ fun vs ds H1 ⟨a, e, p, k⟩ ⟨G, A⟩ => by
    subst e
    show spA K enc pre post (vs ++ []) H1 Q E0
    rw [List.append_nil]
    exact ⟨G, a, A.gd.gh, A.ex.2, p, fun H' G' v d s1 s2 s3 fr r hp => q v d H' (k d hp) ⟨G', A.grow s2 s3 fr (.of s1) (fun z ez => let ⟨c, s, n, e⟩ := (A.gd.sp z ez).1; ⟨c, s, n, s1 _ _ e⟩) ⟨up _ _ s2 A.ex.1, r⟩⟩⟩
theorem we_callAK {E0 : XK} {gV : List V → List V → List V} {gD : List D → List D → List D} (hg : ∀ (G : Hp) (vs zs : List V) (ds es : List D), RpA K G vs ds → RpA K G zs es → RpA K G (gV vs zs) (gD ds es))
    (h : WA K sa ta δ fun ds => WA K sa tk δ fun es => ∃ a, gD ds es = enc a ∧ pre a ∧ ∀ d, post a d → P d) : WE K sa (tCallK (spA K enc pre post) gV E0 ta tk) δ P := fun m H0 G0 E up σ H A Q q =>
  h m H0 G0 E up σ H A _ fun vs ds H1 h1 A1 => h1 m H0 G0 _ (up_and up up_rpA) σ H1 A1 _ fun zs es H2 ⟨a, e, p, k⟩ ⟨G, A⟩ =>
    ⟨G, a, A.gd.gh, by rw [← e]; exact hg _ _ _ _ _ A.ex.1.2 A.ex.2, p, fun H' G' v d s1 s2 s3 fr r hp => q v d H' (k d hp) ⟨G', A.grow s2 s3 fr (.of s1) (fun z ez => let ⟨c, s, n, e⟩ := (A.gd.sp z ez).1; ⟨c, s, n, s1 _ _ e⟩) ⟨up _ _ s2 A.ex.1.1, r⟩⟩⟩
end
theorem ok_fnA {P : Program} {w : World} {K : Fg} {mg : Str → Option Value} {base : Heap} {α : Type} {enc : α → List D} {pre : α → Prop} {post : α → D → Prop} {x qual : Str} {st : Stmt} {f : Addr} {fd : FuncData} {N ps : List Str} {k : Nat} (F : Fun K x qual st f fd) (S : FnScope N ps (defScope st)) (len : ∀ a, (enc a).length = ps.length)
    (hb : ∀ (cdv : Value) (A : Around) (outer : List Env) (s : Shared) (H : Hp) (E : XK), Room k (A.deeper (envOfC qual (defScope st) s.heap.objs.size f cdv)) → (A.deeper (envOfC qual (defScope st) s.heap.objs.size f cdv)).guards = some [] →
      ∃ t, PSs (cxOf CX0 P w K mg base N qual (defScope st) f cdv A outer s H E).nox (defBody st) t ∧ ∀ a, pre a → WS K none t ⟨fun _ => post a .none, post a, fun _ => False, fun _ => False⟩ ((enc a).map Cell.dat ++ List.replicate (N.length - ps.length) Cell.no)) :
    FnG P w K mg base CX0 (k + 1) f fd ps (spA K enc pre post) := by
  refine fun_okG F S (fun vs H Q E h => ?_) (fun cdv A outer s H vs Q E hr hgd h => ?_)
  · obtain ⟨G, a, _, r, p, _⟩ := h
    rw [r.length]; exact len a
  · obtain ⟨G, a, sm, r, p, q⟩ := h
    obtain ⟨t, ht, hw⟩ := hb cdv A outer s H E hr hgd
    have hl : vs.length = ps.length := by rw [r.length]; exact len a
    refine ⟨t, ht.nox, hw a p H G (fun _ => True) up_true _ H _ ⟨G, ⟨Same.refl _, sm, fun _ _ h => h, .refl _ _, fun _ e => nomatch e⟩, ?_, ?_, fun _ _ _ _ _ _ _ h1 _ _ _ _ f1 _ => no_foot h1 f1, trivial⟩ ⟨?_, fun _ _ _ h => h.elim, fun _ _ _ h => h.elim, ?_⟩⟩
    · unfold L2.start
      rw [List.length_append, List.length_append, List.length_map, List.length_map, List.length_replicate, List.length_replicate, r.length, hl.symm, r.length]
    · unfold L2.start
      rw [hl]
      exact rpA_cells r _
    · intro δ σ H' pn ⟨G', a⟩
      exact q H' G' .non .none (fun b o e => a.gd.hh b o (fun z => nomatch z) e) a.gd.g0 a.gd.gh a.gd.fr .non pn
    · intro δ v d σ H' pr ⟨G', a⟩
      exact q H' G' v d (fun b o e => a.gd.hh b o (fun z => nomatch z) e) a.gd.g0 a.gd.gh a.gd.fr a.ex.2 pr
/-! ### comprehensions over things of Lean -/
section
variable {K : Fg} {sa : Option Addr} {δ : List Cell} {te : TE} {tt : TT} {α : Type}
theorem fm_mapA {enc f : α → D} {as : List α} {es : List D} (h : FM (fun d o => ∃ a ∈ as, d = enc a ∧ o = some (f a)) (as.map enc) es) (hi : ∀ a ∈ as, ∀ b ∈ as, enc a = enc b → f a = f b) : es = as.map f := by
  have key : ∀ (ds es : List D), FM (fun d o => ∃ a ∈ as, d = enc a ∧ o = some (f a)) ds es → ∀ bs : List α, (∀ b ∈ bs, b ∈ as) → ds = bs.map enc → es = bs.map f := by
    intro ds es h
    induction h with
    | nil => intro bs _ e; cases bs with | nil => rfl | cons _ _ => cases e
    | @yes d e ds es _ r ih =>
      intro bs hb eb
      obtain ⟨a, ha, rfl, e1⟩ := r
      cases e1
      have hne : bs ≠ [] := fun z => by subst z; simp at eb
      obtain ⟨bs', b, rfl⟩ : ∃ bs' b, bs = bs' ++ [b] := ⟨bs.dropLast, bs.getLast hne, (List.dropLast_concat_getLast hne).symm⟩
      rw [List.map_append, List.map_cons, List.map_nil] at eb
      obtain ⟨e1, e2⟩ := List.append_inj' eb rfl
      rw [ih bs' (fun x hx => hb x (by simp [hx])) e1, List.map_append, List.map_cons, List.map_nil]
      have : f a = f b := hi a ha b (hb b (by simp)) (by simpa using e2)
      rw [this]
    | no _ r _ => obtain ⟨_, _, _, e⟩ := r; cases e
  exact key _ _ h as (fun _ h => h) rfl
theorem wf_mapA {wi : TI} {g : TG} {vs : List Nat} {P : List D → Prop} (enc f : α → D) (h : WJ K sa false wi δ fun ds => ∃ as : List α, ds = as.map enc ∧ as.length ≤ sizeLine ∧ (∀ a ∈ as, WGv K sa vs g (wipeC δ vs) (enc a) fun δ2 => WE K sa te δ2 fun e => e = f a) ∧ (∀ a ∈ as, ∀ b ∈ as, enc a = enc b → f a = f b) ∧ P (as.map f)) :
    WF K sa (tLc wi g tYes te vs) δ P := by
  refine wf_lc (fun m H0 G0 E up σ H A R q => h m H0 G0 E up σ H A R fun J ds H1 G1 Stay ⟨as, e, hz, hb, hi, p⟩ => ?_)
  subst e
  refine q J (as.map enc) H1 G1 Stay ⟨by rw [List.length_map]; exact hz, fun d o => ∃ a ∈ as, d = enc a ∧ o = some (f a), fun i d hd => ?_, fun es fm => by rw [fm_mapA fm hi]; exact p⟩
  obtain ⟨a, ha, rfl⟩ := get_map hd
  have ha := List.mem_of_getElem? ha
  refine fun m H0 G0 E up σ H v A Q q => hb a ha m H0 G0 E up σ H v A Q fun δ2 σ2 w => q δ2 σ2 (wt_yes ⟨fun _ => w.imp fun e he => ⟨a, ha, rfl, by rw [he]⟩, fun z => by cases z⟩)
end
section
variable {K : Fg} {sa : Option Addr} {δ : List Cell} {P : D → Prop}
theorem ow_eqUB {i j : Bool} (p : P (.bool (PyData.eqv (.bool i) (.bool j)))) : OW K sa (rEqU K) (.bool i) (.bool j) P := ow_eqUD rfl rfl p
theorem ow_neUB {i j : Bool} (p : P (.bool (!PyData.eqv (.bool i) (.bool j)))) : OW K sa (rNeU K) (.bool i) (.bool j) P := ow_neUD rfl rfl p
theorem ws_setNil {nx : List Cell → Prop} {rt : D → Prop} {bk ct : List Cell → Prop} {i : Nat} (h : nx (δ.set i (.own []))) : WS K sa (tAsg (tLst tNil) (gName i)) ⟨nx, rt, bk, ct⟩ δ := ws_setF (wf_lst (wa_nil ⟨szl (by simp), h⟩))
end
end Dl

namespace Dl
open PySem PySem.Spec PyProof.Rows L2 DlP
/-! ### a tuple times any number -/
theorem tuple_mulZ (l : Addr) (items : Array Value) (n : Nat) (dd : Option Addr) (sl : Array (Option Value)) (x : Int) (u : Tok) (c0 : (decide (x < -(2 ^ 63)) || decide (x ≥ 2 ^ 63)) = false) (c1 : (items.isEmpty || x == 1) = false) (c2 : (decide (x ≤ 0) || items.isEmpty) = true) :
    Meets (Builtin.«tuple.__mul__» ⟨[.ref l, .int x u], []⟩) (fun _ R s => s.heap.get? l = some { cls := .type "tuple", dict := dd, data := .seq items n, slots := sl } ∧
      R (.ok (.ret (Value.ref s.heap.objs.size))) { s with heap := s.heap.push { cls := Value.type "tuple", data := Data.seq #[] }, toks := s.toks }) :=
  .of_wp fun prog w A R s h => by
    obtain ⟨hp, g, d, tk, os⟩ := s
    obtain ⟨hl, h⟩ := h
    have f1 := AutoSeq1.idx_int
    wp_walk using wpAny_loadPart' hl
    repeat (first
      | (refine wpAny_ite_false (decide_eq_false (by rw [c0]; exact Bool.false_ne_true)) ?_; wp_walk using wpAny_loadPart' hl)
      | (refine wpAny_ite_false (decide_eq_false (by rw [c1]; exact Bool.false_ne_true)) ?_; wp_walk using wpAny_loadPart' hl)
      | (refine wpAny_ite_true (decide_eq_true (by rw [c2])) ?_; wp_walk using wpAny_loadPart' hl))
    all_goals first | exact ⟨_, rfl, h⟩ | skip
theorem tuple_mulO (l : Addr) (items : Array Value) (n : Nat) (dd : Option Addr) (sl : Array (Option Value)) (x : Int) (u : Tok) (c0 : (decide (x < -(2 ^ 63)) || decide (x ≥ 2 ^ 63)) = false) (c1 : (items.isEmpty || x == 1) = true) :
    Meets (Builtin.«tuple.__mul__» ⟨[.ref l, .int x u], []⟩) (fun _ R s => s.heap.get? l = some { cls := .type "tuple", dict := dd, data := .seq items n, slots := sl } ∧
      R (.ok (.ret (Value.ref l))) s) :=
  .of_wp fun prog w A R s h => by
    obtain ⟨hp, g, d, tk, os⟩ := s
    obtain ⟨hl, h⟩ := h
    have f1 := AutoSeq1.idx_int
    wp_walk using wpAny_loadPart' hl
    repeat (first
      | (refine wpAny_ite_false (decide_eq_false (by rw [c0]; exact Bool.false_ne_true)) ?_; wp_walk using wpAny_loadPart' hl)
      | (refine wpAny_ite_true (decide_eq_true (by rw [c1])) ?_; wp_walk using wpAny_loadPart' hl))
    all_goals first | exact ⟨_, rfl, h⟩ | skip
def rRepA (K : Fg) : R2 := fun x y H Q => ∃ l k xs, x = .ref l ∧ y = .int k ∧ SqT K H l xs ∧ xs ≠ [] ∧ -1000 ≤ k ∧ k ≤ 1000 ∧ xs.length ≤ 1000 ∧ (k = 1 → Q (.ref l) H) ∧ (k ≠ 1 → ∀ p, H p = none → Q (.ref p) (upd H p (.tup (List.replicate k.toNat xs).flatten)))
theorem op_repAK {X : Cx} {K : Fg} (hK : X.K = K) : OpR X (binaryOp .Mult) (rRepA K) := by
  subst hK
  intro pins s σ H x y v u Q I rx ry h
  obtain ⟨l, k, xs, rfl, rfl, hT, hne, h1, h2, hz, q1, q2⟩ := h
  by_cases hk2 : 2 ≤ k
  · exact op_repT pins s σ H _ _ v u Q I rx ry ⟨l, k, xs, rfl, rfl, hT, hne, hk2, h2, hz, q2 (by omega)⟩
  cases rx
  obtain ⟨t, rfl⟩ := ry
  obtain ⟨its, r, ⟨⟨cls, dd, data, sl⟩, ho, hc, n, hd⟩, hs⟩ := I.tuple hT
  simp only at hc hd
  subst hc hd
  have hle : its.length = xs.length := r.length.symm
  have hn : its ≠ [] := fun e => hne (by
    rw [e] at hle
    exact List.eq_nil_of_length_eq_zero hle.symm)
  have hi : its.toArray.isEmpty = false := by
    cases its with
    | nil => exact absurd rfl hn
    | cons a b => rfl
  have c0 : (decide (k < -(2 ^ 63)) || decide (k ≥ 2 ^ 63)) = false := by
    rw [decide_eq_false (by omega), decide_eq_false (by omega)] <;> rfl
  by_cases e1 : k = 1
  · have c1 : (its.toArray.isEmpty || k == 1) = true := by
      rw [hi, Bool.false_or, e1]
      rfl
    refine wpAny_binaryOp_repeat_ref (T := "tuple") (U := "int") (by decide) ⟨_, ho, rfl⟩ (fun s' => typeIs_int s' k t) noFill_tuple_mul F.fills_int_mul F.slot_int_rmul repeat_tuple F.slot_int_index.lookup
      (call_meets F.slot_int_rmul (typeIs_int s k t) F.entry_int_rmul (F.args_int_rmul_2 _ _) (int_rmul_tuple k t l its.toArray n dd sl)
        ⟨ho, rfl, ⟨_, ho, rfl⟩, call_meets F.slot_tuple_mul ⟨_, ho, rfl⟩ F.entry_tuple_mul (F.args_tuple_mul_2 _ _) (tuple_mulO l its.toArray n dd sl k t c0 c1) ⟨ho, ?_⟩⟩)
    exact ⟨.ref l, H, I, rfl, q1 e1⟩
  · have c1 : (its.toArray.isEmpty || k == 1) = false := by
      rw [hi, Bool.false_or]
      exact beq_eq_false_iff_ne.mpr (by omega)
    have c2 : (decide (k ≤ 0) || its.toArray.isEmpty) = true := by
      rw [hi, Bool.or_false]
      exact decide_eq_true (by omega)
    have ek : k.toNat = 0 := by omega
    have q := q2 e1 s.heap.objs.size (I.hok.fresh (Nat.le_refl _))
    rw [ek] at q
    refine wpAny_binaryOp_repeat_ref (T := "tuple") (U := "int") (by decide) ⟨_, ho, rfl⟩ (fun s' => typeIs_int s' k t) noFill_tuple_mul F.fills_int_mul F.slot_int_rmul repeat_tuple F.slot_int_index.lookup
      (call_meets F.slot_int_rmul (typeIs_int s k t) F.entry_int_rmul (F.args_int_rmul_2 _ _) (int_rmul_tuple k t l its.toArray n dd sl)
        ⟨ho, rfl, ⟨_, ho, rfl⟩, call_meets F.slot_tuple_mul ⟨_, ho, rfl⟩ F.entry_tuple_mul (F.args_tuple_mul_2 _ _) (tuple_mulZ l its.toArray n dd sl k t c0 c1 c2) ⟨ho, ?_⟩⟩)
    refine ⟨.ref s.heap.objs.size, _, I.laid (t' := s.toks) (o := .tup []) (fun b ob q => Heap.get?_push_of_some _ q) (Nat.le_refl _) ?_, rfl, q⟩
    exact ⟨by show 0 ≤ sizeLine; omega, _, .nil, IsTup.new _ _⟩
section
variable {K : Fg} {sa : Option Addr} {δ : List Cell} {ta tb tc te : TE} {nx : List Cell → Prop} {rt : D → Prop} {bk ct : List Cell → Prop}
theorem ow_repA {P : D → Prop} {ds : List D} {k : Int} (h0 : ds ≠ []) (hk : -1000 ≤ k ∧ k ≤ 1000) (hl : ds.length ≤ 1000) (p : P (.tuple (List.replicate k.toNat ds).flatten)) : OW K sa (rRepA K) (.tuple ds) (.int k) P := fun m H0 G0 δ E up σ H v w ⟨G, a⟩ Q q => by
  obtain ⟨b, xs, e, h, rx⟩ := a.ex.2.1.tup_is
  have ew := a.ex.2.2.int_inv
  refine ⟨b, k, xs, e, ew, .inl (.inl (a.gd.gh _ _ h)), ?_, hk.1, hk.2, by rw [rx.length]; exact hl, fun e1 => ?_, fun _ x hx => at_newTup up ⟨G, a.same ⟨a.ex.1, rpA_flat rx _⟩⟩ p q hx⟩
  · intro z
    subst z
    cases rx
    exact h0 rfl
  · subst e1
    rw [show (1 : Int).toNat = 1 from rfl, List.replicate_one, List.flatten_cons, List.flatten_nil, List.append_nil] at p
    exact q _ _ _ p ⟨G, a.same ⟨a.ex.1, .tup h rx⟩⟩
/-- so many noughts -/
theorem ow_rep0 {P : D → Prop} {k : Int} {x : D} (hk : -1000 ≤ k ∧ k ≤ 1000) (p : P (.tuple (List.replicate k.toNat x))) : OW K sa (rRepA K) (.tuple [x]) (.int k) P := ow_repA (by simp) hk (by simp) (by rw [replI]; exact p)
/-- a new object that no data lean on -/
theorem AtG.beside {m : Bool} {H0 G0 G : Hp} {E : Hp → Prop} {σ : L2.St} {H : Hp} {x : Addr} {o : HO} (A : AtG K m sa H0 G0 δ E σ G H) (hx : H x = none) : AtG K m sa H0 G0 δ E σ G (upd H x o) := by
  refine A.poke ?_ ?_ ?_ ?_
  · cases z : G x with
    | none => rfl
    | some u => rw [A.gd.gh x u z] at hx; cases hx
  · cases z : H0 x with
    | none => rfl
    | some o => exact absurd hx (A.gd.live (by rw [z]; simp))
  · intro z
    obtain ⟨c, s, n, q⟩ := (A.gd.sp x z).1
    rw [hx] at q; cases q
  · exact A.lone hx
theorem lone_set {H : Hp} {i : Nat} {σ : L2.St} {p : Addr} {c : Cell} {o : Option V} (hj : Lone H δ σ p) (hq : quiet c) : Lone H (δ.set i c) (σ.set i o) p := fun k c' o' hk ho f => by
  rcases set_at hk with ⟨_, e, _⟩ | ⟨n, k1⟩
  · subst e; exact quiet_foot hq f
  · rcases set_at ho with ⟨e, _, _⟩ | ⟨_, k2⟩
    · exact n e
    · exact hj k c' o' k1 k2 f
theorem same_upd {H : Hp} {x : Addr} {u : HO} (hx : H x = none) : Same H (upd H x u) := fun b o e => by rw [upd_ne (ne_of_none e hx)]; exact e
/-- x, y = a, [..] by way of a tuple: the second a list of one's own -/
theorem ws_tup2F {i j : Nat} (h : WE K sa ta δ fun d => WF K sa tb δ fun es => nx ((δ.set i (.dat d)).set j (.own es))) : WS K sa (tAsg (tTup (tCons ta (tCons tb tNil))) (gTup K 2 (gCons (gName i) (gCons (gName j) gNil)))) ⟨nx, rt, bk, ct⟩ δ := fun H0 G0 E up σ H Dn A R =>
  h true H0 G0 E up σ H A _ fun v d H1 h1 A1 => h1 true H0 G0 _ (up_and up up_rp) σ H1 A1 _ fun p vs es H2 pp ⟨G, a⟩ hp h0 hs hj => by
    refine ⟨szl (by simp), fun x hx => ?_⟩
    have b := a.beside (o := .tup [v, .ref p]) hx
    have hp' : (upd H2 x (.tup [v, .ref p])) p = some (.lst vs) := by rw [upd_ne (ne_of_none hp hx)]; exact hp
    refine ⟨x, _, rfl, .inl (.inl upd_same), rfl, v, _, rfl, .ref p, _, rfl, rfl, R.nx _ _ _ pp ⟨G, AtG.setOwn (E := E) (p := p) (vs := vs) ((b.same (E' := fun G => (E G ∧ G p = none ∧ RpA K G vs es) ∧ Rp K G v d) ⟨⟨b.ex.1.1, b.ex.2⟩, b.ex.1.2⟩).set i) j hp' h0 hs (lone_set (a.lone_ex hj (.of (same_upd hx))) trivial)⟩⟩
/-- x, y, z = a, b, [..] -/
theorem ws_tup3F {i j k : Nat} (h : WE K sa ta δ fun d => WE K sa tb δ fun e => WF K sa tc δ fun es => nx (((δ.set i (.dat d)).set j (.dat e)).set k (.own es))) : WS K sa (tAsg (tTup (tCons ta (tCons tb (tCons tc tNil)))) (gTup K 3 (gCons (gName i) (gCons (gName j) (gCons (gName k) gNil))))) ⟨nx, rt, bk, ct⟩ δ := fun H0 G0 E up σ H Dn A R =>
  h true H0 G0 E up σ H A _ fun v d H1 h1 A1 => h1 true H0 G0 _ (up_and up up_rp) σ H1 A1 _ fun w e H2 h2 A2 => h2 true H0 G0 _ (up_and (up_and up up_rp) up_rp) σ H2 A2 _ fun p vs es H3 pp ⟨G, a⟩ hp h0 hs hj => by
    refine ⟨szl (by simp), fun x hx => ?_⟩
    have b := a.beside (o := .tup [v, w, .ref p]) hx
    have hp' : (upd H3 x (.tup [v, w, .ref p])) p = some (.lst vs) := by rw [upd_ne (ne_of_none hp hx)]; exact hp
    have b1 := (b.same (E' := fun G => ((E G ∧ G p = none ∧ RpA K G vs es) ∧ Rp K G w e) ∧ Rp K G v d) ⟨⟨⟨b.ex.1.1.1, b.ex.2⟩, b.ex.1.2⟩, b.ex.1.1.2⟩).set i
    have b2 := b1.set j
    refine ⟨x, _, rfl, .inl (.inl upd_same), rfl, v, _, rfl, w, _, rfl, .ref p, _, rfl, rfl, R.nx _ _ _ pp ⟨G, AtG.setOwn (E := E) (p := p) (vs := vs) b2 k hp' h0 hs (lone_set (lone_set (a.lone_ex hj (.of (same_upd hx))) trivial) trivial)⟩⟩
/-- x, y, z = a, b, [..], local names -/
theorem ws_par3F {i j k : Nat} (h : WE K sa ta δ fun d => WE K sa tb δ fun e => WF K sa tc δ fun es => nx (((δ.set i (.dat d)).set j (.dat e)).set k (.own es))) : WS K sa (tPar3 i j k (tCons ta (tCons tb (tCons tc tNil)))) ⟨nx, rt, bk, ct⟩ δ := fun H0 G0 E up σ H Dn A R =>
  h true H0 G0 E up σ H A _ fun v d H1 h1 A1 => h1 true H0 G0 _ (up_and up up_rp) σ H1 A1 _ fun w e H2 h2 A2 => h2 true H0 G0 _ (up_and (up_and up up_rp) up_rp) σ H2 A2 _ fun p vs es H3 pp ⟨G, b⟩ hp h0 hs hj => by
    have b1 := (b.same (E' := fun G => ((E G ∧ G p = none ∧ RpA K G vs es) ∧ Rp K G w e) ∧ Rp K G v d) ⟨⟨⟨b.ex.1.1.1, b.ex.2⟩, b.ex.1.2⟩, b.ex.1.1.2⟩).set i
    have b2 := b1.set j
    exact ⟨v, w, .ref p, rfl, R.nx _ _ _ pp ⟨G, AtG.setOwn (E := E) (p := p) (vs := vs) b2 k hp h0 hs (lone_set (lone_set hj trivial) trivial)⟩⟩
theorem ws_par3 {i j k : Nat} (h : WE K sa ta δ fun d => WE K sa tb δ fun e => WE K sa tc δ fun f => nx (((δ.set i (.dat d)).set j (.dat e)).set k (.dat f))) : WS K sa (tPar3 i j k (tCons ta (tCons tb (tCons tc tNil)))) ⟨nx, rt, bk, ct⟩ δ := fun H0 G0 E up σ H Dn A R =>
  h true H0 G0 E up σ H A _ fun v d H1 h1 A1 => h1 true H0 G0 _ (up_and up up_rp) σ H1 A1 _ fun w e H2 h2 A2 => h2 true H0 G0 _ (up_and (up_and up up_rp) up_rp) σ H2 A2 _ fun z f H3 pp ⟨G, b⟩ => by
    have b1 := (b.same (E' := fun G => ((E G ∧ Rp K G z f) ∧ Rp K G w e) ∧ Rp K G v d) ⟨⟨⟨b.ex.1.1.1, b.ex.2⟩, b.ex.1.2⟩, b.ex.1.1.2⟩).set i
    exact ⟨v, w, z, rfl, R.nx _ _ _ pp ⟨G, (b1.set j).set k⟩⟩
/-- what stood in a slot is not asked any more -/
theorem AtG.dropped {m : Bool} {H0 G0 G : Hp} {E : Hp → Prop} {σ : L2.St} {H : Hp} (A : AtG K m sa H0 G0 δ E σ G H) (v : Nat) : AtG K m sa H0 G0 (δ.set v .no) E σ G H := A.recell v fun c o _ _ => ⟨trivial, fun b f => f.elim⟩
theorem ws_drop {t : TS} {D' : DE} (i : Nat) (h : WS K sa t D' (δ.set i .no)) : WS K sa t D' δ := fun H0 G0 E up σ H Dn ⟨G, a⟩ R => h H0 G0 E up σ H Dn ⟨G, a.dropped i⟩ R
theorem AtG.cleared {m : Bool} {H0 G0 G : Hp} {E : Hp → Prop} {σ : L2.St} {H : Hp} {c : Cell} {cs : List Cell} (A : AtG K m sa H0 G0 (c :: cs) E σ G H) : AtG K m sa H0 G0 (c :: List.replicate cs.length .no) E σ G H := by
  refine ⟨A.gd, by rw [A.len, List.length_cons, List.length_cons, List.length_replicate], fun j d o h1 h2 => ?_, fun j k d1 d2 o1 o2 hjk h1 h2 h3 h4 x f1 f2 => ?_, A.ex⟩
  · cases j with
    | zero => cases h1; exact A.cell 0 c o rfl h2
    | succ j =>
      rw [List.getElem?_cons_succ, List.getElem?_replicate] at h1
      split at h1
      · cases h1; trivial
      · cases h1
  · have key : ∀ {j : Nat} {d : Cell} {o : Option V}, (c :: List.replicate cs.length Cell.no)[j]? = some d → foot H o d x → j = 0 := fun {j d o} h f => by
      cases j with
      | zero => rfl
      | succ j =>
        rw [List.getElem?_cons_succ, List.getElem?_replicate] at h
        split at h
        · cases h; exact f.elim
        · cases h
    rw [key h1 f1, key h2 f2] at hjk
    exact hjk rfl
theorem ws_clear {t : TS} {D' : DE} {c : Cell} {cs : List Cell} {n : Nat} (hn : cs.length = n) (h : WS K sa t D' (c :: List.replicate n .no)) : WS K sa t D' (c :: cs) := fun H0 G0 E up σ H Dn ⟨G, a⟩ R => h H0 G0 E up σ H Dn ⟨G, by rw [← hn]; exact a.cleared⟩ R
theorem AtG.cleared2 {m : Bool} {H0 G0 G : Hp} {E : Hp → Prop} {σ : L2.St} {H : Hp} {a b : D} {cs : List Cell} (A : AtG K m sa H0 G0 (.dat a :: .dat b :: cs) E σ G H) : AtG K m sa H0 G0 (.dat a :: .dat b :: List.replicate cs.length .no) E σ G H := by
  refine ⟨A.gd, by rw [A.len, List.length_cons, List.length_cons, List.length_cons, List.length_cons, List.length_replicate], fun j d o h1 h2 => ?_, fun j k d1 d2 o1 o2 hjk h1 h2 h3 h4 x f1 f2 => ?_, A.ex⟩
  · match j with
    | 0 => cases h1; exact A.cell 0 _ o rfl h2
    | 1 => cases h1; exact A.cell 1 _ o rfl h2
    | j + 2 =>
      rw [List.getElem?_cons_succ, List.getElem?_cons_succ, List.getElem?_replicate] at h1
      split at h1
      · cases h1; trivial
      · cases h1
  · match j with
    | 0 => cases h1; exact f1
    | 1 => cases h1; exact f1
    | j + 2 =>
      rw [List.getElem?_cons_succ, List.getElem?_cons_succ, List.getElem?_replicate] at h1
      split at h1
      · cases h1; exact f1
      · cases h1
theorem ws_clear2 {t : TS} {D' : DE} {a b : D} {cs : List Cell} {n : Nat} (hn : cs.length = n) (h : WS K sa t D' (.dat a :: .dat b :: List.replicate n .no)) : WS K sa t D' (.dat a :: .dat b :: cs) := fun H0 G0 E up σ H Dn ⟨G, A⟩ R => h H0 G0 E up σ H Dn ⟨G, by rw [← hn]; exact A.cleared2⟩ R
theorem noOwn2 {a b : D} {n : Nat} : noOwn (.dat a :: .dat b :: List.replicate n .no) := fun i c e => by
  match i with
  | 0 => cases e; trivial
  | 1 => cases e; trivial
  | i + 2 =>
    rw [List.getElem?_cons_succ, List.getElem?_cons_succ, List.getElem?_replicate] at e
    split at e
    · cases e; trivial
    · cases e
theorem len_tail {α : Type} {cs : List α} {n : Nat} (h : cs.length = n + 1) : ∃ c cs', cs = c :: cs' ∧ cs'.length = n := by
  cases cs with
  | nil => cases h
  | cons c cs => exact ⟨c, cs, rfl, by simpa using h⟩
/-- x, y, z = a tuple of three -/
theorem wg_three {i j k : Nat} {d e f : D} {P : List Cell → Prop} (p : P (((δ.set i (.dat d)).set j (.dat e)).set k (.dat f))) : WG K sa (gTup K 3 (gCons (gName i) (gCons (gName j) (gCons (gName k) gNil)))) δ (.tuple [d, e, f]) P := fun m H0 G0 E up σ H v ⟨G, a⟩ Q q => by
  obtain ⟨b, xs, ev, hs, rx⟩ := a.ex.2.tup_inv
  cases rx with
  | cons r1 rx =>
    obtain ⟨v2, v3, ex, r2, r3⟩ := rx.two
    subst ex
    exact ⟨b, _, ev, sqT_mono a.gd.gh hs, rfl, _, _, rfl, v2, _, rfl, v3, _, rfl, rfl, q _ _ p ⟨G, (((a.same (E' := fun G => ((E G ∧ Rp K G v3 f) ∧ Rp K G v2 e) ∧ Rp K G _ d) ⟨⟨⟨a.ex.1, r3⟩, r2⟩, r1⟩).set i).set j).set k⟩⟩
end
end Dl

namespace Dl
open PySem PySem.Spec PyProof.Rows L2 DlP
/-! ### comprehensions with two fors -/
theorem Gd.trans {sa : Option Addr} {H0 G0 G H G' H' : Hp} (a : Gd sa H0 G0 G H) (b : Gd sa H G G' H') : Gd sa H0 G0 G' H' :=
  ⟨a.g0.trans b.g0, b.gh, fun z h1 h2 => b.fr z (a.live h1) (a.fr z h1 h2), a.hh.trans b.hh, fun z ez => ⟨(b.sp z ez).1, (a.sp z ez).2⟩⟩
theorem AtG.rebase {K : Fg} {sa : Option Addr} {H0 G0 G H G' H' : Hp} {δ : List Cell} {E : Hp → Prop} {σ : L2.St} (a : Gd sa H0 G0 G H) (b : AtG K false sa H G δ E σ G' H') : AtG K false sa H0 G0 δ E σ G' H' :=
  ⟨a.trans b.gd, b.len, fun i c o h1 h2 => cell_false (b.cell i c o h1 h2), b.dis, b.ex⟩
theorem noOwn_set {δ : List Cell} (h : noOwn δ) (v : Nat) : noOwn (δ.set v .no) := fun i c e => by
  rcases set_at e with ⟨_, e, _⟩ | ⟨_, k⟩
  · subst e; trivial
  · exact h i c k
theorem noOwn_wipe {δ : List Cell} (h : noOwn δ) : ∀ vs, noOwn (wipeC δ vs)
  | [] => h
  | v :: vs => noOwn_set (noOwn_wipe h vs) v
theorem wf_lc2 {K : Fg} {sa : Option Addr} {δ : List Cell} {te : TE} {wi wi1 : TI} {g g1 : TG} {vs vs1 : List Nat} {P : List D → Prop} (F : D → List D) (h : WJ K sa false wi δ fun ds =>
      (∀ (i : Nat) (d : D), ds[i]? = some d → WGv K sa vs g (wipeC δ vs) d fun δ2 => noOwn δ2 ∧ WJ K sa true wi1 δ2 fun es => ∃ f1 : D → D, F d = es.map f1 ∧
        ∀ (j : Nat) (e : D), es[j]? = some e → WGv K sa vs1 g1 (wipeC δ2 vs1) e fun δ3 => WE K sa te δ3 fun r => r = f1 e) ∧ (ds.flatMap F).length ≤ sizeLine ∧ P (ds.flatMap F)) :
    WF K sa (tLc2 wi g tYes wi1 g1 tYes te vs vs1) δ P := fun m H0 G0 E up σ H A Q q =>
  h m H0 G0 E up σ H A _ fun J ds H1 G1 Stay ⟨step, hz, done⟩ a I sx ss => fun Dl hD => by
    have hs : sa ≠ some Dl := fun z => by
      obtain ⟨c, s, n, e⟩ := (a.gd.sp Dl z).1
      rw [hD] at e; cases e
    have own1 := a.lone hD
    have aw := a.base.wiped vs
    have own2 := aw.lone hD
    have gD : G1 Dl = none := by
      cases z : G1 Dl with
      | none => rfl
      | some u => rw [a.gd.gh Dl u z] at hD; cases hD
    have hsz : ∀ i, i < ds.length → ∀ (d : D), ds[i]? = some d → ((ds.take i).flatMap F).length + (F d).length ≤ sizeLine := fun i hi d hd => by
      refine Nat.le_trans ?_ hz
      have e : ds = ds.take i ++ d :: ds.drop (i + 1) := by
        have := List.take_append_drop i ds
        rw [List.drop_eq_getElem_cons hi] at this
        have hd' : ds[i] = d := by rw [List.getElem?_eq_getElem hi] at hd; exact Option.some.inj hd
        rw [hd'] at this
        exact this.symm
      have e2 : (ds.flatMap F).length = ((ds.take i).flatMap F).length + ((F d).length + ((ds.drop (i + 1)).flatMap F).length) := by
        conv => lhs; rw [e]
        rw [List.flatMap_append, List.flatMap_cons, List.length_append, List.length_append]
      omega
    refine ⟨fun i m H' => m = ds.length - i ∧ i ≤ ds.length ∧ ∃ G' acc, AtG K false sa H1 G1 (wipeC δ vs) E (wipe σ vs) G' H' ∧ G' Dl = none ∧ H' Dl = some (.lst acc) ∧ RpA K G' acc ((ds.take i).flatMap F),
      ⟨ds.length, by simp, Nat.zero_le _, G1, [], aw.poke gD hD hs own2, gD, upd_same, by rw [List.take_zero]; exact .nil⟩, ?_⟩
    rintro i m' H' ⟨rfl, hi, G', acc, a', gD', hD', ra⟩
    have st : Stay H' := sx H' a'.gd.hh
    by_cases hlt : i < ds.length
    · refine .inr ⟨I.go i H' hlt st, fun H'' => ∃ G'' acc, AtG K false sa H1 G1 (wipeC δ vs) E (wipe σ vs) G'' H'' ∧ G'' Dl = none ∧ H'' Dl = some (.lst acc) ∧ RpA K G'' acc ((ds.take (i + 1)).flatMap F), fun H'' hN => ⟨ds.length - (i + 1), by omega, rfl, hlt, hN⟩, fun x H'' y => ?_⟩
      obtain ⟨d, G'', hd, sG, sH, fr, a''⟩ := a'.came I up a'.gd.g0 hlt st y
      have gD'' : G'' Dl = none := fr Dl (by rw [hD']; simp) gD'
      have hD'' : H'' Dl = some (.lst acc) := sH _ _ hD'
      have etk : (ds.take (i + 1)).flatMap F = (ds.take i).flatMap F ++ F d := by
        rw [List.take_add_one, hd, List.flatMap_append]
        simp
      have room := hsz i hlt d hd
      have a2 : AtG K false sa H1 G1 (wipeC δ vs) E (wipe σ vs) G'' H'' := a''.same (E' := E) a''.ex.1
      refine step i _ hd false H'' G'' E up (wipe σ vs) H'' x ⟨G'', a''.base⟩ _ fun δ2 σ2 ⟨no2, w⟩ A2 ew => ⟨by rw [ew, wipe_wipe], ?_⟩
      unfold tYes
      refine iteT ?_
      refine w false H'' G'' E up σ2 H'' A2 _ fun J1 es1 H4 G4 Stay1 ⟨f1, eF, step1⟩ a4 I1 sx1 ss1 => ?_
      have len1 : es1.length = (F d).length := by rw [eF, List.length_map]
      have b4 : AtG K false sa H1 G1 (wipeC δ2 vs1) E (wipe σ2 vs1) G4 H4 := (AtG.rebase a2.gd a4).wiped vs1
      have c4 : AtG K false sa H1 G1 (wipeC δ vs) E (wipe σ vs) G4 H4 := a2.grow a4.gd.g0 a4.gd.gh a4.gd.fr a4.gd.hh (fun z ez => (a4.gd.sp z ez).1) (up _ _ a4.gd.g0 a2.ex)
      have g4 : G4 Dl = none := a4.gd.fr Dl (by rw [hD'']; simp) gD''
      have h4 : H4 Dl = some (.lst acc) := a4.gd.hh Dl _ hs hD''
      have no3 : ∀ {H : Hp}, Lone H (wipeC δ2 vs1) (wipe σ2 vs1) Dl := fun {H} j c o hj _ f => quiet_foot (noOwn_wipe no2 vs1 j c hj) f
      refine ⟨fun j k H' => k = es1.length - j ∧ j ≤ es1.length ∧ ∃ G5 acc', AtG K false sa H1 G1 (wipeC δ2 vs1) E (wipe σ2 vs1) G5 H' ∧ AtG K false sa H1 G1 (wipeC δ vs) E (wipe σ vs) G5 H' ∧ Same G4 G5 ∧ G5 Dl = none ∧ H' Dl = some (.lst acc') ∧ RpA K G5 acc' ((ds.take i).flatMap F ++ (es1.take j).map f1),
        ⟨es1.length, by simp, Nat.zero_le _, G4, acc, b4, c4, Same.refl _, g4, h4, by rw [List.take_zero, List.map_nil, List.append_nil]; exact ra.mono (sG.trans a4.gd.g0)⟩, ?_⟩
      rintro j k H5 ⟨rfl, hj, G5, acc', b5, c5, s5, g5, h5, r5⟩
      have st1 : Stay1 H5 := ss1 rfl H5 (s5.trans b5.gd.gh)
      by_cases hlt1 : j < es1.length
      · refine .inr ⟨I1.go j H5 hlt1 st1, fun H6 => ∃ G6 acc', AtG K false sa H1 G1 (wipeC δ2 vs1) E (wipe σ2 vs1) G6 H6 ∧ AtG K false sa H1 G1 (wipeC δ vs) E (wipe σ vs) G6 H6 ∧ Same G4 G6 ∧ G6 Dl = none ∧ H6 Dl = some (.lst acc') ∧ RpA K G6 acc' ((ds.take i).flatMap F ++ (es1.take (j + 1)).map f1), fun H6 hN => ⟨es1.length - (j + 1), by omega, rfl, hlt1, hN⟩, fun x1 H6 y1 => ?_⟩
        obtain ⟨e, G6, he, sG6, sH6, fr6, b6⟩ := b5.came I1 up s5 hlt1 st1 y1
        have g6 : G6 Dl = none := fr6 Dl (by rw [h5]; simp) g5
        have h6 : H6 Dl = some (.lst acc') := sH6 _ _ h5
        have ekj : (es1.take (j + 1)).map f1 = (es1.take j).map f1 ++ [f1 e] := by rw [List.take_add_one, he, List.map_append]; rfl
        have c6 : AtG K false sa H1 G1 (wipeC δ vs) E (wipe σ vs) G6 H6 := c5.grow sG6 b6.gd.gh fr6 (.of sH6) (fun z ez => (b6.gd.sp z ez).1) b6.ex.1
        refine step1 j _ he false H6 G6 E up (wipe σ2 vs1) H6 x1 ⟨G6, b6.base⟩ _ fun δ3 σ3 w3 A3 ew3 => ⟨by rw [ew3, wipe_wipe], ?_⟩
        refine iteT ?_
        refine w3 false H6 G6 E up σ3 H6 A3 _ fun z r H7 pe ⟨Gf, bf⟩ => ?_
        have b7 : AtG K false sa H1 G1 (wipeC δ2 vs1) E (wipe σ2 vs1) Gf H7 := (b6.same (E' := E) b6.ex.1).grow bf.gd.g0 bf.gd.gh bf.gd.fr bf.gd.hh (fun z ez => (bf.gd.sp z ez).1) (up _ _ bf.gd.g0 b6.ex.1)
        have c7 : AtG K false sa H1 G1 (wipeC δ vs) E (wipe σ vs) Gf H7 := c6.grow bf.gd.g0 bf.gd.gh bf.gd.fr bf.gd.hh (fun z ez => (bf.gd.sp z ez).1) (up _ _ bf.gd.g0 c6.ex)
        have g7 : Gf Dl = none := bf.gd.fr Dl (by rw [h6]; simp) g6
        have h7 : H7 Dl = some (.lst acc') := bf.gd.hh Dl _ hs h6
        refine ⟨acc', h7, ?_, Gf, acc' ++ [z], b7.poke g7 hD hs no3, c7.poke g7 hD hs (aw.lone_ex own2 c7.gd.hh), s5.trans (sG6.trans bf.gd.g0), g7, upd_same, ?_⟩
        · have l1 := r5.length
          rw [List.length_append, List.length_map, List.length_take] at l1
          omega
        · rw [ekj, ← List.append_assoc, ← pe]
          exact (r5.mono (sG6.trans bf.gd.g0)).snoc bf.ex.2
      · have e : j = es1.length := by omega
        subst e
        rw [List.take_length, ← eF, ← etk] at r5
        exact .inl ⟨I1.stop H5 st1, G5, acc', c5, g5, h5, r5⟩
    · have e : i = ds.length := by omega
      subst e
      rw [List.take_length] at ra
      refine .inl ⟨I.stop H' st, q Dl acc _ H' done ⟨G', a.grow a'.gd.g0 a'.gd.gh a'.gd.fr a'.gd.hh (fun z ez => (a'.gd.sp z ez).1) ⟨up _ _ a'.gd.g0 a.ex, gD', ra⟩⟩ hD' ?_ hs (a.lone_ex own1 a'.gd.hh)⟩
      cases z : H0 Dl with
      | none => rfl
      | some o => exact absurd hD (a.gd.live (by rw [z]; simp))
end Dl

namespace Dl
open PySem PySem.Spec PyProof.Rows L2 DlP
/-! ### any of a list of whole numbers -/
def rAnyL (K : Fg) : List V → Hp → VK → Prop := fun vs H Q => ∃ (a : Addr) (ns : List Int), vs = [V.ref a] ∧ SqL K H a (ns.map V.int) ∧ Q (.bl (ns.any (· != 0))) H
def rAnyV (K : Fg) : List V → Hp → VK → Prop := fun vs H Q => rAnyU K vs H Q ∨ rAnyL K vs H Q
theorem call_anyVK {X : Cx} {K : Fg} (hk : X.K = K) (hc : X.calm = true) : CallR X (.builtin "any") (rAnyV K) := by
  subst hk
  intro pins s σ H vs us Q I r h
  rcases h with h | h
  · exact call_anyU hc pins s σ H vs us Q I r h
  · obtain ⟨a, ns, rfl, hs, q⟩ := h
    obtain ⟨its, rv, hl, _⟩ := I.list hs
    rw [Vals.ref1 r]
    have hl := hl.isList
    have hlt : a < s.heap.objs.size := by obtain ⟨_, e, _⟩ := id hl; exact Heap.lt_size e
    refine call_any_walk (wpAny_pyIter_list (show s.heap.IsList a its.toArray from hl) ?_)
    refine ⟨s.heap.objs.size, _, _, _, _, _, _, rfl, Walks.list (A := X.A.in1) (I.ok.hd hc) _ a (Nat.ne_of_lt hlt) its.toArray, ⟨⟨_, Heap.get?_push_size _ rfl, rfl, rfl⟩, Heap.IsList.at hl fun o e => Heap.get?_push_of_some _ e⟩, truth_ints rv, fun h' tk hk => ?_⟩
    refine ⟨.bl _, H, I.kept fun b o eo => hk b o (fun hmem => ?_) (Heap.get?_push_of_some _ eo), ?_, q⟩
    · have e1 : b = s.heap.objs.size := by simpa using hmem
      exact absurd (e1 ▸ Heap.lt_size eo) (Nat.lt_irrefl _)
    · show Value.bool _ = Value.bool _
      have hlen : its.toArray.size = ns.length := by rw [List.size_toArray, ← rv.length, List.length_map]
      rw [hlen, any_rangeI]
section
variable {K : Fg} {sa : Option Addr} {δ : List Cell} {P : D → Prop}
theorem cw_anyLI {ns : List Int} (p : P (.bool (ns.any (· != 0)))) : CW K sa (rAnyV K) [.list (ns.map PyData.int)] P :=
  cw_at (z := .bl (ns.any (· != 0))) (fun _ => .bl _) p fun G H vs Q s r q => by
    obtain ⟨v, e, rv⟩ := r.one
    obtain ⟨a, xs, e2, h, rx⟩ := rv.lst_inv
    refine .inr ⟨a, ns, by rw [e, e2], ?_, q⟩
    rw [← rx.ints]
    exact .inl (.inl (s _ _ h))
theorem cw_anyTI {ns : List Int} (p : P (.bool (ns.any (· != 0)))) : CW K sa (rAnyV K) [.tuple (ns.map PyData.int)] P := fun m H0 G0 δ E up σ H vs A Q q => .inl (cw_anyI p m H0 G0 δ E up σ H vs A Q q)
theorem cw_anyLB {bs : List Bool} (p : P (.bool (bs.any id))) : CW K sa (rAnyV K) [.list (bs.map PyData.bool)] P := fun m H0 G0 δ E up σ H vs A Q q => .inl (.inl (cw_any p m H0 G0 δ E up σ H vs A Q q))
/-- one's own list becomes data -/
theorem ws_melt {t : TS} {D' : DE} {ds : List D} (i : Nat) (hi : δ[i]? = some (.own ds)) (h : WS K sa t D' (δ.set i (.dat (.list ds)))) : WS K sa t D' δ := fun H0 G0 E up σ H Dn ⟨G, a⟩ R => by
  obtain ⟨p, G', e, b⟩ := a.melt hi up
  exact h H0 G0 E up σ H Dn ⟨G', b.same b.ex.1⟩ R
end
end Dl

namespace Dl
open PySem PySem.Spec PyProof.Rows L2 DlP
section
variable {K : Fg} {sa : Option Addr} {δ : List Cell} {nx : List Cell → Prop} {rt : D → Prop} {bk ct : List Cell → Prop} {c : TT} {t : TS}
theorem ws_while (Iv : Nat → List Cell → Prop) (h0 : ∃ n, Iv n δ) (step : ∀ n δ', Iv n δ' → WT K sa c δ' fun b => (b = true → WS K sa t ⟨fun δ2 => ∃ n', n' < n ∧ Iv n' δ2, rt, nx, fun δ2 => ∃ n', n' < n ∧ Iv n' δ2⟩ δ') ∧ (b = false → nx δ')) :
    WS K sa (tWhile c t) ⟨nx, rt, bk, ct⟩ δ := fun H0 G0 E up σ H Dn A R => by
  obtain ⟨n0, i0⟩ := h0
  refine ⟨fun n σ H => ∃ δ', Iv n δ' ∧ At K true sa H0 G0 δ' E σ H, ⟨n0, δ, i0, A⟩, ?_⟩
  rintro n σ' H' ⟨δ', hI, A'⟩
  refine step n δ' hI true H0 G0 E up σ' H' A' _ fun b H1 p A1 => ?_
  cases b with
  | true =>
    refine iteT ⟨fun σ2 H2 => ∃ δ2, (∃ n', n' < n ∧ Iv n' δ2) ∧ At K true sa H0 G0 δ2 E σ2 H2, fun σ2 H2 ⟨δ2, ⟨n', l, i⟩, A2⟩ => ⟨n', l, δ2, i, A2⟩, ?_⟩
    exact p.1 rfl H0 G0 E up σ' H1 _ A1 ⟨fun δ3 σ3 H3 q A3 => ⟨δ3, q, A3⟩, fun δ3 σ3 H3 q A3 => R.nx _ _ _ q A3, fun δ3 σ3 H3 q A3 => ⟨δ3, q, A3⟩, R.rt⟩
  | false => exact iteF (R.nx _ _ _ (p.2 rfl) A1)
end
end Dl

namespace Dl
open PySem PySem.Spec PyProof.Rows L2 DlP
/-! ### lists in a list, all of them one's own -/
inductive Kids (K : Fg) (G H : Hp) : List Addr → List (List D) → Prop
  | nil : Kids K G H [] []
  | cons {q : Addr} {qs : List Addr} {ds : List D} {dss : List (List D)} {ws : List V} : H q = some (.lst ws) → RpA K G ws ds → Kids K G H qs dss → Kids K G H (q :: qs) (ds :: dss)
theorem Kids.move {K : Fg} {G G' H H' : Hp} (g : Same G G') : ∀ {qs : List Addr} {dss : List (List D)}, Kids K G H qs dss → (∀ q ∈ qs, H' q = H q) → Kids K G' H' qs dss
  | _, _, .nil, _ => .nil
  | _, _, .cons h r t, k => .cons ((k _ (by simp)).trans h) (r.mono g) (Kids.move g t fun q hq => k q (by simp [hq]))
theorem Kids.live {K : Fg} {G H : Hp} : ∀ {qs : List Addr} {dss : List (List D)}, Kids K G H qs dss → ∀ q ∈ qs, H q ≠ none
  | _, _, .nil, _, h => nomatch h
  | _, _, .cons h _ t, q, hq => by
    rcases List.mem_cons.mp hq with z | z
    · rw [z, h]; simp
    · exact Kids.live t q z
theorem Kids.len {K : Fg} {G H : Hp} : ∀ {qs : List Addr} {dss : List (List D)}, Kids K G H qs dss → qs.length = dss.length
  | _, _, .nil => rfl
  | _, _, .cons _ _ t => congrArg (· + 1) t.len
theorem Kids.get {K : Fg} {G H : Hp} : ∀ {qs : List Addr} {dss : List (List D)} {k : Nat} {ds : List D}, Kids K G H qs dss → dss[k]? = some ds → ∃ q ws, qs[k]? = some q ∧ H q = some (.lst ws) ∧ RpA K G ws ds
  | _, _, _, _, .nil, h => by simp at h
  | _, _, 0, _, .cons h r _, e => by
    have e : _ = _ := Option.some.inj e
    subst e
    exact ⟨_, _, rfl, h, r⟩
  | _, _, k + 1, _, .cons _ _ t, e => by
    obtain ⟨q, ws, h1, h2, h3⟩ := Kids.get (k := k) t (by simpa using e)
    exact ⟨q, ws, by simpa using h1, h2, h3⟩
theorem Kids.snoc {K : Fg} {G H : Hp} {q : Addr} {ds : List D} {ws : List V} (h : H q = some (.lst ws)) (r : RpA K G ws ds) : ∀ {qs : List Addr} {dss : List (List D)}, Kids K G H qs dss → Kids K G H (qs ++ [q]) (dss ++ [ds])
  | _, _, .nil => .cons h r .nil
  | _, _, .cons h1 r1 t => .cons h1 r1 (Kids.snoc h r t)
/-- one of them changed -/
theorem Kids.upd {K : Fg} {G H : Hp} {q : Addr} {ds : List D} {ws : List V} (r : RpA K G ws ds) : ∀ {qs : List Addr} {dss : List (List D)} {k : Nat}, Kids K G H qs dss → qs.Nodup → qs[k]? = some q → Kids K G (upd H q (.lst ws)) qs (dss.set k ds)
  | _, _, _, .nil, _, h => by simp at h
  | p :: qs, _, 0, .cons h r1 t, n, e => by
    have e : p = q := Option.some.inj e
    subst e
    have n := List.pairwise_cons.mp n
    exact .cons upd_same r (t.move (Same.refl _) fun z hz => upd_ne fun y => n.1 z hz y.symm)
  | p :: qs, _, k + 1, .cons h r1 t, n, e => by
    have n := List.pairwise_cons.mp n
    have e : qs[k]? = some q := by simpa using e
    exact .cons (by rw [upd_ne (n.1 q (List.mem_of_getElem? e))]; exact h) r1 (t.upd r n.2 e)
theorem Kids.rp {K : Fg} {G H : Hp} : ∀ {qs : List Addr} {dss : List (List D)}, Kids K G H qs dss → (∀ q ∈ qs, G q = H q) → RpA K G (qs.map V.ref) (dss.map PyData.list)
  | _, _, .nil, _ => .nil
  | _, _, .cons h r t, k => .cons (.lst ((k _ (by simp)).trans h) r) (Kids.rp t fun q hq => k q (by simp [hq]))
theorem ref_inj {l l' : List Addr} (h : l.map V.ref = l'.map V.ref) : l = l' := (List.map_inj_right fun x y e => by injection e).mp h
def nestR (dss : List (List D)) : Res where
  ok K G H v := ∃ p qs, v = .ref p ∧ H p = some (.lst (qs.map V.ref)) ∧ p ∉ qs ∧ qs.Nodup ∧ Kids K G H qs dss
  ft H v b := ∃ p, v = .ref p ∧ (b = p ∨ ∃ qs : List Addr, H p = some (.lst (qs.map V.ref)) ∧ b ∈ qs)
  lv := by
    rintro K G H v b ⟨p, qs, rfl, hp, np, nd, kd⟩ ⟨p', e, h⟩
    cases e
    rcases h with h | ⟨qs', h1, h2⟩
    · rw [h, hp]; simp
    · rw [hp] at h1
      injection h1 with h1
      injection h1 with h1
      rw [← ref_inj h1] at h2
      exact kd.live b h2
  mv := by
    rintro K G G' H H' v ⟨p, qs, rfl, hp, np, nd, kd⟩ g h
    have e0 : H' p = H p := h p ⟨p, rfl, .inl rfl⟩
    refine ⟨⟨p, qs, rfl, by rw [e0, hp], np, nd, kd.move g fun q hq => h q ⟨p, rfl, .inr ⟨qs, hp, hq⟩⟩⟩, ?_⟩
    rintro b ⟨p', e, k⟩
    cases e
    refine ⟨p, rfl, ?_⟩
    rcases k with k | ⟨qs', h1, h2⟩
    · exact .inl k
    · exact .inr ⟨qs', by rw [← e0, h1], h2⟩
/-- a heap with what H has at l -/
def lay (G H : Hp) (l : List Addr) : Hp := fun b => if b ∈ l then H b else G b
theorem lay_in {G H : Hp} {l : List Addr} {b : Addr} (h : b ∈ l) : lay G H l b = H b := by unfold lay; rw [if_pos h]
theorem lay_out {G H : Hp} {l : List Addr} {b : Addr} (h : b ∉ l) : lay G H l b = G b := by unfold lay; rw [if_neg h]
theorem lay_same {G H : Hp} {l : List Addr} (h : ∀ b ∈ l, G b = none) : Same G (lay G H l) := fun b o e => by
  rw [lay_out fun z => by rw [h b z] at e; cases e]; exact e
theorem lay_heap {G H : Hp} {l : List Addr} (h : Same G H) : Same (lay G H l) H := fun b o e => by
  by_cases z : b ∈ l
  · rw [lay_in z] at e; exact e
  · rw [lay_out z] at e; exact h b o e
section
variable {K : Fg} {sa : Option Addr} {m : Bool} {H0 G0 G G' H H' : Hp} {δ : List Cell} {E E' : Hp → Prop} {σ : L2.St} {te ta tb : TE} {P : D → Prop} {dss : List (List D)} {i : Nat}
/-- the same heap on a greater ground -/
theorem AtG.reground {G0' : Hp} (A : AtG K m sa H0 G0 δ E σ G H) (g : Same G G') (gh : Same G' H) (hj : ∀ b, G' b ≠ none → G b = none → Lone H δ σ b) (g0 : Same G0' G') (fr : ∀ b, H0 b ≠ none → G0' b = none → G' b = none) (hs : ∀ a, sa = some a → G0' a = none) (e : E' G') : AtG K m sa H0 G0' δ E' σ G' H := by
  refine ⟨⟨g0, gh, fr, A.gd.hh, fun a ea => ⟨(A.gd.sp a ea).1, (A.gd.sp a ea).2.1, hs a ea⟩⟩, A.len, fun j c o h1 h2 => ?_, A.dis, e⟩
  refine (cell_move (A.cell j c o h1 h2) g fun b f => ⟨rfl, ?_⟩).1
  cases z : G' b with
  | none => rfl
  | some u => exact (hj b (by rw [z]; simp) (foot_live (A.cell j c o h1 h2) f).2.1 j c o h1 h2 f).elim
/-- nested lists of one's own, seen as data -/
theorem AtG.nested (A : AtG K m sa H0 G0 δ E σ G H) (hi : δ[i]? = some (.res (nestR dss))) : ∃ p qs, σ[i]? = some (some (.ref p)) ∧ H p = some (.lst (qs.map V.ref)) ∧ p ∉ qs ∧ qs.Nodup ∧ Kids K G H qs dss ∧ (∀ b ∈ p :: qs, G b = none ∧ sa ≠ some b ∧ (m = true → H0 b = none)) ∧
    (∀ b ∈ p :: qs, Lone H (δ.set i .no) σ b) ∧ Rp K (lay G H (p :: qs)) (.ref p) (.list (dss.map PyData.list)) := by
  obtain ⟨o, e1, v, ev, ⟨p, qs, e2, hp, np, nd, kd⟩, ft⟩ := A.slot hi
  subst ev
  subst e2
  have inft : ∀ b ∈ p :: qs, (nestR dss).ft H (.ref p) b := fun b hb => by
    rcases List.mem_cons.mp hb with z | z
    · exact ⟨p, rfl, .inl z⟩
    · exact ⟨p, rfl, .inr ⟨qs, hp, z⟩⟩
  have gn : ∀ b ∈ p :: qs, G b = none := fun b hb => (ft b (inft b hb)).1
  refine ⟨p, qs, e1, hp, np, nd, kd, fun b hb => ft b (inft b hb), fun b hb j c o h1 h2 f => ?_, ?_⟩
  · rcases set_at h1 with ⟨_, e, _⟩ | ⟨n, k1⟩
    · subst e; exact f
    · exact A.dis i j _ c _ o n hi k1 e1 h2 b ⟨.ref p, rfl, inft b hb⟩ f
  · refine .lst (by rw [lay_in (by simp)]; exact hp) ((kd.move (lay_same gn) fun _ _ => rfl).rp fun q hq => ?_)
    exact lay_in (by simp [hq])
/-- looked at, measured -/
theorem we_meltedN (hi : δ[i]? = some (.res (nestR dss))) (h : WE K sa te (δ.set i (.dat (.list (dss.map PyData.list)))) fun d => ((∃ n, d = .int n) ∨ (∃ b, d = .bool b) ∨ d = .none ∨ ∃ s, d = .str s) ∧ P d) : WE K sa te δ P := fun m H0 G0 E up σ H ⟨G, A⟩ Q q => by
  obtain ⟨p, qs, e1, hp, np, nd, kd, ft, lo, rp⟩ := A.nested hi
  have s1 : Same G (lay G H (p :: qs)) := lay_same fun b hb => (ft b hb).1
  have B1 : AtG K false sa H G (δ.set i .no) E σ G H := A.base.recell i fun c o _ _ => ⟨trivial, fun b f => f.elim⟩
  have B2 : AtG K false sa H (lay G H (p :: qs)) (δ.set i .no) (fun _ => True) σ (lay G H (p :: qs)) H := by
    refine B1.reground s1 (lay_heap A.gd.gh) (fun b h1 h2 => ?_) (Same.refl _) (fun _ _ h => h) (fun a ea => ?_) trivial
    · by_cases z : b ∈ p :: qs
      · exact lo b z
      · rw [lay_out z] at h1; exact absurd h2 h1
    · rw [lay_out fun z => (ft a z).2.1 ea]; exact A.gd.notIn ea
  have B' := B2.recell i (c0 := .dat (.list (dss.map PyData.list))) fun c o _ h2 => by
    rw [e1] at h2; cases h2
    exact ⟨⟨_, rfl, rp⟩, fun b f => f.elim⟩
  rw [List.set_set] at B'
  refine h false H _ (fun _ => True) up_true σ H ⟨_, B'⟩ Q fun v d H' ⟨sc, pd⟩ ⟨G', b⟩ => q v d H' pd ⟨G, ?_⟩
  have rs : Rp K G v d := by
    rcases sc with ⟨n, e⟩ | ⟨n, e⟩ | e | ⟨n, e⟩
    · subst e; rw [b.ex.2.int_inv]; exact .int n
    · subst e; rw [b.ex.2.bl_inv]; exact .bl n
    · subst e; rw [b.ex.2.non_inv]; exact .non
    · subst e; rw [b.ex.2.str_inv]; exact .str n
  have gh : Same G H' := fun b' o' e' => b.gd.gh _ _ (b.gd.g0 _ _ (s1 _ _ e'))
  exact A.grow (Same.refl _) gh (fun _ _ h => h) b.gd.hh (fun z ez => (b.gd.sp z ez).1) ⟨A.ex, rs⟩
/-- let go: data from now on -/
theorem ws_meltN {t : TS} {D' : DE} (i : Nat) {dss : List (List D)} (hi : δ[i]? = some (.res (nestR dss))) (h : WS K sa t D' (δ.set i (.dat (.list (dss.map PyData.list))))) : WS K sa t D' δ := fun H0 G0 E up σ H Dn ⟨G, A⟩ R => by
  obtain ⟨p, qs, e1, hp, np, nd, kd, ft, lo, rp⟩ := A.nested hi
  have s1 : Same G (lay G H (p :: qs)) := lay_same fun b hb => (ft b hb).1
  have B1 : AtG K true sa H0 G0 (δ.set i .no) E σ G H := A.recell i fun c o _ _ => ⟨trivial, fun b f => f.elim⟩
  have B2 : AtG K true sa H0 G0 (δ.set i .no) E σ (lay G H (p :: qs)) H := by
    refine B1.reground s1 (lay_heap A.gd.gh) (fun b h1 h2 => ?_) (A.gd.g0.trans s1) (fun b h1 h2 => ?_) (fun a ea => (A.gd.sp a ea).2.2) (up _ _ s1 A.ex)
    · by_cases z : b ∈ p :: qs
      · exact lo b z
      · rw [lay_out z] at h1; exact absurd h2 h1
    · rw [lay_out fun z => h1 ((ft b z).2.2 rfl)]; exact A.gd.fr b h1 h2
  have B' := B2.recell i (c0 := .dat (.list (dss.map PyData.list))) fun c o _ h2 => by
    rw [e1] at h2; cases h2
    exact ⟨⟨_, rfl, rp⟩, fun b f => f.elim⟩
  rw [List.set_set] at B'
  exact h H0 G0 E up σ H Dn ⟨_, B'⟩ R
/-- line = parts[k]; line[x] = y -/
theorem ws_nestSet {teX teY : TE} {nx : List Cell → Prop} {rt : D → Prop} {bk ct : List Cell → Prop} {j l k : Nat} {ds : List D} (hi : δ[i]? = some (.res (nestR dss))) (hj : δ[j]? = some (.dat (.int (k : Nat)))) (hk : dss[k]? = some ds) (hil : i ≠ l) (hl : l < δ.length)
    (h : WE K sa teY (δ.set l .no) fun y => WE K sa teX ((δ.set i .no).set l (.dat (.list ds))) fun d => ∃ x : Nat, d = .int x ∧ x < ds.length ∧ nx ((δ.set i (.res (nestR (dss.set k (ds.set x y))))).set l .no)) :
    WS K sa (tSeq (tAsg (tOp (rIx K) (tVar i) (tVar j)) (gName l)) (tAsg teY (gSub (tVar l) teX rSetL))) ⟨nx, rt, bk, ct⟩ δ := fun H0 G0 E up σ H Dn ⟨G, A⟩ R => by
  obtain ⟨p, qs, e1, hp, np, nd, kd, ft, lo, rp⟩ := A.nested hi
  obtain ⟨o, e2, v, ev, rv⟩ := A.slot hj
  subst ev
  have ev := rv.int_inv
  subst ev
  obtain ⟨q, ws, hq, hqw, rw1⟩ := kd.get hk
  have hqm : q ∈ qs := List.mem_of_getElem? hq
  have npq : p ≠ q := fun z => np (z ▸ hqm)
  have hkl : k < qs.length := (List.getElem?_eq_some_iff.mp hq).1
  have ixk : ∀ {n x : Nat}, x < n → ixN n ((x : Nat) : Int) = some x := fun {n x} h => by
    unfold ixN
    rw [if_pos (by omega), if_pos (by omega)]
    simp
  refine ⟨_, e1, _, e2, .inl ⟨p, qs.map V.ref, (k : Nat), .ref q, rfl, rfl, .inl (.inl hp), ?_, ?_⟩⟩
  · unfold atI
    rw [List.length_map, ixk hkl]
    show (qs.map V.ref)[k]? = _
    rw [List.getElem?_map, hq]
    rfl
  have hls : l < σ.length := by rw [A.len]; exact hl
  have esl : (σ.set l (some (.ref q)))[l]? = some (some (.ref q)) := List.getElem?_set_self hls
  have esi : (σ.set l (some (.ref q)))[i]? = some (some (.ref p)) := by rw [List.getElem?_set_ne (Ne.symm hil)]; exact e1
  have A1 : AtG K true sa H0 G0 (δ.set l .no) E (σ.set l (some (.ref q))) G H := A.put l trivial fun b f => f.elim
  have hi1 : (δ.set l Cell.no)[i]? = some (.res (nestR dss)) := by rw [List.getElem?_set_ne (Ne.symm hil)]; exact hi
  refine h false H G E up _ H ⟨G, A1.base⟩ _ fun vy y H1 hX ⟨G1, b1⟩ => ?_
  have a1 : AtG K true sa H0 G0 (δ.set l .no) (fun G => E G ∧ Rp K G vy y) (σ.set l (some (.ref q))) G1 H1 := A1.back b1
  obtain ⟨p1, qs1, f1, hp1, np1, nd1, kd1, ft1, lo1, rp1⟩ := a1.nested hi1
  rw [esi] at f1; cases f1
  have hpp : H1 p = some (.lst (qs.map V.ref)) := b1.gd.hh p _ (ft p (by simp)).2.1 hp
  rw [hpp] at hp1
  injection hp1 with hp1
  injection hp1 with hp1
  have eqs := ref_inj hp1
  subst eqs
  obtain ⟨q1, ws1, hq1, hqw1, rw2⟩ := kd1.get hk
  rw [hq] at hq1; cases hq1
  have hsq : sa ≠ some q := (ft1 q (by simp [hqm])).2.1
  have gq : G1 q = none := (ft1 q (by simp [hqm])).1
  refine ⟨_, esl, ?_⟩
  have s1 : Same G1 (lay G1 H1 [q]) := lay_same fun b hb => by rw [List.mem_singleton.mp hb]; exact gq
  have B1 : AtG K false sa H1 G1 ((δ.set l .no).set i .no) (fun G => E G ∧ Rp K G vy y) (σ.set l (some (.ref q))) G1 H1 := a1.base.recell i fun c o _ _ => ⟨trivial, fun b f => f.elim⟩
  have B2 : AtG K false sa H1 (lay G1 H1 [q]) ((δ.set l .no).set i .no) (fun _ => True) (σ.set l (some (.ref q))) (lay G1 H1 [q]) H1 := by
    refine B1.reground s1 (lay_heap a1.gd.gh) (fun b h1 h2 => ?_) (Same.refl _) (fun _ _ h => h) (fun a ea => ?_) trivial
    · by_cases z : b ∈ [q]
      · rw [List.mem_singleton.mp z]; exact lo1 q (by simp [hqm])
      · rw [lay_out z] at h1; exact absurd h2 h1
    · rw [lay_out fun z => hsq (by rw [ea, List.mem_singleton.mp z])]; exact a1.gd.notIn ea
  have B' := B2.recell l (c0 := .dat (.list ds)) fun c o _ h2 => by
    rw [esl] at h2; cases h2
    exact ⟨⟨_, rfl, .lst (by rw [lay_in (by simp)]; exact hqw1) (rw2.mono s1)⟩, fun b f => f.elim⟩
  rw [List.set_comm _ _ (Ne.symm hil), List.set_set] at B'
  refine hX false H1 _ (fun _ => True) up_true _ H1 ⟨_, B'⟩ _ fun vx dx H2 ⟨x, edx, hx, hn⟩ ⟨G2, b2⟩ => ?_
  subst edx
  have gh : Same G1 H2 := fun b' o' e' => b2.gd.gh _ _ (b2.gd.g0 _ _ (s1 _ _ e'))
  have a2 : AtG K true sa H0 G0 (δ.set l .no) E (σ.set l (some (.ref q))) G1 H2 := a1.grow (Same.refl _) gh (fun _ _ h => h) b2.gd.hh (fun z ez => (b2.gd.sp z ez).1) a1.ex.1
  have hq2 : H2 q = some (.lst ws1) := b2.gd.hh q _ hsq hqw1
  have hp2 : H2 p = some (.lst (qs.map V.ref)) := b2.gd.hh p _ (ft1 p (by simp)).2.1 hpp
  have xl : x < ws1.length := by rw [rw2.length]; exact hx
  have kd2 : Kids K G1 H2 qs dss := kd1.move (Same.refl _) fun z hz => by
    cases y : H1 z with
    | none => exact absurd y (kd1.live z hz)
    | some u => exact b2.gd.hh z u (ft1 z (by simp [hz])).2.1 y
  refine ⟨q, ws1, x, x, rfl, b2.ex.2.int_inv, hq2, ixk xl, R.nx _ _ _ hn ⟨G1, ?_⟩⟩
  have hpn : (upd H2 q (.lst (ws1.set x vy))) p = some (.lst (qs.map V.ref)) := by rw [upd_ne npq]; exact hp2
  have inl : ∀ b, (nestR (dss.set k (ds.set x y))).ft (upd H2 q (.lst (ws1.set x vy))) (.ref p) b → b ∈ p :: qs := by
    rintro b ⟨p', e, k'⟩
    cases e
    rcases k' with k' | ⟨qs', g1, g2⟩
    · rw [k']; simp
    · rw [hpn] at g1
      injection g1 with g1
      injection g1 with g1
      rw [← ref_inj g1] at g2
      simp [g2]
  have infoot : ∀ b ∈ p :: qs, foot H2 (some (.ref p)) (.res (nestR dss)) b := fun b hb => by
    rcases List.mem_cons.mp hb with z | z
    · exact ⟨.ref p, rfl, p, rfl, .inl z⟩
    · exact ⟨.ref p, rfl, p, rfl, .inr ⟨qs, hp2, z⟩⟩
  have fin := a2.over (c0 := .res (nestR (dss.set k (ds.set x y)))) (H' := upd H2 q (.lst (ws1.set x vy))) hi1 esi (fun b u nf g => by rw [upd_ne fun z => nf (by rw [z]; exact infoot q (by simp [hqm]))]; exact g)
    ⟨.ref p, rfl, ⟨p, qs, rfl, hpn, np, nd, kd2.upd (RpA.set a1.ex.2 x rw2) nd hq⟩, fun b f => ft1 b (inl b f)⟩ fun b f => by
      obtain ⟨v', ev', f⟩ := f
      cases ev'
      exact .inl (infoot b (inl b f))
  rw [List.set_comm _ _ (Ne.symm hil)] at fin
  exact fin
end
end Dl

namespace Dl
open PySem PySem.Spec PyProof.Rows L2 DlP
/-- a new list of new lists, all held by nobody -/
def WN (K : Fg) (sa : Option Addr) (te : TE) (δ : List Cell) (P : List (List D) → Prop) : Prop := ∀ (m : Bool) (H0 G0 : Hp) (E : Hp → Prop), Up E → ∀ (σ : L2.St) (H : Hp), At K m sa H0 G0 δ E σ H →
  ∀ Q : VK, (∀ (p : Addr) (qs : List Addr) (dss : List (List D)) (H' G' : Hp), P dss → AtG K m sa H0 G0 δ E σ G' H' → H' p = some (.lst (qs.map V.ref)) → p ∉ qs → qs.Nodup → Kids K G' H' qs dss →
    (∀ b ∈ p :: qs, G' b = none ∧ sa ≠ some b ∧ H0 b = none ∧ Lone H' δ σ b) → Q (.ref p) H') → te σ H Q
section
variable {K : Fg} {sa : Option Addr} {δ : List Cell} {te : TE}
theorem ws_setN {nx : List Cell → Prop} {rt : D → Prop} {bk ct : List Cell → Prop} {i : Nat} (h : WN K sa te δ fun dss => nx (δ.set i (.res (nestR dss)))) : WS K sa (tAsg te (gName i)) ⟨nx, rt, bk, ct⟩ δ := fun H0 G0 E up σ H Dn A R =>
  h true H0 G0 E up σ H A _ fun p qs dss H1 G1 pp a hp np nd kd ft => R.nx _ _ _ pp ⟨G1, by
    have inl : ∀ b, (nestR dss).ft H1 (.ref p) b → b ∈ p :: qs := by
      rintro b ⟨p', e, k'⟩
      cases e
      rcases k' with k' | ⟨qs', g1, g2⟩
      · rw [k']; simp
      · rw [hp] at g1
        injection g1 with g1
        injection g1 with g1
        rw [← ref_inj g1] at g2
        simp [g2]
    refine a.put i (c0 := .res (nestR dss)) ⟨.ref p, rfl, ⟨p, qs, rfl, hp, np, nd, kd⟩, fun b f => ?_⟩ fun b f => ?_
    · have := ft b (inl b f)
      exact ⟨this.1, this.2.1, fun _ => this.2.2.1⟩
    · obtain ⟨v', ev', f⟩ := f
      cases ev'
      exact (ft b (inl b f)).2.2.2⟩
theorem wn_lc {wi : TI} {g : TG} {vs : List Nat} {P : List (List D) → Prop} (h : WJ K sa false wi δ fun ds => ds.length ≤ sizeLine ∧ ∃ R : D → List D → Prop,
      (∀ (i : Nat) (d : D), ds[i]? = some d → WGv K sa vs g (wipeC δ vs) d fun δ2 => WF K sa te δ2 fun es => R d es) ∧ ∀ dss : List (List D), dss.length = ds.length → (∀ (i : Nat) (d : D) (e : List D), ds[i]? = some d → dss[i]? = some e → R d e) → P dss) :
    WN K sa (tLc wi g tYes te vs) δ P := fun m H0 G0 E up σ H A Q q =>
  h m H0 G0 E up σ H A _ fun J ds H1 G1 Stay ⟨hz, R, step, done⟩ a I sx ss => fun Dl hD => by
    have hs : sa ≠ some Dl := fun z => by
      obtain ⟨c, s, n, e⟩ := (a.gd.sp Dl z).1
      rw [hD] at e; cases e
    have aw := a.base.wiped vs
    have own2 := aw.lone hD
    have gD : G1 Dl = none := by
      cases z : G1 Dl with
      | none => rfl
      | some u => rw [a.gd.gh Dl u z] at hD; cases hD
    refine ⟨fun i m H' => m = ds.length - i ∧ i ≤ ds.length ∧ ∃ G' qs dss, AtG K false sa H1 G1 (wipeC δ vs) E (wipe σ vs) G' H' ∧ G' Dl = none ∧ H' Dl = some (.lst (qs.map V.ref)) ∧ Kids K G' H' qs dss ∧ qs.Nodup ∧ (∀ q ∈ qs, G' q = none ∧ sa ≠ some q ∧ H1 q = none ∧ q ≠ Dl) ∧ dss.length = i ∧ ∀ (j : Nat) (d : D) (e : List D), ds[j]? = some d → dss[j]? = some e → R d e,
      ⟨ds.length, by simp, Nat.zero_le _, G1, [], [], aw.poke gD hD hs own2, gD, upd_same, .nil, .nil, (fun _ h => nomatch h), rfl, fun j d e _ h => by simp at h⟩, ?_⟩
    rintro i m' H' ⟨rfl, hi, G', qs, dss, a', gD', hD', kd, nd, fq, hlen, hR⟩
    have st : Stay H' := sx H' a'.gd.hh
    by_cases hlt : i < ds.length
    · refine .inr ⟨I.go i H' hlt st, fun H'' => ∃ G'' qs dss, AtG K false sa H1 G1 (wipeC δ vs) E (wipe σ vs) G'' H'' ∧ G'' Dl = none ∧ H'' Dl = some (.lst (qs.map V.ref)) ∧ Kids K G'' H'' qs dss ∧ qs.Nodup ∧ (∀ q ∈ qs, G'' q = none ∧ sa ≠ some q ∧ H1 q = none ∧ q ≠ Dl) ∧ dss.length = i + 1 ∧ ∀ (j : Nat) (d : D) (e : List D), ds[j]? = some d → dss[j]? = some e → R d e, fun H'' hN => ⟨ds.length - (i + 1), by omega, rfl, hlt, hN⟩, fun x H'' y => ?_⟩
      obtain ⟨d, G'', hd, sG, sH, fr, a''⟩ := a'.came I up a'.gd.g0 hlt st y
      have gD'' : G'' Dl = none := fr Dl (by rw [hD']; simp) gD'
      have hD'' : H'' Dl = some (.lst (qs.map V.ref)) := sH _ _ hD'
      have lv : ∀ q ∈ qs, H'' q ≠ none := fun q hq => by
        cases z : H' q with
        | none => exact absurd z (kd.live q hq)
        | some u => rw [sH q u z]; simp
      refine step i d hd false H'' G'' E up (wipe σ vs) H'' x ⟨G'', a''.base⟩ _ fun δ2 σ2 w A2 ew => ⟨by rw [ew, wipe_wipe], ?_⟩
      unfold tYes
      refine iteT ?_
      refine w false H'' G'' E up σ2 H'' A2 _ fun p' vs' es H4 pe ⟨Gf, bf⟩ hp' h0' hs' hj' => ?_
      have k1 : AtG K false sa H1 G1 (wipeC δ vs) E (wipe σ vs) Gf H4 := (a''.same (E' := E) a''.ex.1).grow bf.gd.g0 bf.gd.gh bf.gd.fr bf.gd.hh (fun z ez => (bf.gd.sp z ez).1) (up _ _ bf.gd.g0 a''.ex.1)
      have k2 : Gf Dl = none := bf.gd.fr Dl (by rw [hD'']; simp) gD''
      have k3 : H4 Dl = some (.lst (qs.map V.ref)) := bf.gd.hh Dl _ hs hD''
      have npD : p' ≠ Dl := fun z => by rw [z, hD''] at h0'; cases h0'
      have npq : p' ∉ qs := fun z => lv p' z h0'
      have h1p : H1 p' = none := by
        cases z : H1 p' with
        | none => rfl
        | some u => rw [a''.gd.hh p' u hs' z] at h0'; cases h0'
      have kd4 : Kids K Gf H4 qs dss := kd.move (sG.trans bf.gd.g0) fun q hq => by
        cases z : H' q with
        | none => exact absurd z (kd.live q hq)
        | some u => exact bf.gd.hh q u (fq q hq).2.1 (sH q u z)
      refine ⟨qs.map V.ref, k3, ?_, Gf, qs ++ [p'], dss ++ [es], ?_, k2, by rw [upd_same, List.map_append]; rfl, ?_, ?_, fun q hq => ?_, by rw [List.length_append, hlen]; rfl, fun j d' e' hd' he' => ?_⟩
      · rw [List.length_map, kd.len, hlen]; omega
      · exact k1.poke k2 hD hs (aw.lone_ex own2 k1.gd.hh)
      · refine ((kd4.snoc hp' bf.ex.2.2).move (Same.refl _)) fun q hq => upd_ne ?_
        rcases List.mem_append.mp hq with z | z
        · exact (fq q z).2.2.2
        · rw [List.mem_singleton.mp z]; exact npD
      · refine List.pairwise_append.mpr ⟨nd, List.pairwise_singleton _ _, fun a ha b hb e => npq ?_⟩
        rw [← List.mem_singleton.mp hb, ← e]; exact ha
      · rcases List.mem_append.mp hq with z | z
        · obtain ⟨l1, l2, l3, l4⟩ := fq q z
          exact ⟨bf.gd.fr q (lv q z) (fr q (kd.live q z) l1), l2, l3, l4⟩
        · rw [List.mem_singleton.mp z]
          exact ⟨bf.ex.2.1, hs', h1p, npD⟩
      · by_cases z : j < dss.length
        · rw [List.getElem?_append_left z] at he'
          exact hR j d' e' hd' he'
        · rw [List.getElem?_append_right (by omega)] at he'
          have ej : j - dss.length = 0 := by
            have := (List.getElem?_eq_some_iff.mp he').1
            simpa using this
          rw [ej] at he'
          cases he'
          have : j = i := by omega
          subst this
          rw [hd] at hd'; cases hd'
          exact pe
    · have e : i = ds.length := by omega
      subst e
      refine .inl ⟨I.stop H' st, q Dl qs dss H' G' (done dss hlen hR) (a.grow a'.gd.g0 a'.gd.gh a'.gd.fr a'.gd.hh (fun z ez => (a'.gd.sp z ez).1) (up _ _ a'.gd.g0 a.ex)) hD' (fun z => (fq Dl z).2.2.2 rfl) nd kd fun b hb => ?_⟩
      have facts : G' b = none ∧ sa ≠ some b ∧ H1 b = none := by
        rcases List.mem_cons.mp hb with z | z
        · rw [z]; exact ⟨gD', hs, hD⟩
        · obtain ⟨l1, l2, l3, l4⟩ := fq b z
          exact ⟨l1, l2, l3⟩
      refine ⟨facts.1, facts.2.1, ?_, a.lone_ex (a.lone facts.2.2) a'.gd.hh⟩
      cases z : H0 b with
      | none => rfl
      | some o => exact absurd facts.2.2 (a.gd.live (by rw [z]; simp))
/-- x, y, z = a, [..], c: the second a list of one's own -/
theorem ws_tup3M {nx : List Cell → Prop} {rt : D → Prop} {bk ct : List Cell → Prop} {ta tb tc : TE} {i j k : Nat} (h : WE K sa ta δ fun d => WF K sa tb δ fun es => WE K sa tc δ fun e => nx (((δ.set i (.dat d)).set j (.own es)).set k (.dat e))) :
    WS K sa (tAsg (tTup (tCons ta (tCons tb (tCons tc tNil)))) (gTup K 3 (gCons (gName i) (gCons (gName j) (gCons (gName k) gNil))))) ⟨nx, rt, bk, ct⟩ δ := fun H0 G0 E up σ H Dn A R =>
  h true H0 G0 E up σ H A _ fun v d H1 h1 A1 => h1 true H0 G0 _ (up_and up up_rp) σ H1 A1 _ fun p vs es H2 h2 ⟨G2, a2⟩ hp h0 hs hj =>
    h2 false H2 G2 (fun G => (E G ∧ Rp K G v d) ∧ RpA K G vs es) (up_and (up_and up up_rp) up_rpA) σ H2 ⟨G2, (a2.same (E' := fun G => (E G ∧ Rp K G v d) ∧ RpA K G vs es) ⟨a2.ex.1, a2.ex.2.2⟩).base⟩ _ fun w e H3 pp ⟨G3, b3⟩ => by
    have a3 := (a2.same (E' := fun G => (E G ∧ Rp K G v d) ∧ RpA K G vs es) ⟨a2.ex.1, a2.ex.2.2⟩).back b3
    have hp3 : H3 p = some (.lst vs) := b3.gd.hh p _ hs hp
    have gp3 : G3 p = none := b3.gd.fr p (by rw [hp]; simp) a2.ex.2.1
    have hj3 : Lone H3 δ σ p := a2.lone_ex hj b3.gd.hh
    refine ⟨szl (by simp), fun x hx => ?_⟩
    have b := a3.beside (o := .tup [v, .ref p, w]) hx
    have hp' : (upd H3 x (.tup [v, .ref p, w])) p = some (.lst vs) := by rw [upd_ne (ne_of_none hp3 hx)]; exact hp3
    have c1 := (b.same (E' := fun G => ((E G ∧ Rp K G w e) ∧ G p = none ∧ RpA K G vs es) ∧ Rp K G v d) ⟨⟨⟨b.ex.1.1.1, b.ex.2⟩, gp3, b.ex.1.2⟩, b.ex.1.1.2⟩).set i
    have c2 := AtG.setOwn (E := fun G => E G ∧ Rp K G w e) (p := p) (vs := vs) (c1.same (E' := fun G => (E G ∧ Rp K G w e) ∧ G p = none ∧ RpA K G vs es) c1.ex) j hp' h0 hs (lone_set (a3.lone_ex hj3 (.of (same_upd hx))) trivial)
    exact ⟨x, _, rfl, .inl (.inl upd_same), rfl, v, _, rfl, .ref p, _, rfl, w, _, rfl, rfl, R.nx _ _ _ pp ⟨G3, c2.set k⟩⟩
end
end Dl

namespace L2
open PySem PySem.Spec PyProof.Rows
theorem Room.units65 {k : Nat} {A : Around} (r : Room k A) : A.units + 65 < cLine := by have := r.un; omega
end L2
namespace Dl
open PySem PySem.Spec PyProof.Rows L2 DlP
/-! ### in, of data of any depth -/
def rNotInU (K : Fg) : R2 := fun x y H Q => rIn K true x y H Q ∨ rNotInD K x y H Q
theorem op_notInUK {X : Cx} {K : Fg} (hk : X.K = K) (hu : X.A.units + 65 < cLine) : OpR X (compareOp .NotIn) (rNotInU K) := by
  subst hk
  exact OpR.or op_notIn_seq (op_notInD hu)
theorem ow_notInD {K : Fg} {sa : Option Addr} {P : D → Prop} {d : D} {ds : List D} (h1 : SeqAt.shaped d = true) (h2 : SeqAt.shaped (.list ds) = true) (p : P (.bool (!ds.any fun z => PyData.eqv z d))) : OW K sa (rNotInU K) d (.list ds) P :=
  ow_inr (ow_at (fun _ => .bl _) p fun G H v w Q s r1 r2 q => ⟨d, ds, (r1.mono s).dp (SeqAt.canLay_of_shaped h1), (r2.mono s).dp (SeqAt.canLay_of_shaped h2), h1, h2, q⟩)
end Dl

namespace Dl
open PySem PySem.Spec PyProof.Rows L2 DlP
/-! ### dicts of one's own, their keys rows of whole numbers -/
def keyT (r : List Int) : List Key := r.map Sum.inl
theorem keyT_inj {a b : List Int} (h : keyT a = keyT b) : a = b := (List.map_inj_right fun x y e => by injection e).mp h
theorem keyT_kV (r : List Int) : (keyT r).map kV = r.map V.int := by
  unfold keyT
  rw [List.map_map]
  rfl
def putD (es : List (List Int × D)) (k : List Int) (d : D) : List (List Int × D) :=
  if (es.any fun e => decide (e.1 = k)) = true then es.map (fun e => if e.1 = k then (e.1, d) else e) else es ++ [(k, d)]
def valD (es : List (List Int × D)) (k : List Int) : Option D := (es.find? fun e => decide (e.1 = k)).map (·.2)
inductive KvR (K : Fg) (G : Hp) : List (List Key × V) → List (List Int × D) → Prop
  | nil : KvR K G [] []
  | cons {r : List Int} {w : V} {d : D} {kvs : List (List Key × V)} {es : List (List Int × D)} : Rp K G w d → KvR K G kvs es → KvR K G ((keyT r, w) :: kvs) ((r, d) :: es)
theorem KvR.mono {K : Fg} {G G' : Hp} (g : Same G G') : ∀ {kvs : List (List Key × V)} {es : List (List Int × D)}, KvR K G kvs es → KvR K G' kvs es
  | _, _, .nil => .nil
  | _, _, .cons r t => .cons (r.mono g) (KvR.mono g t)
theorem KvR.len {K : Fg} {G : Hp} : ∀ {kvs : List (List Key × V)} {es : List (List Int × D)}, KvR K G kvs es → kvs.length = es.length
  | _, _, .nil => rfl
  | _, _, .cons _ t => congrArg (· + 1) t.len
theorem KvR.any {K : Fg} {G : Hp} (k : List Int) : ∀ {kvs : List (List Key × V)} {es : List (List Int × D)}, KvR K G kvs es → (kvs.any fun kv => decide (kv.1 = keyT k)) = es.any fun e => decide (e.1 = k)
  | _, _, .nil => rfl
  | _, _, .cons (r := r) _ t => by
    rw [List.any_cons, List.any_cons, KvR.any k t]
    congr 1
    exact decide_eq_decide.mpr ⟨fun e => keyT_inj e, fun e => congrArg keyT e⟩
theorem KvR.snoc {K : Fg} {G : Hp} {k : List Int} {w : V} {d : D} (r : Rp K G w d) : ∀ {kvs : List (List Key × V)} {es : List (List Int × D)}, KvR K G kvs es → KvR K G (kvs ++ [(keyT k, w)]) (es ++ [(k, d)])
  | _, _, .nil => .cons r .nil
  | _, _, .cons r1 t => .cons r1 (KvR.snoc r t)
theorem KvR.over {K : Fg} {G : Hp} {k : List Int} {w : V} {d : D} (r : Rp K G w d) : ∀ {kvs : List (List Key × V)} {es : List (List Int × D)}, KvR K G kvs es → KvR K G (kvs.map fun kv => if kv.1 = keyT k then (kv.1, w) else kv) (es.map fun e => if e.1 = k then (e.1, d) else e)
  | _, _, .nil => .nil
  | _, _, .cons (r := q) r1 t => by
    rw [List.map_cons, List.map_cons]
    by_cases h : q = k
    · subst h
      rw [if_pos rfl, if_pos rfl]
      exact .cons r (KvR.over r t)
    · rw [if_neg (fun e => h (keyT_inj e)), if_neg h]
      exact .cons r1 (KvR.over r t)
theorem KvR.put {K : Fg} {G : Hp} {k : List Int} {w : V} {d : D} (r : Rp K G w d) {kvs : List (List Key × V)} {es : List (List Int × D)} (h : KvR K G kvs es) : KvR K G (putK kvs (keyT k) w) (putD es k d) := by
  unfold putK putD
  rw [h.any k]
  split
  · exact h.over r
  · exact h.snoc r
theorem KvR.get {K : Fg} {G : Hp} (k : List Int) : ∀ {kvs : List (List Key × V)} {es : List (List Int × D)}, KvR K G kvs es → (valV kvs (keyT k) = none ∧ valD es k = none) ∨ ∃ w d, valV kvs (keyT k) = some w ∧ valD es k = some d ∧ Rp K G w d
  | _, _, .nil => .inl ⟨rfl, rfl⟩
  | _, _, .cons (r := q) (w := w) (d := d) r1 t => by
    by_cases h : q = k
    · subst h
      refine .inr ⟨w, d, valV_pos rfl, ?_, r1⟩
      simp [valD, List.find?_cons]
    · have e1 : ∀ l : List (List Key × V), valV ((keyT q, w) :: l) (keyT k) = valV l (keyT k) := fun l => valV_neg (fun e => h (keyT_inj e))
      have e2 : ∀ es, valD ((q, d) :: es) k = valD es k := fun es => by simp [valD, List.find?_cons, h]
      rcases KvR.get k t with ⟨h1, h2⟩ | ⟨w', d', h1, h2, h3⟩
      · exact .inl ⟨by rw [e1, h1], by rw [e2, h2]⟩
      · exact .inr ⟨w', d', by rw [e1, h1], by rw [e2, h2], h3⟩
def dictR (es : List (List Int × D)) : Res where
  ok K G H v := ∃ p kvs, v = .ref p ∧ H p = some (.dT kvs) ∧ KvR K G kvs es
  ft _ v b := v = .ref b
  lv := by
    rintro K G H v b ⟨p, kvs, rfl, hp, _⟩ e
    cases e
    rw [hp]; simp
  mv := by
    rintro K G G' H H' v ⟨p, kvs, rfl, hp, kr⟩ g h
    exact ⟨⟨p, kvs, rfl, by rw [h p rfl]; exact hp, kr.mono g⟩, fun b e => e⟩
section
variable {K : Fg} {sa : Option Addr} {δ : List Cell} {te ty tv : TE} {P : D → Prop} {es : List (List Int × D)} {i : Nat} {nx : List Cell → Prop} {rt : D → Prop} {bk ct : List Cell → Prop}
theorem AtG.newRes {m : Bool} {H0 G0 G : Hp} {E : Hp → Prop} {σ : L2.St} {H : Hp} {p : Addr} (A : AtG K m sa H0 G0 δ E σ G H) (hp : H p = none) (i : Nat) : AtG K m sa H0 G0 (δ.set i (.res (dictR []))) E (σ.set i (some (.ref p))) G (upd H p (.dT [])) := by
  have gp : G p = none := by
    cases z : G p with
    | none => rfl
    | some u => rw [A.gd.gh p u z] at hp; cases hp
  have h0 : H0 p = none := by
    cases z : H0 p with
    | none => rfl
    | some o => exact absurd hp (A.gd.live (by rw [z]; simp))
  have hs : sa ≠ some p := fun z => by
    obtain ⟨c, s, n, q⟩ := (A.gd.sp p z).1
    rw [hp] at q; cases q
  refine (A.beside (o := .dT []) hp).put i (c0 := .res (dictR [])) ⟨.ref p, rfl, ⟨p, [], rfl, upd_same, .nil⟩, fun b e => ?_⟩ fun b f => ?_
  · cases e; exact ⟨gp, hs, fun _ => h0⟩
  · obtain ⟨v, ev, f⟩ := f
    cases ev
    cases f
    exact A.lone_upd hp
theorem ws_dnew (h : nx (δ.set i (.res (dictR [])))) : WS K sa (tAsg tDNewT (gName i)) ⟨nx, rt, bk, ct⟩ δ := fun H0 G0 E up σ H Dn ⟨G, A⟩ R => fun p hp => R.nx _ _ _ h ⟨G, A.newRes hp i⟩
theorem ws_dput (hi : δ[i]? = some (.res (dictR es))) (hz : es.length < sizeLine) (h : WE K sa tv δ fun d => WE K sa ty δ fun k => ∃ r : List Int, k = .tuple (r.map .int) ∧ nx (δ.set i (.res (dictR (putD es r d))))) : WS K sa (sDPut (tVar i) ty tv) ⟨nx, rt, bk, ct⟩ δ := fun H0 G0 E up σ H Dn A R =>
  h true H0 G0 E up σ H A _ fun v d H1 h1 A1 => by
    obtain ⟨G1, a1⟩ := A1
    obtain ⟨o, e, w, ew, ⟨p, kvs, ep, hp, kr⟩, ft⟩ := a1.slot hi
    subst ew
    subst ep
    refine ⟨_, e, h1 true H0 G0 _ (up_and up up_rp) σ H1 ⟨G1, a1⟩ _ fun y k H2 ⟨r, ek, pn⟩ ⟨G2, a2⟩ => ?_⟩
    subst ek
    obtain ⟨o', e', w', ew', ⟨p', kvs', ep', hp', kr'⟩, ft'⟩ := a2.slot hi
    rw [e] at e'; cases e'; cases ew'; cases ep'
    obtain ⟨b, xs, ey, hb, rx⟩ := a2.ex.2.tup_is
    subst ey
    have ex := rx.ints
    subst ex
    have hkey : H2 b = some (.tup ((keyT r).map kV)) := by rw [keyT_kV]; exact a2.gd.gh _ _ hb
    refine ⟨p, _, rfl, DPut.t (k := keyT r) hp' hkey (by rw [kr'.len]; exact hz), R.nx _ _ _ pn ⟨G2, ?_⟩⟩
    refine (a2.same (E' := E) a2.ex.1.1).over hi e (fun z u nf q => ?_) ⟨.ref p, rfl, ⟨p, _, rfl, upd_same, kr'.put a2.ex.1.2⟩, fun z ez => ft' z ez⟩ fun z f => .inl f
    rw [upd_ne (fun y => nf ⟨.ref p, rfl, by rw [y]; rfl⟩)]
    exact q
theorem we_dlen (hi : δ[i]? = some (.res (dictR es))) (p : P (.int es.length)) : WE K sa (tCB rLenT (tCons (tVar i) tNil)) δ P := fun m H0 G0 E up σ H ⟨G, A⟩ Q q => by
  obtain ⟨o, e, w, ew, ⟨a, kvs, ep, hp, kr⟩, ft⟩ := A.slot hi
  subst ew
  subst ep
  refine ⟨_, e, a, kvs, rfl, hp, ?_⟩
  rw [kr.len]
  exact q _ _ H p ⟨G, A.same ⟨A.ex, .int _⟩⟩
/-- x.get(k, e) -/
theorem we_dget {tx : TE} (hi : δ[i]? = some (.res (dictR es))) (h : WE K sa ty δ fun k => ∃ r : List Int, k = .tuple (r.map .int) ∧ WE K sa tx δ fun d => P ((valD es r).getD d)) : WE K sa (tDGet2 (tVar i) ty tx) δ P := fun m H0 G0 E up σ H ⟨G, A⟩ Q q => by
  obtain ⟨o, e, w, ew, ⟨a, kvs, ep, hp, kr⟩, ft⟩ := A.slot hi
  subst ew
  subst ep
  refine ⟨_, e, a, rfl, .inr ⟨kvs, .inl hp⟩, h m H0 G0 E up σ H ⟨G, A⟩ _ fun y k H1 ⟨r, ek, hx⟩ A1 => ?_⟩
  subst ek
  refine hx m H0 G0 _ (up_and up up_rp) σ H1 A1 _ fun z d H2 pd ⟨G2, a2⟩ => ?_
  obtain ⟨o', e', w', ew', ⟨p', kvs', ep', hp', kr'⟩, ft'⟩ := a2.slot hi
  rw [e] at e'; cases e'; cases ew'; cases ep'
  obtain ⟨b, xs, ey, hb, rx⟩ := a2.ex.1.2.tup_is
  subst ey
  have ex := rx.ints
  subst ex
  have hkey : H2 b = some (.tup ((keyT r).map kV)) := by rw [keyT_kV]; exact a2.gd.gh _ _ hb
  refine ⟨_, DGet.t (k := keyT r) hp' hkey, ?_⟩
  rcases kr'.get r with ⟨h1, h2⟩ | ⟨w1, d1, h1, h2, h3⟩
  · rw [h1]
    rw [h2] at pd
    exact q _ _ H2 pd ⟨G2, a2.same ⟨a2.ex.1.1, a2.ex.2⟩⟩
  · rw [h1]
    rw [h2] at pd
    exact q _ _ H2 pd ⟨G2, a2.same ⟨a2.ex.1.1, h3⟩⟩
/-- x, y, z = a, {}, c, local names -/
theorem ws_par3D {ta tc : TE} {i j k : Nat} (h : WE K sa ta δ fun d => WE K sa tc δ fun f => nx (((δ.set i (.dat d)).set j (.res (dictR []))).set k (.dat f))) : WS K sa (tPar3 i j k (tCons ta (tCons tDNewT (tCons tc tNil)))) ⟨nx, rt, bk, ct⟩ δ := fun H0 G0 E up σ H Dn A R =>
  h true H0 G0 E up σ H A _ fun v d H1 h2 ⟨G1, a1⟩ => fun p hp => by
    have gp : G1 p = none := by
      cases z : G1 p with
      | none => rfl
      | some u => rw [a1.gd.gh p u z] at hp; cases hp
    have h0 : H0 p = none := by
      cases z : H0 p with
      | none => rfl
      | some o => exact absurd hp (a1.gd.live (by rw [z]; simp))
    have hs : sa ≠ some p := fun z => by
      obtain ⟨c, s, n, q⟩ := (a1.gd.sp p z).1
      rw [hp] at q; cases q
    have a2 := a1.beside (o := .dT []) hp
    have lone2 : Lone (upd H1 p (.dT [])) δ σ p := a1.lone_upd hp
    refine h2 false _ G1 (fun G => E G ∧ Rp K G v d) (up_and up up_rp) σ _ ⟨G1, a2.base⟩ _ fun z f H3 pp ⟨G3, b3⟩ => ?_
    have a3 := a2.back b3
    have hp3 : H3 p = some (.dT []) := b3.gd.hh p _ hs upd_same
    have gp3 : G3 p = none := b3.gd.fr p (by rw [upd_same]; simp) gp
    have hj3 := a2.lone_ex lone2 b3.gd.hh
    have c1 := (a3.same (E' := fun G => (E G ∧ Rp K G z f) ∧ Rp K G v d) ⟨⟨a3.ex.1.1, a3.ex.2⟩, a3.ex.1.2⟩).set i
    have c2 := c1.put j (c0 := .res (dictR [])) (o0 := some (.ref p)) ⟨.ref p, rfl, ⟨p, [], rfl, hp3, .nil⟩, fun b e => by cases e; exact ⟨gp3, hs, fun _ => h0⟩⟩ fun b f => by
      obtain ⟨_, ev, f⟩ := f
      cases ev
      cases f
      exact lone_set hj3 trivial
    exact ⟨v, .ref p, z, rfl, R.nx _ _ _ pp ⟨G3, c2.set k⟩⟩
end
end Dl
namespace L2
open PySem PySem.Spec PyProof.Rows
theorem Room.units1 {k : Nat} {A : Around} (r : Room k A) : A.units + 1 < cLine := by have := r.un; omega
end L2

/-! figures, rows, tables, nets: what is the same for all laws -/
namespace Lw
open PySem PySem.Spec PyProof.Rows L2 DlP Dl
section
variable {K : Fg}
theorem fmod_lt {a b : Int} (h : 0 < b) : 0 ≤ a.fmod b ∧ a.fmod b < b := by
  rw [Int.fmod_eq_emod_of_nonneg a (Int.le_of_lt h)]
  exact ⟨Int.emod_nonneg a (by omega), Int.emod_lt_of_pos a h⟩
abbrev Row := List Int
abbrev Tab := List Row
def rowD (r : Row) : D := .tuple (r.map .int)
def tabD (t : Tab) : D := .tuple (t.map rowD)
def netD (p : Int) (ts : List Tab) : D := .tuple [.int p, .tuple (ts.map tabD)]
def RowOk (p : Int) (m : Nat) (r : Row) : Prop := r.length = m ∧ ∀ x ∈ r, 0 ≤ x ∧ x < p
def TabOk (p : Int) (d m : Nat) (t : Tab) : Prop := t.length = d ∧ ∀ r ∈ t, RowOk p m r
def Base (p : Int) : Prop := p = 2 ∨ p = 3 ∨ p = 5 ∨ p = 7
def NetOk (p : Int) (s d m : Nat) (ts : List Tab) : Prop := Base p ∧ (1 ≤ s ∧ s ≤ 6) ∧ (1 ≤ d ∧ d ≤ 12) ∧ (1 ≤ m ∧ m ≤ 12) ∧ ts.length = s ∧ ∀ t ∈ ts, TabOk p d m t
theorem Base.pos {p : Int} (h : Base p) : 2 ≤ p ∧ p ≤ 7 := by rcases h with h | h | h | h <;> omega
theorem rowD_inj {a b : Row} (h : rowD a = rowD b) : a = b := by
  unfold rowD at h
  injection h with h
  exact List.map_inj_right (fun x y e => by injection e) |>.mp h
theorem ow_net0 {sa : Option Addr} {P : D → Prop} {p : Int} {ts : List Tab} (h : P (.int p)) : OW K sa (rIx K) (netD p ts) (.int 0) P := ow_ixT' (x := .int p) rfl h
theorem ow_net1 {sa : Option Addr} {P : D → Prop} {p : Int} {ts : List Tab} (h : P (.tuple (ts.map tabD))) : OW K sa (rIx K) (netD p ts) (.int 1) P := ow_ixT' (x := .tuple (ts.map tabD)) rfl h
theorem ow_tab0 {sa : Option Addr} {P : D → Prop} {r : Row} {t : Tab} (h : P (rowD r)) : OW K sa (rIx K) (tabD (r :: t)) (.int 0) P := ow_ixT' (x := rowD r) (atI_nat (j := 0) rfl) h
theorem ow_tabs0 {sa : Option Addr} {P : D → Prop} {t : Tab} {ts : List Tab} (h : P (tabD t)) : OW K sa (rIx K) (.tuple ((t :: ts).map tabD)) (.int 0) P := ow_ixT' (x := tabD t) (atI_nat (j := 0) rfl) h
theorem cw_lenRow {sa : Option Addr} {P : D → Prop} {r : Row} (p : P (.int r.length)) : CW K sa (fun xs H Q => ∃ x n, xs = [x] ∧ LenV K x H n ∧ Q (.int n) H) [rowD r] P := cw_lenT (by rw [List.length_map]; exact p)
theorem cw_lenTab {sa : Option Addr} {P : D → Prop} {r : Tab} (p : P (.int r.length)) : CW K sa (fun xs H Q => ∃ x n, xs = [x] ∧ LenV K x H n ∧ Q (.int n) H) [tabD r] P := cw_lenT (by rw [List.length_map]; exact p)
theorem ex_seqRow {r : Row} {P : List D → Prop} (h : P (r.map .int)) : ∃ i, SeqD (rowD r) i ∧ P i := ⟨_, .inr rfl, h⟩
theorem ex_seqTab {r : Tab} {P : List D → Prop} (h : P (r.map rowD)) : ∃ i, SeqD (tabD r) i ∧ P i := ⟨_, .inr rfl, h⟩
theorem one_le_pow {p : Int} (hp : 1 ≤ p) : ∀ n : Nat, 1 ≤ p ^ n
  | 0 => by rw [Int.pow_zero]; omega
  | n + 1 => by
    rw [Int.pow_succ]
    have := Int.mul_le_mul (one_le_pow hp n) hp (by omega) (by have := one_le_pow hp n; omega)
    omega
theorem pow_mono {p : Int} (hp : 1 ≤ p) {a b : Nat} (h : a ≤ b) : p ^ a ≤ p ^ b := by
  obtain ⟨c, rfl⟩ := Nat.le.dest h
  rw [Int.pow_add]
  have h1 := one_le_pow hp a
  have h2 := one_le_pow hp c
  have := Int.mul_le_mul_of_nonneg_left h2 (show 0 ≤ p ^ a by omega)
  omega
theorem tabD_inj {a b : Tab} (h : tabD a = tabD b) : a = b := by
  unfold tabD at h
  injection h with h
  exact List.map_inj_right (fun x y e => rowD_inj e) |>.mp h
theorem netD_inj {p q : Int} {a b : List Tab} (h : netD p a = netD q b) : p = q ∧ a = b := by
  unfold netD at h
  injection h with h
  injection h with h1 h
  injection h with h2 h
  injection h1 with h1
  injection h2 with h2
  exact ⟨h1, List.map_inj_right (fun x y e => tabD_inj e) |>.mp h2⟩
theorem NetOk.first {p : Int} {s d m : Nat} {ts : List Tab} (h : NetOk p s d m ts) : ∃ r t ts', ts = (r :: t) :: ts' ∧ r.length = m := by
  obtain ⟨_, ⟨hs, _⟩, ⟨hd, _⟩, _, hl, ht⟩ := h
  cases ts with
  | nil => simp at hl; omega
  | cons t ts' =>
    have h1 := ht t (by simp)
    cases t with
    | nil => have := h1.1; simp at this; omega
    | cons r t => exact ⟨r, t, ts', rfl, (h1.2 r (by simp)).1⟩
theorem NetOk.width {p : Int} {s d m s' d' m' : Nat} {ts : List Tab} (h : NetOk p s d m ts) (h' : NetOk p s' d' m' ts) : m = m' := by
  obtain ⟨r, t, ts', e, hr⟩ := h.first
  obtain ⟨r2, t2, ts2, e2, hr2⟩ := h'.first
  subst e
  cases e2
  omega
theorem cleanA_map {α : Type} {f : α → D} (h : ∀ a, clean (f a) = true) (as : List α) : cleanAll (as.map f) = true := cleanAll_of fun d hd => by
  obtain ⟨a, _, rfl⟩ := List.mem_map.mp hd
  exact h a
theorem clean_row (r : Row) : clean (rowD r) = true := cleanA_map (fun _ => rfl) r
theorem clean_tab (t : Tab) : clean (tabD t) = true := cleanA_map clean_row t
theorem clean_tabs (t : List Tab) : clean (.tuple (t.map tabD)) = true := cleanA_map clean_tab t
theorem clean_net (p : Int) (ts : List Tab) : clean (netD p ts) = true := by
  show (clean (.int p) && (clean (.tuple (ts.map tabD)) && true)) = true
  rw [clean_tabs]
  rfl
theorem whole_inv {d : D} (h : (isIntD d && !isBoolD d) = true) : ∃ i, d = .int i := by
  cases d <;> first | exact ⟨_, rfl⟩ | (simp [isIntD, isBoolD] at h; done)
theorem not_whole {d : D} (h : (isIntD d && !isBoolD d) = false) : ∀ i, d ≠ .int i := fun i e => by subst e; simp [isIntD, isBoolD] at h
theorem tup_inv {d : D} (h : (!isTupD d) = false) : ∃ xs, d = .tuple xs := by
  cases d <;> first | exact ⟨_, rfl⟩ | (simp [isTupD] at h; done)
theorem not_tup {d : D} (h : (!isTupD d) = true) : ∀ xs, d ≠ .tuple xs := fun i e => by subst e; simp [isTupD] at h
theorem clean_tup {xs : List D} (h : clean (.tuple xs) = true) : ∀ x ∈ xs, clean x = true := cleanAll_mem h
theorem rowB_tup {p l m : Int} {d : D} (h : rowB p l m d = true) : ∃ xs, d = .tuple xs ∧ l ≤ xs.length ∧ (xs.length : Int) ≤ m := by
  cases d <;> first | (simp [rowB] at h; done) | skip
  rename_i xs
  refine ⟨xs, rfl, ?_⟩
  simp [rowB] at h
  omega
theorem rowB_no {p l m : Int} {d : D} (h : (!isTupD d) = true) : rowB p l m d = false := by
  have := not_tup h
  cases d <;> first | rfl | (exact absurd rfl (this _))
theorem tabB_no {p : Int} {d : D} (h : (!isTupD d) = true) : tabB p d = false := by
  have := not_tup h
  cases d <;> first | rfl | (exact absurd rfl (this _))
theorem tablesB_no {p : Int} {d : D} (h : (!isTupD d) = true) : tablesB p d = false := by
  have := not_tup h
  cases d <;> first | rfl | (exact absurd rfl (this _))

/-- rows of one length, at most n of at most m figures -/
def rowsB (p n m : Int) : D → Bool | .tuple rs => decide (1 ≤ (rs.length : Int) ∧ (rs.length : Int) ≤ n) && rs.all (rowB p 1 m) && rs.all (fun r => decide (lenD r = lenD (headD (.tuple rs)))) | _ => false
theorem rowsB_out {p n m : Int} {rs : List D} (h : ¬(1 ≤ (rs.length : Int) ∧ (rs.length : Int) ≤ n)) : rowsB p n m (.tuple rs) = false := by
  show (decide _ && _ && _) = false
  rw [decide_eq_false h]
  rfl
theorem rowsB_in {p n m : Int} {rs : List D} (h : 1 ≤ (rs.length : Int) ∧ (rs.length : Int) ≤ n) : rowsB p n m (.tuple rs) = (rs.all (rowB p 1 m) && rs.all (fun r => decide (lenD r = lenD (headD (.tuple rs))))) := by
  show (decide _ && _ && _) = _
  rw [decide_eq_true h, Bool.true_and]
theorem rowsB_no {p n m : Int} {d : D} (h : (!isTupD d) = true) : rowsB p n m d = false := by
  have := not_tup h
  cases d <;> first | rfl | (exact absurd rfl (this _))
theorem rowsB_tab (p : Int) (d : D) : rowsB p 12 12 d = tabB p d := by
  cases d <;> first | rfl | skip
  rename_i rs
  by_cases z : 1 ≤ rs.length ∧ rs.length ≤ 12
  · rw [tabB_in z, rowsB_in (by omega)]
  · rw [tabB_out z, rowsB_out (by omega)]
structure Rws where
  p : Int
  d : D
  n : Int
  m : Int
theorem all_no {ds : List D} {t : D → Bool} (h : (!ds.all t) = true) : ds.all t = false := by
  cases z : ds.all t with
  | false => rfl
  | true => rw [z] at h; cases h
theorem all_yes {ds : List D} {t : D → Bool} (h : (!ds.all t) = false) : ds.all t = true := by
  cases z : ds.all t with
  | true => rfl
  | false => rw [z] at h; cases h
theorem decN (a b : Nat) : decide (((a : Nat) : Int) = ((b : Nat) : Int)) = decide (a = b) := decide_eq_decide.mpr ⟨fun h => by omega, fun h => by omega⟩
/-- tables that were looked at one by one -/
theorem tabB_shape {p : Int} {t : D} (h : tabB p t = true) : ∃ ys rs, t = .tuple (.tuple ys :: rs) ∧ ∀ r ∈ (.tuple ys :: rs : List D), ∃ zs, r = .tuple zs ∧ rowB p 1 12 r = true := by
  cases t <;> first | (simp [tabB] at h; done) | skip
  rename_i rs
  have hl : 1 ≤ rs.length ∧ rs.length ≤ 12 := by
    by_cases z : 1 ≤ rs.length ∧ rs.length ≤ 12
    · exact z
    · rw [tabB_out z] at h; cases h
  rw [tabB_in hl] at h
  have h2 := (Bool.and_eq_true_iff.mp h).1
  have h4 := List.all_eq_true.mp h2
  cases rs with
  | nil => simp at hl
  | cons r0 rs =>
    obtain ⟨ys, rfl, _⟩ := rowB_tup (h4 r0 (by simp))
    refine ⟨ys, rs, rfl, fun r hr => ?_⟩
    obtain ⟨zs, rfl, _⟩ := rowB_tup (h4 r hr)
    exact ⟨zs, rfl, h4 _ hr⟩
theorem netB_no {d : D} (h : (!isTupD d) = true) : netB d = false := by
  have := not_tup h
  cases d <;> first | rfl | (exact absurd rfl (this _))
theorem netB_out {xs : List D} (h : xs.length ≠ 2) : netB (.tuple xs) = false := by
  match xs, h with
  | [], _ => rfl
  | [a], _ => cases a <;> rfl
  | [_, _], h => exact absurd rfl h
  | a :: _ :: _ :: _, _ => cases a <;> rfl
theorem netB_in {b t : D} : netB (.tuple [b, t]) = (match b with | .int p => [2, 3, 5, 7].contains p && tablesB p t | _ => false) := by
  cases b <;> rfl
theorem netB_nb {b t : D} (h : baseB b = false) : netB (.tuple [b, t]) = false := by
  cases b with
  | int p =>
    have h3 : [2, 3, 5, 7].contains p = false := h
    show ([2, 3, 5, 7].contains p && tablesB p t) = false
    rw [h3]
    rfl
  | _ => rfl
def kwG {α : Type} : List α → List α → List α
  | [], ws => ws
  | _ :: _, _ => []
theorem kwG_rel (G : Hp) (vs zs : List V) (ds es : List D) (r : RpA K G vs ds) (rz : RpA K G zs es) : RpA K G (kwG vs zs) (kwG ds es) := by
  cases r with
  | nil => exact rz
  | cons _ _ => exact .nil
def wet : Cell → Bool
  | .own _ => false
  | .res _ => false
  | _ => true
theorem wet_quiet {c : Cell} (h : wet c = true) : quiet c := by cases c <;> first | trivial | cases h
theorem noOwn_by {δ : List Cell} (h : δ.all wet = true) : noOwn δ := fun i c e => wet_quiet (List.all_eq_true.mp h _ (List.mem_of_getElem? e))
theorem shown_bool (b : Bool) : ShowD (.bool b) := by
  refine ⟨rfl, rfl, by show (0 : Nat) ≤ 60; omega, ?_⟩
  cases b
  · exact szl (by decide +kernel)
  · exact szl (by decide +kernel)
theorem netB_ok {p : Int} {s d m : Nat} {ts : List Tab} (h : NetOk p s d m ts) : netB (netD p ts) = true := by
  obtain ⟨hb, hs, hd, hm, hl, ht⟩ := h
  have hrow : ∀ t ∈ ts, ∀ r ∈ t, rowB p 1 12 (rowD r) = true := fun t htm r hr => by
    have hr := (ht t htm).2 r hr
    unfold rowD
    rw [rowB_in (by rw [List.length_map, hr.1]; omega), List.all_eq_true]
    intro x hx
    obtain ⟨y, hy, rfl⟩ := List.mem_map.mp hx
    have := hr.2 y hy
    simp [figB, this]
  have h5 : [2, 3, 5, 7].contains p = true := by rcases hb with h | h | h | h <;> (subst h; rfl)
  show ([2, 3, 5, 7].contains p && tablesB p (.tuple (ts.map tabD))) = true
  rw [h5, Bool.true_and, tablesB_in (by rw [List.length_map]; omega), Bool.and_eq_true_iff, List.all_eq_true, List.all_eq_true]
  have wid : ∀ t ∈ ts, lenD (headD (tabD t)) = m := fun t htm => by
    have h1 := (ht t htm).1
    cases t with
    | nil => simp at h1; omega
    | cons r t =>
      show (r.map PyData.int).length = m
      rw [List.length_map]
      exact ((ht _ htm).2 r (by simp)).1
  have dep : ∀ t ∈ ts, lenD (tabD t) = d := fun t htm => by
    show (t.map rowD).length = d
    rw [List.length_map]
    exact (ht t htm).1
  refine ⟨fun x hx => ?_, fun x hx => ?_⟩
  · obtain ⟨t, htm, rfl⟩ := List.mem_map.mp hx
    have h1 := (ht t htm).1
    show tabB p (.tuple (t.map rowD)) = true
    rw [tabB_in (by rw [List.length_map]; omega), Bool.and_eq_true_iff, List.all_eq_true, List.all_eq_true]
    refine ⟨fun y hy => ?_, fun y hy => decide_eq_true ?_⟩
    · obtain ⟨r, hr, rfl⟩ := List.mem_map.mp hy
      exact hrow t htm r hr
    · obtain ⟨r, hr, rfl⟩ := List.mem_map.mp hy
      show (r.map PyData.int).length = lenD (headD (tabD t))
      rw [List.length_map, wid t htm]
      exact ((ht t htm).2 r hr).1
  · obtain ⟨t, htm, rfl⟩ := List.mem_map.mp hx
    cases ts with
    | nil => cases htm
    | cons t0 ts =>
      unfold sizeB
      rw [Bool.and_eq_true_iff]
      exact ⟨decide_eq_true (by rw [dep t htm]; exact (dep t0 (by simp)).symm), decide_eq_true (by rw [wid t htm]; exact (wid t0 (by simp)).symm)⟩
theorem piled_le {b : Nat} : ∀ {ts : List Str}, (∀ t ∈ ts, t.length ≤ b) → piled ts ≤ ts.length * (b + 2)
  | [], _ => by rw [piled_nil]; omega
  | t :: ts, h => by
    have h1 := h t (by simp)
    have h2 := piled_le (ts := ts) fun x hx => h x (by simp [hx])
    rw [piled_cons, List.length_cons, Nat.add_mul]
    omega
theorem shownAll_map : ∀ ds : List D, PyData.shownAll ds = ds.map PyData.shown
  | [] => by simp only [PyData.shownAll, List.map_nil]
  | d :: ds => by simp only [PyData.shownAll, List.map_cons, shownAll_map ds]
theorem tup_len {b : Nat} {ds : List D} (h : ∀ d ∈ ds, d.shown.length ≤ b) : (PyData.tuple ds).shown.length ≤ ds.length * (b + 2) + 3 := by
  have e : (PyData.tuple ds).shown = tupleText (PyData.shownAll ds) := by simp only [PyData.shown]
  rw [e, shownAll_map]
  have h2 := piled_le (ts := ds.map PyData.shown) (b := b) fun t ht => by
    obtain ⟨d, hd, rfl⟩ := List.mem_map.mp ht
    exact h d hd
  rw [List.length_map] at h2
  have h3 : (Str.join ", " (ds.map PyData.shown)).length ≤ piled (ds.map PyData.shown) := by
    by_cases z : ds.map PyData.shown = []
    · rw [z]; exact Nat.le_of_eq rfl
    · have := join_length_add _ z; omega
  have e3 : (Str.ofString "(").length = 1 := by decide
  have e4 : (Str.ofString ",)").length = 2 := by decide
  have e5 : (Str.ofString ")").length = 1 := by decide
  unfold tupleText
  rw [Str.length_append, Str.length_append]
  split
  · rw [e3, e4]; omega
  · rw [e3, e5]; omega
theorem showableAll_of : ∀ {ds : List D}, (∀ d ∈ ds, d.showable = true) → PyData.showableAll ds = true
  | [], _ => by simp only [PyData.showableAll]
  | d :: ds, h => by
    simp only [PyData.showableAll]
    rw [h d (by simp), showableAll_of fun x hx => h x (by simp [hx])]
    rfl
theorem noDictAll_of : ∀ {ds : List D}, (∀ d ∈ ds, d.hasDict = false) → PyData.hasDictAll ds = false
  | [], _ => by simp only [PyData.hasDictAll]
  | d :: ds, h => by
    simp only [PyData.hasDictAll]
    rw [h d (by simp), noDictAll_of fun x hx => h x (by simp [hx])]
    rfl
theorem depthAll_of {b : Nat} : ∀ {ds : List D}, (∀ d ∈ ds, d.depth ≤ b) → PyData.depthAll ds ≤ b
  | [], _ => by simp only [PyData.depthAll]; omega
  | d :: ds, h => by
    simp only [PyData.depthAll]
    have h1 := h d (by simp)
    have h2 := depthAll_of (ds := ds) fun x hx => h x (by simp [hx])
    omega
/-- data that may be shown, of some depth and length -/
def Shw (d : D) (k b : Nat) : Prop := d.showable = true ∧ d.hasDict = false ∧ d.depth ≤ k ∧ d.shown.length ≤ b
theorem Shw.tup {ds : List D} {k b n : Nat} (h : ∀ d ∈ ds, Shw d k b) (hn : ds.length ≤ n) : Shw (.tuple ds) (k + 1) (n * (b + 2) + 3) := by
  refine ⟨?_, ?_, ?_, ?_⟩
  · simp only [PyData.showable]; exact showableAll_of fun d hd => (h d hd).1
  · simp only [PyData.hasDict]; exact noDictAll_of fun d hd => (h d hd).2.1
  · simp only [PyData.depth]; exact Nat.succ_le_succ (depthAll_of fun d hd => (h d hd).2.2.1)
  · exact Nat.le_trans (tup_len fun d hd => (h d hd).2.2.2) (Nat.add_le_add_right (Nat.mul_le_mul_right _ hn) 3)
theorem Shw.int {i : Int} (h0 : 0 ≤ i) (h : i < 2 ^ 62) : Shw (.int i) 0 1921 := by
  have hl : i.natAbs.log2 < 1920 := by
    by_cases z : i.natAbs = 0
    · rw [z]; decide
    · exact Nat.lt_trans ((Nat.log2_lt z).mpr (show i.natAbs < 2 ^ 62 by omega)) (by decide)
  refine ⟨?_, ?_, ?_, ?_⟩
  · simp only [PyData.showable]; exact decide_eq_true hl
  · simp only [PyData.hasDict]
  · simp only [PyData.depth]; omega
  · simp only [PyData.shown]; exact int_text_len_1921 hl
theorem Shw.showD {d : D} {k b : Nat} (h : Shw d k b) (hk : k ≤ 60) (hb : b ≤ 16777216) : ShowD d := ⟨h.1, h.2.1, Nat.le_trans h.2.2.1 hk, Nat.le_trans h.2.2.2 (szl hb)⟩
theorem shw_row {r : Row} (h : ∀ x ∈ r, 0 ≤ x ∧ x < 2 ^ 62) (hl : r.length ≤ 12) : Shw (rowD r) 1 23079 :=
  Shw.tup (k := 0) (b := 1921) (n := 12) (fun d hd => by obtain ⟨x, hx, rfl⟩ := List.mem_map.mp hd; exact Shw.int (h x hx).1 (h x hx).2) (by rw [List.length_map]; exact hl)

theorem zipD_map {α β : Type} (f : α → Dl.D) (g : β → Dl.D) (as : List α) (bs : List β) : zipD (as.map f) (bs.map g) = (as.zip bs).map fun p => .tuple [f p.1, g p.2] := by
  unfold zipD
  rw [List.zip_map, List.map_map]
  rfl
theorem noOwn_no {c : Cell} {n : Nat} (h : wet c = true) : noOwn (c :: List.replicate n .no) := fun i d e => by
  cases i with
  | zero => cases e; exact wet_quiet h
  | succ i =>
    rw [List.getElem?_cons_succ, List.getElem?_replicate] at e
    split at e
    · cases e; trivial
    · cases e
theorem kw2 {fd : FuncData} {K : Fg} {ps : List Str} (h : ∀ (s : Shared) (us ws : List Value), (kwG us ws).length = ps.length → BindsTo s fd ⟨us, ps.zip ws⟩ (ps.zip (kwG us ws))) : KBinds K fd ps ps kwG kwG :=
  ⟨fun s us ws _ hl => h s us ws hl, fun r rz => by
    cases r with
    | nil => exact rz
    | cons _ _ => exact .nil⟩
theorem get_zip {α β γ : Type} {f : α → β → γ} {as : List α} {bs : List β} {i : Nat} (ha : i < as.length) (hb : i < bs.length) : (List.zipWith f as bs)[i]? = some (f as[i] bs[i]) := by
  rw [List.getElem?_zipWith, List.getElem?_eq_getElem ha, List.getElem?_eq_getElem hb]
theorem mem_zip {α β γ : Type} {f : α → β → γ} {as : List α} {bs : List β} {x : γ} (h : x ∈ List.zipWith f as bs) : ∃ a ∈ as, ∃ b ∈ bs, x = f a b := by
  induction as generalizing bs with
  | nil => simp at h
  | cons a as ih =>
    cases bs with
    | nil => simp at h
    | cons b bs =>
      rw [List.zipWith_cons_cons] at h
      rcases List.mem_cons.mp h with e | h
      · exact ⟨a, by simp, b, by simp, e⟩
      · obtain ⟨a', ha, b', hb, e⟩ := ih h
        exact ⟨a', by simp [ha], b', by simp [hb], e⟩
theorem lay_ints (r : Row) : PyData.canLayAll0 (r.map PyData.int) = true := by
  induction r with
  | nil => rfl
  | cons x r ih =>
    rw [List.map_cons]
    simp only [PyData.canLayAll0, PyData.canLay0, ih]
    rfl
theorem shaped_row (r : Row) : SeqAt.shaped (rowD r) = true := by
  unfold SeqAt.shaped rowD
  have h1 := lay_ints r
  have h2 := depth_ints r
  simp only [PyData.canLay0, PyData.depth, h1, Bool.true_and]
  exact decide_eq_true (by omega)
theorem map_zip2 {α β γ : Type} (f : α → β → γ) : ∀ (as : List α) (bs : List β), (as.zip bs).map (fun p => f p.1 p.2) = List.zipWith f as bs
  | [], _ => by simp
  | _ :: _, [] => by simp
  | a :: as, b :: bs => by simp [map_zip2 f as bs]
/-- a list, or a tuple -/
def seqD (b : Bool) (xs : List Dl.D) : Dl.D := if b = true then .list xs else .tuple xs
theorem seqD_seq (b : Bool) (xs : List Dl.D) : SeqD (seqD b xs) xs := by cases b <;> first | exact .inl rfl | exact .inr rfl
/-- a net, as the document says -/
structure Net where
  p : Int
  ts : List Tab
  s : Nat
  d : Nat
  m : Nat
  ok : NetOk p s d m ts
def Net.D (x : Net) : Dl.D := netD x.p x.ts
theorem Net.pos (x : Net) : 2 ≤ x.p ∧ x.p ≤ 7 := x.ok.1.pos
theorem Net.len (x : Net) : x.ts.length = x.s := x.ok.2.2.2.2.1
theorem Net.sb (x : Net) : 1 ≤ x.s ∧ x.s ≤ 6 := x.ok.2.1
theorem Net.db (x : Net) : 1 ≤ x.d ∧ x.d ≤ 12 := x.ok.2.2.1
theorem Net.mb (x : Net) : 1 ≤ x.m ∧ x.m ≤ 12 := x.ok.2.2.2.1
theorem Net.tab (x : Net) : ∀ t ∈ x.ts, TabOk x.p x.d x.m t := x.ok.2.2.2.2.2
theorem Net.clean (x : Net) : Dl.clean x.D = true := clean_net x.p x.ts
theorem Net.isB (x : Net) : netB x.D = true := netB_ok x.ok
theorem Net.first (x : Net) : ∃ r t ts', x.ts = (r :: t) :: ts' ∧ r.length = x.m ∧ (r :: t).length = x.d := by
  obtain ⟨r, t, ts', e, h⟩ := x.ok.first
  exact ⟨r, t, ts', e, h, (x.tab (r :: t) (by rw [e]; simp)).1⟩
/-- what is a word of a net -/
def wordB (x : Net) : Dl.D → Bool | .tuple xs => decide (xs.length = x.s) && xs.all (rowB x.p x.d x.d) | _ => false
theorem wordB_no {x : Net} {d : Dl.D} (h : (!isTupD d) = true) : wordB x d = false := by
  have := not_tup h
  cases d <;> first | rfl | (exact absurd rfl (this _))
theorem wordB_out {x : Net} {xs : List Dl.D} (h : xs.length ≠ x.s) : wordB x (.tuple xs) = false := by
  show (decide _ && _) = false
  rw [decide_eq_false h]
  rfl
theorem wordB_in {x : Net} {xs : List Dl.D} (h : xs.length = x.s) : wordB x (.tuple xs) = xs.all (rowB x.p x.d x.d) := by
  show (decide _ && _) = _
  rw [decide_eq_true h, Bool.true_and]
theorem figB_ok {p x : Int} (h : 0 ≤ x ∧ x < p) : figB p (.int x) = true := by
  show (decide _ && decide _) = true
  rw [decide_eq_true h.1, decide_eq_true h.2]
  rfl
theorem rowB_ok {p : Int} {l m : Int} {r : Row} (h : ∀ x ∈ r, 0 ≤ x ∧ x < p) (h1 : l ≤ r.length) (h2 : (r.length : Int) ≤ m) : rowB p l m (rowD r) = true := by
  unfold rowD
  rw [rowB_in (by rw [List.length_map]; exact ⟨h1, h2⟩), List.all_eq_true]
  intro x hx
  obtain ⟨y, hy, rfl⟩ := List.mem_map.mp hx
  exact figB_ok (h y hy)
theorem wordB_ok {x : Net} {w : Tab} (h : TabOk x.p x.s x.d w) : wordB x (tabD w) = true := by
  unfold tabD
  rw [wordB_in (by rw [List.length_map]; exact h.1), List.all_eq_true]
  intro y hy
  obtain ⟨r, hr, rfl⟩ := List.mem_map.mp hy
  have := h.2 r hr
  exact rowB_ok this.2 (by rw [this.1]; omega) (by rw [this.1]; omega)
/-- a net and a word of it -/
structure NW where
  x : Net
  w : Tab
  ok : TabOk x.p x.s x.d w
end
end Lw

/-! shapes of words -/
namespace Lw
open PySem PySem.Spec PyProof.Rows L2 DlP Dl
/-- the places, from k + 1 on, where a row has not 0 -/
def places : Row → Int → List Int
  | [], _ => []
  | x :: r, k => if x = 0 then places r (k + 1) else (k + 1) :: places r (k + 1)
def gp (r : Row) : Int := (places r 0).foldl max 0
def shp (w : Tab) : Row := w.map gp
theorem rngD_succ (k : Int) (n : Nat) : rngD k (n + 1) = .int k :: rngD (k + 1) n := by
  unfold rngD
  rw [List.range_succ_eq_map, List.map_cons, List.map_map]
  congr 1
  · simp
  · refine List.map_congr_left fun i _ => ?_
    show PyData.int (k + ((i + 1 : Nat) : Int)) = PyData.int (k + 1 + (i : Nat))
    congr 1
    omega
def tEn : D → Bool | .tuple [_, .int x] => !decide (x = 0) | _ => false
def fEn : D → D | .tuple [.int i, _] => .int (i + 1) | _ => .none
theorem places_enum : ∀ (r : Row) (k : Int), ((zipD (rngD k r.length) (r.map PyData.int)).filter tEn).map fEn = (places r k).map PyData.int
  | [], k => rfl
  | x :: r, k => by
    have ih := places_enum r (k + 1)
    rw [List.length_cons, rngD_succ, List.map_cons]
    show (((PyData.tuple [.int k, .int x]) :: zipD (rngD (k + 1) r.length) (r.map PyData.int)).filter tEn).map fEn = _
    by_cases h : x = 0
    · have e : tEn (.tuple [.int k, .int x]) = false := by simp [tEn, h]
      rw [List.filter_cons_of_neg (by rw [e]; simp), ih]
      simp [places, h]
    · have e : tEn (.tuple [.int k, .int x]) = true := by simp [tEn, h]
      rw [List.filter_cons_of_pos e, List.map_cons, ih]
      simp [places, h, fEn]
theorem enum_ints (r : Row) : enumD (r.map PyData.int) = zipD (rngD 0 r.length) (r.map PyData.int) := by
  unfold enumD
  rw [List.length_map]
def tRg (r : Row) : D → Bool | .int j => !decide (r.getD j.toNat 0 = 0) | _ => false
def fRg : D → D | .int j => .int (j + 1) | _ => .none
theorem places_range : ∀ (q r : Row), ((rngD (q.length : Nat) r.length).filter (tRg (q ++ r))).map fRg = (places r (q.length : Nat)).map PyData.int
  | q, [] => rfl
  | q, x :: r => by
    have ih := places_range (q ++ [x]) r
    rw [List.append_assoc, List.singleton_append, List.length_append, List.length_singleton] at ih
    have ec : (((q.length + 1 : Nat)) : Int) = (q.length : Nat) + 1 := by omega
    rw [ec] at ih
    rw [List.length_cons, rngD_succ]
    have hg : (q ++ x :: r).getD q.length 0 = x := by simp
    by_cases h : x = 0
    · have e : tRg (q ++ x :: r) (.int (q.length : Nat)) = false := by
        show (!decide ((q ++ x :: r).getD ((q.length : Nat) : Int).toNat 0 = 0)) = false
        rw [Int.toNat_natCast, hg]
        simp [h]
      rw [List.filter_cons_of_neg (by rw [e]; simp), ih]
      simp [places, h]
    · have e : tRg (q ++ x :: r) (.int (q.length : Nat)) = true := by
        show (!decide ((q ++ x :: r).getD ((q.length : Nat) : Int).toNat 0 = 0)) = true
        rw [Int.toNat_natCast, hg]
        simp [h]
      rw [List.filter_cons_of_pos e, List.map_cons, ih]
      simp [places, h, fRg]
theorem places_pos : ∀ (r : Row) (k : Int), 0 ≤ k → ∀ x ∈ places r k, k + 1 ≤ x ∧ x ≤ k + r.length
  | [], _, _, x, h => by simp [places] at h
  | y :: r, k, hk, x, h => by
    unfold places at h
    rw [List.length_cons]
    split at h
    · have := places_pos r (k + 1) (by omega) x h
      omega
    · rcases List.mem_cons.mp h with e | h
      · omega
      · have := places_pos r (k + 1) (by omega) x h
        omega
theorem maxI_gp (r : Row) : maxI (places r 0) 0 = gp r := by
  unfold gp
  cases e : places r 0 with
  | nil => rfl
  | cons n ns =>
    have := places_pos r 0 (by omega) n (by rw [e]; simp)
    show ns.foldl max n = ns.foldl max (max 0 n)
    rw [show max 0 n = n by omega]
theorem foldl_max_le {b : Int} : ∀ (l : List Int) (a : Int), a ≤ b → (∀ x ∈ l, x ≤ b) → l.foldl max a ≤ b
  | [], _, h, _ => h
  | y :: l, a, h, hl => foldl_max_le l (max a y) (by have := hl y (by simp); omega) fun x hx => hl x (by simp [hx])
theorem le_foldl_max : ∀ (l : List Int) (a : Int), a ≤ l.foldl max a ∧ ∀ x ∈ l, x ≤ l.foldl max a
  | [], a => ⟨Int.le_refl _, fun _ h => nomatch h⟩
  | y :: l, a => by
    obtain ⟨h1, h2⟩ := le_foldl_max l (max a y)
    refine ⟨by show a ≤ l.foldl max (max a y); omega, fun x hx => ?_⟩
    rcases List.mem_cons.mp hx with e | h
    · show x ≤ l.foldl max (max a y); omega
    · exact h2 x h
theorem gp_bound (r : Row) : 0 ≤ gp r ∧ gp r ≤ r.length := ⟨(le_foldl_max _ _).1, foldl_max_le _ _ (by omega) fun x hx => by have := places_pos r 0 (by omega) x hx; omega⟩
theorem mem_places : ∀ (r : Row) (k : Int) (j : Nat), r.getD j 0 ≠ 0 → k + j + 1 ∈ places r k
  | [], _, j, h => by simp at h
  | x :: r, k, 0, h => by
    have h : x ≠ 0 := by simpa using h
    unfold places
    rw [if_neg h]
    simp
  | x :: r, k, j + 1, h => by
    have h : r.getD j 0 ≠ 0 := by simpa using h
    have ih := mem_places r (k + 1) j h
    have e : k + ((j + 1 : Nat) : Int) + 1 = k + 1 + j + 1 := by omega
    rw [e]
    unfold places
    split
    · exact ih
    · exact List.mem_cons_of_mem _ ih
theorem of_places : ∀ (r : Row) (k x : Int), x ∈ places r k → ∃ j : Nat, x = k + j + 1 ∧ r.getD j 0 ≠ 0
  | [], _, x, h => by simp [places] at h
  | y :: r, k, x, h => by
    unfold places at h
    split at h
    · obtain ⟨j, e, h⟩ := of_places r (k + 1) x h
      exact ⟨j + 1, by omega, by simpa using h⟩
    · rename_i hy
      rcases List.mem_cons.mp h with e | h
      · exact ⟨0, by omega, by simpa using hy⟩
      · obtain ⟨j, e, h⟩ := of_places r (k + 1) x h
        exact ⟨j + 1, by omega, by simpa using h⟩
/-- nought from a place on -/
theorem gp_le {r : Row} {k : Nat} : gp r ≤ k ↔ ∀ j : Nat, k ≤ j → r.getD j 0 = 0 := by
  constructor
  · intro h j hj
    by_cases z : r.getD j 0 = 0
    · exact z
    · have h1 := (le_foldl_max (places r 0) 0).2 _ (mem_places r 0 j z)
      have h2 : (0 : Int) + j + 1 ≤ gp r := h1
      omega
  · intro h
    refine foldl_max_le _ _ (by omega) fun x hx => ?_
    obtain ⟨j, e, hj⟩ := of_places r 0 x hx
    by_cases z : k ≤ j
    · exact absurd (h j z) hj
    · omega
theorem getD_zipWith {f : Int → Int → Int} (h0 : f 0 0 = 0) : ∀ (a b : Row), a.length = b.length → ∀ j, (List.zipWith f a b).getD j 0 = f (a.getD j 0) (b.getD j 0)
  | [], [], _, j => by simp [h0]
  | x :: a, y :: b, h, 0 => by simp
  | x :: a, y :: b, h, j + 1 => by
    have := getD_zipWith h0 a b (by simpa using h) j
    simpa using this
theorem gp_add {f : Int → Int → Int} (h0 : f 0 0 = 0) {a b : Row} (h : a.length = b.length) : gp (List.zipWith f a b) ≤ max (gp a) (gp b) := by
  obtain ⟨ka, ea⟩ := Int.eq_ofNat_of_zero_le (gp_bound a).1
  obtain ⟨kb, eb⟩ := Int.eq_ofNat_of_zero_le (gp_bound b).1
  have hm : max (gp a) (gp b) = ((max ka kb : Nat) : Int) := by rw [ea, eb]; omega
  rw [hm, gp_le]
  intro j hj
  rw [getD_zipWith h0 a b h, gp_le.mp (Int.le_of_eq ea) j (by omega), gp_le.mp (Int.le_of_eq eb) j (by omega), h0]
theorem places_map {g : Int → Int} : ∀ (r : Row) (k : Int), (∀ x ∈ r, g x = 0 ↔ x = 0) → places (r.map g) k = places r k
  | [], _, _ => rfl
  | x :: r, k, h => by
    have h1 := h x (by simp)
    rw [List.map_cons]
    unfold places
    rw [places_map r (k + 1) fun y hy => h y (by simp [hy])]
    by_cases z : x = 0
    · rw [if_pos (h1.mpr z), if_pos z]
    · rw [if_neg (fun e => z (h1.mp e)), if_neg z]
theorem gp_map {g : Int → Int} {r : Row} (h : ∀ x ∈ r, g x = 0 ↔ x = 0) : gp (r.map g) = gp r := by
  unfold gp
  rw [places_map r 0 h]
/-- no divisors of 0 -/
theorem mul_ne {p f x : Int} (hp : Base p) (hf : 1 ≤ f ∧ f < p) (hx : 0 ≤ x ∧ x < p) : (f * x).fmod p = 0 ↔ x = 0 := by
  have key : ∀ q : Fin 8, (q = 2 ∨ q = 3 ∨ q = 5 ∨ q = 7) → ∀ a b : Fin 8, 1 ≤ a → a < q → b < q → (a.val * b.val % q.val = 0 ↔ b = 0) := by decide
  have hpp := hp.pos
  obtain ⟨pn, rfl⟩ := Int.eq_ofNat_of_zero_le (show 0 ≤ p by omega)
  obtain ⟨fn, rfl⟩ := Int.eq_ofNat_of_zero_le (show 0 ≤ f by omega)
  obtain ⟨xn, rfl⟩ := Int.eq_ofNat_of_zero_le hx.1
  have h := key ⟨pn, by omega⟩ (by
    rcases hp with h | h | h | h
    · exact .inl (Fin.ext (by show pn = 2; omega))
    · exact .inr (.inl (Fin.ext (by show pn = 3; omega)))
    · exact .inr (.inr (.inl (Fin.ext (by show pn = 5; omega))))
    · exact .inr (.inr (.inr (Fin.ext (by show pn = 7; omega))))) ⟨fn, by omega⟩ ⟨xn, by omega⟩ (by show 1 ≤ fn; omega) (by show fn < pn; omega) (by show xn < pn; omega)
  rw [Int.fmod_eq_emod_of_nonneg _ (by omega)]
  have e : ((fn : Int) * (xn : Int)) % (pn : Int) = ((fn * xn % pn : Nat) : Int) := by simp
  rw [e]
  constructor
  · intro z
    have z : fn * xn % pn = 0 := by omega
    have := h.mp z
    have : xn = 0 := congrArg Fin.val this
    omega
  · intro z
    have z : xn = 0 := by omega
    have := h.mpr (Fin.ext z)
    have : fn * xn % pn = 0 := this
    omega
end Lw

namespace Lw
open PySem PySem.Spec PyProof.Rows L2 DlP Dl
/-! ### figures of a number -/
def digs (p m n : Nat) : List Int := (List.range m).map fun i => (((n / p ^ i) % p : Nat) : Int)
theorem digs_len (p m n : Nat) : (digs p m n).length = m := by unfold digs; rw [List.length_map, List.length_range]
theorem digs_lt {p : Nat} (h : 0 < p) (m n : Nat) : ∀ x ∈ digs p m n, 0 ≤ x ∧ x < (p : Int) := fun x hx => by
  obtain ⟨i, _, rfl⟩ := List.mem_map.mp hx
  have := Nat.mod_lt (n / p ^ i) h
  omega
theorem digs_snoc (p m n : Nat) : digs p (m + 1) n = digs p m n ++ [(((n / p ^ m) % p : Nat) : Int)] := by
  unfold digs
  rw [List.range_succ, List.map_append]
  rfl
theorem digs_lead {p m n f : Nat} (hp : 0 < p) (hn : n < p ^ m) (hf : f < p) : digs p (m + 1) (p ^ m * f + n) = digs p m n ++ [(f : Int)] := by
  rw [digs_snoc]
  have h1 : (p ^ m * f + n) / p ^ m % p = f := by
    rw [Nat.mul_add_div (Nat.pow_pos hp), Nat.div_eq_of_lt hn, Nat.add_zero, Nat.mod_eq_of_lt hf]
  rw [h1]
  congr 1
  unfold digs
  refine List.map_congr_left fun i hi => ?_
  have hi : i < m := List.mem_range.mp hi
  obtain ⟨c, rfl⟩ : ∃ c, m = i + (c + 1) := ⟨m - i - 1, by omega⟩
  have h2 : p ^ (i + (c + 1)) * f + n = p ^ i * (p * (p ^ c * f)) + n := by
    rw [Nat.pow_add, Nat.pow_succ]
    simp only [Nat.mul_assoc, Nat.mul_comm, Nat.mul_left_comm]
  rw [h2, Nat.mul_add_div (Nat.pow_pos hp), Nat.mul_add_mod]
/-! ### a fraction -/
def val (p : Int) (l : List Int) : Int := l.foldl (fun a f => a * p + f) 0
theorem val_snoc (p : Int) (l : List Int) (x : Int) : val p (l ++ [x]) = val p l * p + x := by unfold val; rw [List.foldl_append]; rfl
theorem val_bound {p : Int} (hp : 1 ≤ p) : ∀ (l : List Int), (∀ x ∈ l, 0 ≤ x ∧ x < p) → 0 ≤ val p l ∧ val p l < p ^ l.length := by
  have key : ∀ (l : List Int) (a : Int) (i : Nat), (∀ x ∈ l, 0 ≤ x ∧ x < p) → 0 ≤ a → a < p ^ i → 0 ≤ l.foldl (fun a f => a * p + f) a ∧ l.foldl (fun a f => a * p + f) a < p ^ (i + l.length) := by
    intro l
    induction l with
    | nil => intro a i _ h0 h1; exact ⟨h0, h1⟩
    | cons x l ih =>
      intro a i h h0 h1
      have hx := h x (by simp)
      have := ih (a * p + x) (i + 1) (fun y hy => h y (by simp [hy])) (by have := Int.mul_nonneg h0 (show 0 ≤ p by omega); omega) (by
        rw [Int.pow_succ]
        have := Int.mul_le_mul_of_nonneg_right (show a + 1 ≤ p ^ i by omega) (show 0 ≤ p by omega)
        rw [Int.add_mul] at this
        omega)
      rw [List.length_cons]
      have e : i + (l.length + 1) = i + 1 + l.length := by omega
      rw [e]
      exact this
  intro l h
  have := key l 0 0 h (by omega) (by rw [Int.pow_zero]; omega)
  rw [Nat.zero_add] at this
  exact this
/-- what is left when a number and p ^ k are divided by what divides both -/
def frac (p : Int) (l : List Int) : List Int :=
  [(((val p l).toNat / Nat.gcd (val p l).toNat (p.toNat ^ l.length) : Nat) : Int), ((p.toNat ^ l.length / Nat.gcd (val p l).toNat (p.toNat ^ l.length) : Nat) : Int)]
theorem coprime_of {p w : Nat} (hp : p = 2 ∨ p = 3 ∨ p = 5 ∨ p = 7) (h : w % p ≠ 0) : Nat.Coprime w p := by
  rw [Nat.coprime_iff_gcd_eq_one, Nat.gcd_comm, Nat.gcd_rec]
  have hl := Nat.mod_lt w (show p > 0 by omega)
  generalize w % p = r at h hl
  rcases hp with rfl | rfl | rfl | rfl
  · have : r = 1 := by omega
    subst this; decide
  · have : r = 1 ∨ r = 2 := by omega
    rcases this with rfl | rfl <;> decide
  · have : r = 1 ∨ r = 2 ∨ r = 3 ∨ r = 4 := by omega
    rcases this with rfl | rfl | rfl | rfl <;> decide
  · have : r = 1 ∨ r = 2 ∨ r = 3 ∨ r = 4 ∨ r = 5 ∨ r = 6 := by omega
    rcases this with rfl | rfl | rfl | rfl | rfl | rfl <;> decide
theorem left_over {p n w l i k : Nat} (hp : 0 < p) (h1 : w * p ^ i = n) (h2 : l * p ^ i = p ^ k) (h3 : Nat.gcd w l = 1) : n / Nat.gcd n (p ^ k) = w ∧ p ^ k / Nat.gcd n (p ^ k) = l := by
  have hg : Nat.gcd n (p ^ k) = p ^ i := by rw [← h1, ← h2, Nat.gcd_mul_right, h3, Nat.one_mul]
  rw [hg, ← h1, ← h2, Nat.mul_div_cancel _ (Nat.pow_pos hp), Nat.mul_div_cancel _ (Nat.pow_pos hp)]
  exact ⟨rfl, rfl⟩
end Lw

/-! sums of figures times rows -/
namespace Lw
open PySem PySem.Spec PyProof.Rows L2 DlP Dl
/-- all rows of m figures, by their numbers -/
def allRows (p m : Nat) : List Row := (List.range (p ^ m)).map (digs p m)
theorem allRows_len (p m : Nat) : (allRows p m).length = p ^ m := by unfold allRows; rw [List.length_map, List.length_range]
theorem allRows_ok {p m : Nat} (hp : 0 < p) : ∀ r ∈ allRows p m, RowOk p m r := fun r hr => by
  obtain ⟨n, _, rfl⟩ := List.mem_map.mp hr
  exact ⟨digs_len p m n, digs_lt hp m n⟩
theorem row_snoc {α : Type} {r : List α} {m : Nat} (h : r.length = m + 1) : ∃ q x, r = q ++ [x] ∧ q.length = m := by
  have hne : r ≠ [] := fun z => by rw [z] at h; cases h
  refine ⟨r.dropLast, r.getLast hne, (List.dropLast_concat_getLast hne).symm, ?_⟩
  rw [List.length_dropLast, h]
  rfl
theorem row_num {p : Nat} (hp : 0 < p) : ∀ (m : Nat) (r : Row), RowOk p m r → ∃ n, n < p ^ m ∧ r = digs p m n
  | 0, r, h => ⟨0, by simp, by rw [List.eq_nil_of_length_eq_zero h.1]; rfl⟩
  | m + 1, r, h => by
    obtain ⟨q, x, rfl, hq⟩ := row_snoc h.1
    obtain ⟨n, hn, e⟩ := row_num hp m q ⟨hq, fun y hy => h.2 y (by simp [hy])⟩
    have hx := h.2 x (by simp)
    obtain ⟨f, rfl⟩ := Int.eq_ofNat_of_zero_le hx.1
    have hf : f < p := by omega
    refine ⟨p ^ m * f + n, ?_, by rw [digs_lead hp hn hf, e]⟩
    have : p ^ m * (f + 1) ≤ p ^ m * p := Nat.mul_le_mul_left _ hf
    rw [Nat.mul_add, Nat.mul_one] at this
    rw [Nat.pow_succ]
    omega
theorem mem_allRows {p m : Nat} (hp : 0 < p) {r : Row} (h : RowOk p m r) : r ∈ allRows p m := by
  obtain ⟨n, hn, e⟩ := row_num hp m r h
  exact List.mem_map.mpr ⟨n, List.mem_range.mpr hn, e.symm⟩
theorem dot_nil (r : Row) : dot [] r = 0 := rfl
theorem dot_cons (x y : Int) (l r : Row) : dot (x :: l) (y :: r) = x * y + dot l r := rfl
theorem dot_nil' (l : Row) : dot l [] = 0 := by cases l <;> rfl
theorem dot_comm : ∀ l r : Row, dot l r = dot r l
  | [], r => by rw [dot_nil, dot_nil']
  | x :: l, [] => by rw [dot_nil, dot_nil']
  | x :: l, y :: r => by rw [dot_cons, dot_cons, dot_comm l r, Int.mul_comm]
theorem dot_add {b : Row} : ∀ {u v : Row}, u.length = v.length → dot (List.zipWith (· + ·) u v) b = dot u b + dot v b := by
  induction b with
  | nil => intro u v _; rw [dot_nil', dot_nil', dot_nil']; rfl
  | cons y b ih =>
    intro u v h
    cases u with
    | nil => cases v with
      | nil => rfl
      | cons _ _ => cases h
    | cons x u =>
      cases v with
      | nil => cases h
      | cons z v =>
        rw [List.zipWith_cons_cons, dot_cons, dot_cons, dot_cons, ih (by simpa using h), Int.add_mul]
        omega
theorem dot_mul (w : Int) : ∀ (u b : Row), dot (u.map (w * ·)) b = w * dot u b
  | [], b => by rw [List.map_nil, dot_nil, Int.mul_zero]
  | x :: u, [] => by rw [dot_nil', dot_nil', Int.mul_zero]
  | x :: u, y :: b => by rw [List.map_cons, dot_cons, dot_cons, dot_mul w u b, Int.mul_add, Int.mul_assoc]
theorem dot_dvd {p : Int} : ∀ {u b : Row}, (∀ x ∈ u, p ∣ x) → p ∣ dot u b
  | [], b, _ => by rw [dot_nil]; exact Int.dvd_zero p
  | x :: u, [], _ => by rw [dot_nil']; exact Int.dvd_zero p
  | x :: u, y :: b, h => by
    rw [dot_cons]
    exact Int.dvd_add (Int.dvd_mul_of_dvd_left (h x (by simp))) (dot_dvd fun z hz => h z (by simp [hz]))
/-- alike but for multiples of p -/
theorem dot_mod {p : Int} {f g : Row → Int} : ∀ {ws : Row} {rs : Tab}, (∀ r ∈ rs, p ∣ f r - g r) → p ∣ dot ws (rs.map f) - dot ws (rs.map g)
  | [], rs, _ => by rw [dot_nil, dot_nil]; exact Int.dvd_zero p
  | w :: ws, [], _ => by rw [List.map_nil, dot_nil', List.map_nil, dot_nil']; exact Int.dvd_zero p
  | w :: ws, r :: rs, h => by
    rw [List.map_cons, List.map_cons, dot_cons, dot_cons]
    have h1 := h r (by simp)
    have h2 := dot_mod (ws := ws) (rs := rs) (f := f) (g := g) fun q hq => h q (by simp [hq])
    have e : w * f r + dot ws (rs.map f) - (w * g r + dot ws (rs.map g)) = w * (f r - g r) + (dot ws (rs.map f) - dot ws (rs.map g)) := by
      rw [Int.mul_sub]; omega
    rw [e]
    exact Int.dvd_add (Int.dvd_mul_of_dvd_right h1) h2
theorem fmod_dvd (p a : Int) : p ∣ a.fmod p - a := ⟨-(a.fdiv p), by have := Int.mul_fdiv_add_fmod a p; rw [Int.mul_neg]; omega⟩
theorem fmod_zero {p a : Int} : a.fmod p = 0 ↔ p ∣ a := ⟨Int.dvd_of_fmod_eq_zero, Int.fmod_eq_zero_of_dvd⟩
theorem dvd_iff {p a b : Int} (h : p ∣ a - b) : p ∣ a ↔ p ∣ b := ⟨fun k => by
  have := Int.dvd_sub k h
  rwa [show a - (a - b) = b by omega] at this, fun k => by
  have := Int.dvd_add h k
  rwa [show a - b + b = a by omega] at this⟩
/-- a table's column -/
def colAt (rs : Tab) (c : Nat) : Row := rs.map fun r => r.getD c 0
def colsOf (rs : Tab) (m : Nat) : Tab := (List.range m).map (colAt rs)
theorem row_range {r : Row} {m : Nat} (h : r.length = m) : (List.range m).map (fun c => r.getD c 0) = r := by
  subst h
  refine List.ext_getElem (by simp) fun i h1 h2 => ?_
  simp [h2]
theorem zip_range (f g : Nat → Int) : ∀ l : List Nat, List.zipWith (· + ·) (l.map f) (l.map g) = l.map fun c => f c + g c
  | [] => rfl
  | x :: l => by rw [List.map_cons, List.map_cons, List.zipWith_cons_cons, zip_range f g l]; rfl
/-- sums in either order -/
theorem dot_swap {m : Nat} {b : Row} : ∀ {ws : Row} {rs : Tab}, (∀ r ∈ rs, r.length = m) → dot ws (rs.map fun r => dot r b) = dot ((List.range m).map fun c => dot ws (colAt rs c)) b
  | [], rs, _ => by
    rw [dot_nil]
    have e : (List.range m).map (fun c => dot [] (colAt rs c)) = (List.range m).map fun _ => (0 : Int) := rfl
    rw [e]
    have : ∀ (l : List Nat) (b : Row), dot (l.map fun _ => (0 : Int)) b = 0 := fun l => by
      induction l with
      | nil => intro b; rfl
      | cons _ l ih =>
        intro b
        cases b with
        | nil => rw [dot_nil']
        | cons y b => rw [List.map_cons, dot_cons, ih]; simp
    rw [this]
  | w :: ws, [], _ => by
    rw [List.map_nil, dot_nil']
    have e : (List.range m).map (fun c => dot (w :: ws) (colAt [] c)) = (List.range m).map fun _ => (0 : Int) := rfl
    rw [e]
    have : ∀ (l : List Nat) (b : Row), dot (l.map fun _ => (0 : Int)) b = 0 := fun l => by
      induction l with
      | nil => intro b; rfl
      | cons _ l ih =>
        intro b
        cases b with
        | nil => rw [dot_nil']
        | cons y b => rw [List.map_cons, dot_cons, ih]; simp
    rw [this]
  | w :: ws, r :: rs, h => by
    have hr := h r (by simp)
    have ih := dot_swap (b := b) (ws := ws) (rs := rs) fun q hq => h q (by simp [hq])
    rw [List.map_cons, dot_cons, ih]
    have e : (List.range m).map (fun c => dot (w :: ws) (colAt (r :: rs) c)) = List.zipWith (· + ·) (r.map (w * ·)) ((List.range m).map fun c => dot ws (colAt rs c)) := by
      have e1 : r.map (w * ·) = (List.range m).map fun c => w * r.getD c 0 := by
        conv => lhs; rw [← row_range hr]
        rw [List.map_map]
        rfl
      rw [e1, zip_range]
      rfl
    rw [e, dot_add (by simp [hr]), dot_mul]
/-- the c-th unit row -/
def unitR (m c : Nat) : Row := (List.range m).map fun i => if i = c then 1 else 0
theorem unitR_ok {p : Int} (hp : 2 ≤ p) (m c : Nat) : RowOk p m (unitR m c) := by
  refine ⟨by simp [unitR], fun x hx => ?_⟩
  obtain ⟨i, _, rfl⟩ := List.mem_map.mp hx
  split <;> omega
theorem dot_range {g : Nat → Int} {f : Nat → Int} : ∀ (l : List Nat), dot (l.map f) (l.map g) = (l.map fun i => f i * g i).sum
  | [] => rfl
  | x :: l => by rw [List.map_cons, List.map_cons, dot_cons, dot_range l]; rfl
theorem sum_unit (f : Nat → Int) (c : Nat) : ∀ (m : Nat), ((List.range m).map fun i => f i * (if i = c then 1 else 0)).sum = if c < m then f c else 0
  | 0 => rfl
  | m + 1 => by
    rw [List.range_succ, List.map_append, List.sum_append, sum_unit f c m]
    simp only [List.map_cons, List.map_nil, List.sum_cons, List.sum_nil]
    by_cases h : m = c
    · subst h; simp
    · rw [if_neg h]
      by_cases h2 : c < m
      · rw [if_pos h2, if_pos (by omega)]; omega
      · rw [if_neg h2, if_neg (by omega)]; omega
theorem dot_unit {r : Row} {m c : Nat} (hr : r.length = m) (hc : c < m) : dot r (unitR m c) = r.getD c 0 := by
  conv => lhs; rw [← row_range hr]
  unfold unitR
  rw [dot_range, sum_unit, if_pos hc]
/-- a word is nought at all points exactly if it is nought times all columns -/
theorem dual_iff {p m : Nat} {ws : Row} {rs : Tab} (hp : 2 ≤ p) (h : ∀ r ∈ rs, r.length = m) :
    (∀ c < m, ((p : Int)) ∣ dot ws (colAt rs c)) ↔ ∀ b ∈ allRows p m, (dot ws (rs.map fun r => (dot r b).fmod p)).fmod p = 0 := by
  have hm : ∀ b : Row, ((p : Int)) ∣ dot ws (rs.map fun r => (dot r b).fmod p) - dot ws (rs.map fun r => dot r b) := fun b => dot_mod fun r _ => fmod_dvd _ _
  constructor
  · intro hc b _
    rw [fmod_zero, dvd_iff (hm b), dot_swap h]
    refine dot_dvd fun x hx => ?_
    obtain ⟨c, hcm, rfl⟩ := List.mem_map.mp hx
    exact hc c (List.mem_range.mp hcm)
  · intro hb c hc
    have h1 := hb (unitR m c) (mem_allRows (by omega) (unitR_ok (by omega) m c))
    rw [fmod_zero, dvd_iff (hm _)] at h1
    have e : rs.map (fun r => dot r (unitR m c)) = colAt rs c := List.map_congr_left fun r hr => dot_unit (h r hr) hc
    rwa [e] at h1
/-- the law's own sum, step by step -/
def sumStep (p : Int) (t : Row) (fl : Int × Row) : Row := List.zipWith (fun x y => (x + fl.1 * y).fmod p) t fl.2
def sumOf (p : Int) (m : Nat) (figs : Row) (lines : Tab) : Row := (figs.zip lines).foldl (sumStep p) (List.replicate m 0)
theorem sum_steps {p : Int} {m : Nat} (hp : 0 < p) : ∀ (ps : List (Int × Row)) (t : Row), t.length = m → (∀ x ∈ t, 0 ≤ x ∧ x < p) → (∀ q ∈ ps, q.2.length = m) →
    RowOk p m (ps.foldl (sumStep p) t) ∧ ∀ c, p ∣ (ps.foldl (sumStep p) t).getD c 0 - (t.getD c 0 + dot (ps.map (·.1)) (ps.map fun q => q.2.getD c 0))
  | [], t, h, h0, _ => ⟨⟨h, h0⟩, fun c => by simp [dot_nil]⟩
  | q :: ps, t, h, h0, hq => by
    have hl : (sumStep p t q).length = m := by unfold sumStep; rw [List.length_zipWith, h, hq q (by simp), Nat.min_self]
    obtain ⟨h1, h2⟩ := sum_steps hp ps (sumStep p t q) hl (fun x hx => by
      obtain ⟨a, _, b, _, rfl⟩ := mem_zip hx
      rw [Int.fmod_eq_emod_of_nonneg _ (by omega)]
      exact ⟨Int.emod_nonneg _ (by omega), Int.emod_lt_of_pos _ hp⟩) fun r hr => hq r (by simp [hr])
    refine ⟨h1, fun c => ?_⟩
    rw [List.map_cons, List.map_cons, dot_cons]
    have e : (sumStep p t q).getD c 0 = (t.getD c 0 + q.1 * q.2.getD c 0).fmod p := by
      unfold sumStep
      rw [getD_zipWith (f := fun x y => (x + q.1 * y).fmod p) (by simp) t q.2 (by rw [h, hq q (by simp)])]
    have h3 := h2 c
    rw [e] at h3
    have h4 := fmod_dvd p (t.getD c 0 + q.1 * q.2.getD c 0)
    have := Int.dvd_add h3 h4
    rw [List.foldl_cons]
    have e2 : (ps.foldl (sumStep p) (sumStep p t q)).getD c 0 - ((t.getD c 0 + q.1 * q.2.getD c 0).fmod p + dot (ps.map (·.1)) (ps.map fun q => q.2.getD c 0)) + ((t.getD c 0 + q.1 * q.2.getD c 0).fmod p - (t.getD c 0 + q.1 * q.2.getD c 0)) = (ps.foldl (sumStep p) (sumStep p t q)).getD c 0 - (t.getD c 0 + (q.1 * q.2.getD c 0 + dot (ps.map (·.1)) (ps.map fun q => q.2.getD c 0))) := by omega
    rwa [e2] at this
theorem sumOf_ok {p : Int} {m : Nat} (hp : 0 < p) {figs : Row} {lines : Tab} (hl : figs.length = lines.length) (hm : ∀ r ∈ lines, r.length = m) :
    RowOk p m (sumOf p m figs lines) ∧ ∀ c, p ∣ (sumOf p m figs lines).getD c 0 - dot figs (colAt lines c) := by
  have key := sum_steps (m := m) hp (figs.zip lines) (List.replicate m 0) (by simp) (fun x hx => by rw [List.eq_of_mem_replicate hx]; omega) fun q hq => hm q.2 (List.of_mem_zip (a := q.1) (b := q.2) hq).2
  have e1 : (figs.zip lines).map (·.1) = figs := by rw [List.map_fst_zip (by omega)]
  refine ⟨key.1, fun c => ?_⟩
  have h := key.2 c
  rw [e1] at h
  have e2 : (figs.zip lines).map (fun q => q.2.getD c 0) = colAt lines c := by
    have : (figs.zip lines).map (fun q => q.2.getD c 0) = ((figs.zip lines).map (·.2)).map fun r => r.getD c 0 := by rw [List.map_map]; rfl
    rw [this, List.map_snd_zip (by omega)]
    rfl
  rw [e2] at h
  have e3 : (List.replicate m (0 : Int)).getD c 0 = 0 := by
    rw [List.getD_eq_getElem?_getD, List.getElem?_replicate]
    split <;> rfl
  rw [e3, Int.zero_add] at h
  exact h
/-- nought exactly if each column times the figures is -/
theorem sumOf_zero {p : Int} {m : Nat} (hp : 0 < p) {figs : Row} {lines : Tab} (hl : figs.length = lines.length) (hm : ∀ r ∈ lines, r.length = m) :
    (∀ x ∈ sumOf p m figs lines, x = 0) ↔ ∀ c < m, p ∣ dot figs (colAt lines c) := by
  obtain ⟨h1, h2⟩ := sumOf_ok hp hl hm
  constructor
  · intro h c hc
    have hx : (sumOf p m figs lines).getD c 0 = 0 := by
      have hlt : c < (sumOf p m figs lines).length := by rw [h1.1]; exact hc
      rw [List.getD_eq_getElem?_getD, List.getElem?_eq_getElem hlt]
      exact h _ (List.getElem_mem hlt)
    have := h2 c
    rw [hx, Int.zero_sub] at this
    exact Int.dvd_neg.mp this
  · intro h x hx
    obtain ⟨c, hc, e⟩ := List.getElem_of_mem hx
    have hb := h1.2 x hx
    have h3 := h2 c
    have e2 : (sumOf p m figs lines).getD c 0 = x := by rw [List.getD_eq_getElem?_getD, List.getElem?_eq_getElem hc, ← e]; rfl
    rw [e2] at h3
    have h4 := (dvd_iff h3).mpr (h c (by rw [← h1.1]; exact hc))
    obtain ⟨k, hk⟩ := h4
    have : k = 0 := by
      by_cases z : k = 0
      · exact z
      · exfalso
        rcases Int.lt_or_gt_of_ne z with z | z
        · have := Int.mul_le_mul_of_nonneg_left (show k ≤ -1 by omega) (show 0 ≤ p by omega)
          omega
        · have := Int.mul_le_mul_of_nonneg_left (show 1 ≤ k by omega) (show 0 ≤ p by omega)
          omega
    rw [hk, this, Int.mul_zero]
end Lw

/-! rows in stairs: what the program's elimination does -/
namespace Lw
open PySem PySem.Spec PyProof.Rows L2 DlP Dl
abbrev QRow := Bool × Row
def encQ (q : QRow) : Dl.D := seqD q.1 (q.2.map .int)
theorem encQ_seq (q : QRow) : SeqD (encQ q) (q.2.map .int) := seqD_seq _ _
def invN (p f : Nat) : Nat := ((List.range 8).find? fun o => f * o % p = 1).getD 1
def invF (p f : Int) : Int := invN p.toNat f.toNat
theorem inv_fin1 : ∀ p : Fin 8, (p = 2 ∨ p = 3 ∨ p = 5 ∨ p = 7) → ∀ f : Fin 8, 1 ≤ f → f < p → 1 ≤ invN p.val f.val := by decide
theorem inv_fin2 : ∀ p : Fin 8, (p = 2 ∨ p = 3 ∨ p = 5 ∨ p = 7) → ∀ f : Fin 8, 1 ≤ f → f < p → invN p.val f.val < p.val := by decide
theorem inv_fin3 : ∀ p : Fin 8, (p = 2 ∨ p = 3 ∨ p = 5 ∨ p = 7) → ∀ f : Fin 8, 1 ≤ f → f < p → f.val * invN p.val f.val % p.val = 1 := by decide
theorem inv_fin4 : ∀ p : Fin 8, (p = 2 ∨ p = 3 ∨ p = 5 ∨ p = 7) → ∀ f k : Fin 8, 1 ≤ k → k < p → f.val * k.val % p.val = 1 → k.val = invN p.val f.val := by decide
theorem base_fin {p : Int} (h : Base p) : ∃ q : Fin 8, p = (q.val : Int) ∧ (q = 2 ∨ q = 3 ∨ q = 5 ∨ q = 7) := by
  rcases h with h | h | h | h
  · exact ⟨2, h, by decide⟩
  · exact ⟨3, h, by decide⟩
  · exact ⟨5, h, by decide⟩
  · exact ⟨7, h, by decide⟩
theorem fmod_nat (a b : Nat) : ((a : Int)).fmod (b : Int) = ((a % b : Nat) : Int) := by
  rw [Int.fmod_eq_emod_of_nonneg _ (by omega)]
  simp
theorem invF_ok {p f : Int} (hp : Base p) (hf : 1 ≤ f ∧ f < p) : (1 ≤ invF p f ∧ invF p f < p ∧ (f * invF p f).fmod p = 1) ∧ ∀ k : Int, 1 ≤ k → k < p → (f * k).fmod p = 1 → k = invF p f := by
  obtain ⟨q, rfl, hq⟩ := base_fin hp
  obtain ⟨fn, rfl⟩ := Int.eq_ofNat_of_zero_le (show 0 ≤ f by omega)
  have hq8 := q.isLt
  have hfn : fn < 8 := by omega
  have h11 := inv_fin1 q hq ⟨fn, hfn⟩ (by show 1 ≤ fn; omega) (by show fn < q.val; omega)
  have h12 := inv_fin2 q hq ⟨fn, hfn⟩ (by show 1 ≤ fn; omega) (by show fn < q.val; omega)
  have h13 := inv_fin3 q hq ⟨fn, hfn⟩ (by show 1 ≤ fn; omega) (by show fn < q.val; omega)
  have h2 := inv_fin4 q hq ⟨fn, hfn⟩
  dsimp only at h11 h12 h13 h2
  have e : invF (q.val : Int) (fn : Int) = ((invN q.val fn : Nat) : Int) := by unfold invF; rw [Int.toNat_natCast, Int.toNat_natCast]
  rw [e]
  refine ⟨⟨by omega, by omega, ?_⟩, fun k k1 k2 hk => ?_⟩
  · rw [← Int.natCast_mul, fmod_nat]
    omega
  · obtain ⟨kn, rfl⟩ := Int.eq_ofNat_of_zero_le (show 0 ≤ k by omega)
    rw [← Int.natCast_mul, fmod_nat] at hk
    have := h2 ⟨kn, by omega⟩ (by show 1 ≤ kn; omega) (by show kn < q.val; omega) (by show fn * kn % q.val = 1; omega)
    have : kn = invN q.val fn := this
    omega
def mulF (p f : Int) (r : Row) : Row := r.map fun x => (f * x).fmod p
def clrR (p : Int) (ld : Row) (c : Nat) (r : Row) : Row := if r.getD c 0 = 0 then r else List.zipWith (fun one less => (one - r.getD c 0 * less).fmod p) r ld
def clrQ (p : Int) (ld : Row) (c : Nat) (q : QRow) : QRow := (if q.2.getD c 0 = 0 then q.1 else true, clrR p ld c q.2)
def leadIx (rows : List QRow) (c : Nat) : Option Nat := rows.findIdx? fun q => decide (q.2.getD c 0 ≠ 0)
def stepS (p : Int) (c : Nat) (st : List Row × List QRow) : List Row × List QRow :=
  match leadIx st.2 c with
  | none => st
  | some i => ((st.1.map (clrR p (mulF p (invF p ((st.2.getD i (true, [])).2.getD c 0)) (st.2.getD i (true, [])).2) c)) ++ [mulF p (invF p ((st.2.getD i (true, [])).2.getD c 0)) (st.2.getD i (true, [])).2],
      (st.2.eraseIdx i).map (clrQ p (mulF p (invF p ((st.2.getD i (true, [])).2.getD c 0)) (st.2.getD i (true, [])).2) c))
def stS (p : Int) (m : Nat) (rows : List QRow) : List Row × List QRow := (List.range m).foldl (fun st c => stepS p c st) ([], rows)
def stairsF (p : Int) (m : Nat) (rows : List QRow) : Tab := (stS p m rows).1
theorem mulF_ok {p f : Int} {m : Nat} {r : Row} (hp : 0 < p) (h : r.length = m) : RowOk p m (mulF p f r) := by
  refine ⟨by unfold mulF; rw [List.length_map, h], fun x hx => ?_⟩
  obtain ⟨y, _, rfl⟩ := List.mem_map.mp hx
  exact fmod_lt hp
theorem clrR_ok {p : Int} {m c : Nat} {ld r : Row} (hp : 0 < p) (hl : ld.length = m) (h : RowOk p m r) : RowOk p m (clrR p ld c r) := by
  unfold clrR
  split
  · exact h
  · refine ⟨by rw [List.length_zipWith, h.1, hl, Nat.min_self], fun x hx => ?_⟩
    obtain ⟨y, _, z, _, rfl⟩ := mem_zip hx
    exact fmod_lt hp
def StOk (p : Int) (m : Nat) (st : List Row × List QRow) : Prop := (∀ r ∈ st.1, RowOk p m r) ∧ ∀ q ∈ st.2, RowOk p m q.2
theorem leadIx_some {rows : List QRow} {c i : Nat} (h : leadIx rows c = some i) : ∃ q, rows[i]? = some q ∧ q.2.getD c 0 ≠ 0 := by
  unfold leadIx at h
  obtain ⟨hi, h1, _⟩ := List.findIdx?_eq_some_iff_getElem.mp h
  exact ⟨rows[i], List.getElem?_eq_getElem hi, of_decide_eq_true h1⟩
theorem stepS_ok {p : Int} {m c : Nat} {st : List Row × List QRow} (hp : 0 < p) (h : StOk p m st) : StOk p m (stepS p c st) := by
  unfold stepS
  split
  · exact h
  · rename_i i e
    obtain ⟨q, hq, _⟩ := leadIx_some e
    have hqm := h.2 q (List.mem_of_getElem? hq)
    have eq : st.2.getD i (true, []) = q := by rw [List.getD_eq_getElem?_getD, hq]; rfl
    rw [eq]
    have hld := mulF_ok (f := invF p (q.2.getD c 0)) hp hqm.1
    refine ⟨fun r hr => ?_, fun r hr => ?_⟩
    · rcases List.mem_append.mp hr with z | z
      · obtain ⟨r0, h0, rfl⟩ := List.mem_map.mp z
        exact clrR_ok hp hld.1 (h.1 r0 h0)
      · rw [List.mem_singleton.mp z]
        exact hld
    · obtain ⟨q0, h0, rfl⟩ := List.mem_map.mp hr
      exact clrR_ok hp hld.1 (h.2 q0 (List.mem_of_mem_eraseIdx h0))
theorem stepS_len {p : Int} {c : Nat} {st : List Row × List QRow} : (stepS p c st).1.length + (stepS p c st).2.length = st.1.length + st.2.length := by
  unfold stepS
  split
  · rfl
  · rename_i i e
    obtain ⟨q, hq, _⟩ := leadIx_some e
    have hi : i < st.2.length := (List.getElem?_eq_some_iff.mp hq).1
    simp only [List.length_append, List.length_map, List.length_singleton, List.length_eraseIdx, hi, if_true]
    omega
theorem stS_ok {p : Int} {m : Nat} {rows : List QRow} (hp : 0 < p) (h : ∀ q ∈ rows, RowOk p m q.2) : ∀ (l : List Nat), StOk p m (l.foldl (fun st c => stepS p c st) ([], rows)) ∧ (l.foldl (fun st c => stepS p c st) ([], rows)).1.length + (l.foldl (fun st c => stepS p c st) ([], rows)).2.length = rows.length := by
  have key : ∀ (l : List Nat) (st : List Row × List QRow), StOk p m st → StOk p m (l.foldl (fun st c => stepS p c st) st) ∧ (l.foldl (fun st c => stepS p c st) st).1.length + (l.foldl (fun st c => stepS p c st) st).2.length = st.1.length + st.2.length := by
    intro l
    induction l with
    | nil => intro st h; exact ⟨h, rfl⟩
    | cons c l ih =>
      intro st h
      obtain ⟨h1, h2⟩ := ih (stepS p c st) (stepS_ok hp h)
      exact ⟨h1, h2.trans stepS_len⟩
  intro l
  have := key l ([], rows) ⟨(fun _ h => nomatch h), h⟩
  simpa using this
theorem stairsF_ok {p : Int} {m : Nat} {rows : List QRow} (hp : 0 < p) (h : ∀ q ∈ rows, RowOk p m q.2) : (∀ r ∈ stairsF p m rows, RowOk p m r) ∧ (stairsF p m rows).length ≤ rows.length := by
  obtain ⟨h1, h2⟩ := stS_ok (m := m) hp h (List.range m)
  exact ⟨h1.1, by unfold stairsF stS; omega⟩
/-- rows with what keeps count behind -/
def marksF (n : Nat) (rs : Tab) : List QRow := rs.zipIdx.map fun q => (false, q.1 ++ unitR n q.2)
def tiesF (p : Int) (m : Nat) (rs : Tab) : Tab := ((stairsF p (m + rs.length) (marksF rs.length rs)).filter fun r => (r.take m).all fun x => decide (x = 0)).map fun r => r.drop m
def wide : Tab → Nat | [] => 0 | r :: _ => r.length
def wideQ : List QRow → Nat | [] => 0 | q :: _ => q.2.length
theorem marks_ok {p : Int} {m : Nat} {rs : Tab} (hp : 2 ≤ p) (h : ∀ r ∈ rs, RowOk p m r) : ∀ q ∈ marksF rs.length rs, RowOk p (m + rs.length) q.2 := fun q hq => by
  obtain ⟨a, ha, rfl⟩ := List.mem_map.mp hq
  have h1 := h a.1 (List.fst_mem_of_mem_zipIdx ha)
  have h2 := unitR_ok hp rs.length a.2
  refine ⟨by rw [List.length_append, h1.1, h2.1], fun x hx => ?_⟩
  rcases List.mem_append.mp hx with z | z
  · exact h1.2 x z
  · exact h2.2 x z
theorem tiesF_ok {p : Int} {m : Nat} {rs : Tab} (hp : 2 ≤ p) (h : ∀ r ∈ rs, RowOk p m r) : (∀ r ∈ tiesF p m rs, RowOk p rs.length r) ∧ (tiesF p m rs).length ≤ rs.length := by
  obtain ⟨h1, h2⟩ := stairsF_ok (by omega) (marks_ok hp h)
  refine ⟨fun r hr => ?_, ?_⟩
  · obtain ⟨q, hq, rfl⟩ := List.mem_map.mp hr
    have hq := h1 q (List.mem_filter.mp hq).1
    exact ⟨by rw [List.length_drop, hq.1]; omega, fun x hx => hq.2 x (List.mem_of_mem_drop hx)⟩
  · unfold tiesF
    rw [List.length_map]
    refine Nat.le_trans (List.length_filter_le _ _) (Nat.le_trans h2 ?_)
    unfold marksF
    rw [List.length_map, List.length_zipIdx]
    exact Nat.le_refl _
end Lw

/-! sums of rows in stairs -/
namespace Lw
open PySem PySem.Spec PyProof.Rows L2 DlP Dl
/-- u is a sum of multiples of T's rows, but for multiples of p -/
def Comb (p : Int) (m : Nat) (T : Tab) (u : Row) : Prop := ∃ ws : Row, ws.length = T.length ∧ ∀ j, j < m → p ∣ dot ws (colAt T j) - u.getD j 0
theorem colAt_cons (r : Row) (T : Tab) (j : Nat) : colAt (r :: T) j = r.getD j 0 :: colAt T j := rfl
theorem getD_range {f : Nat → Int} {m j : Nat} (h : j < m) : ((List.range m).map f).getD j 0 = f j := by
  simp [List.getD_eq_getElem?_getD, List.getElem?_map, List.getElem?_range h]
theorem dot_zero : ∀ (n : Nat) (c : Row), dot (List.replicate n 0) c = 0
  | 0, c => rfl
  | n + 1, [] => dot_nil' _
  | n + 1, y :: c => by rw [List.replicate_succ, dot_cons, dot_zero n c]; omega
theorem comb_zero {p : Int} {m : Nat} {T : Tab} {u : Row} (h : ∀ j, j < m → p ∣ u.getD j 0) : Comb p m T u :=
  ⟨List.replicate T.length 0, by simp, fun j hj => by rw [dot_zero]; have := h j hj; rw [Int.zero_sub]; exact Int.dvd_neg.mpr this⟩
theorem comb_mix {p a b : Int} {m : Nat} {T : Tab} {u v w : Row} (hu : Comb p m T u) (hv : Comb p m T v) (h : ∀ j, j < m → p ∣ a * u.getD j 0 + b * v.getD j 0 - w.getD j 0) : Comb p m T w := by
  obtain ⟨x, lx, hx⟩ := hu
  obtain ⟨y, ly, hy⟩ := hv
  refine ⟨List.zipWith (· + ·) (x.map (a * ·)) (y.map (b * ·)), by simp [lx, ly], fun j hj => ?_⟩
  rw [dot_add (by simp [lx, ly]), dot_mul, dot_mul]
  have h1 : p ∣ a * _ := Int.dvd_mul_of_dvd_right (hx j hj)
  have h2 : p ∣ b * _ := Int.dvd_mul_of_dvd_right (hy j hj)
  have h3 := h j hj
  rw [Int.mul_sub] at h1 h2
  have := Int.dvd_add (Int.dvd_add h1 h2) h3
  have e : a * dot x (colAt T j) - a * u.getD j 0 + (b * dot y (colAt T j) - b * v.getD j 0) + (a * u.getD j 0 + b * v.getD j 0 - w.getD j 0) = a * dot x (colAt T j) + b * dot y (colAt T j) - w.getD j 0 := by omega
  rwa [e] at this
theorem comb_sums {p : Int} {m : Nat} {T : Tab} : ∀ {T' : Tab} {ws u : Row}, (∀ r ∈ T', Comb p m T r) → ws.length = T'.length → (∀ j, j < m → p ∣ dot ws (colAt T' j) - u.getD j 0) → Comb p m T u
  | [], ws, u, _, _, h => comb_zero fun j hj => by
    have := h j hj
    rw [show colAt [] j = [] from rfl, dot_nil', Int.zero_sub] at this
    exact Int.dvd_neg.mp this
  | r :: T', [], u, _, l, _ => by cases l
  | r :: T', w :: ws, u, hr, l, h => by
    have ih := comb_sums (T' := T') (ws := ws) (u := (List.range m).map fun j => dot ws (colAt T' j)) (fun q hq => hr q (by simp [hq])) (by simpa using l) (fun j hj => by
      rw [getD_range hj]
      have e : dot ws (colAt T' j) - dot ws (colAt T' j) = 0 := by omega
      rw [e]
      exact Int.dvd_zero p)
    refine comb_mix (a := w) (b := 1) (hr r (by simp)) ih fun j hj => ?_
    rw [getD_range hj]
    have := h j hj
    rw [colAt_cons, dot_cons] at this
    rwa [Int.one_mul]
theorem comb_trans {p : Int} {m : Nat} {T T' : Tab} {u : Row} (h : ∀ r ∈ T', Comb p m T r) (hu : Comb p m T' u) : Comb p m T u := by
  obtain ⟨ws, l, k⟩ := hu
  exact comb_sums h l k
theorem colAt_getD {T : Tab} {i j : Nat} {r : Row} (h : T[i]? = some r) : (colAt T j).getD i 0 = r.getD j 0 := by
  unfold colAt
  rw [List.getD_eq_getElem?_getD, List.getElem?_map, h]
  rfl
theorem comb_mem {p : Int} {m : Nat} {T : Tab} {r : Row} (h : r ∈ T) : Comb p m T r := by
  obtain ⟨i, hi, e⟩ := List.getElem_of_mem h
  have h2 : T[i]? = some r := by rw [List.getElem?_eq_getElem hi, e]
  refine ⟨unitR T.length i, by simp [unitR], fun j _ => ?_⟩
  rw [dot_comm, dot_unit (m := T.length) (by simp [colAt]) hi, colAt_getD h2]
  have e : r.getD j 0 - r.getD j 0 = 0 := by omega
  rw [e]
  exact Int.dvd_zero p
theorem comb_alike {p : Int} {m : Nat} {T : Tab} {u w : Row} (hu : Comb p m T u) (h : ∀ j, j < m → p ∣ u.getD j 0 - w.getD j 0) : Comb p m T w :=
  comb_mix (a := 1) (b := 0) hu hu fun j hj => by rw [Int.one_mul, Int.zero_mul]; simpa using h j hj
/-! what a step does to a row -/
theorem mulF_dvd {p f : Int} {r : Row} (j : Nat) : (mulF p f r).getD j 0 = (f * r.getD j 0).fmod p := by
  unfold mulF
  rw [List.getD_eq_getElem?_getD, List.getElem?_map, List.getD_eq_getElem?_getD]
  cases r[j]? with
  | none => simp
  | some x => rfl
theorem clrR_dvd {p : Int} {ld r : Row} {c : Nat} (hl : r.length = ld.length) (j : Nat) : p ∣ (clrR p ld c r).getD j 0 - (r.getD j 0 - r.getD c 0 * ld.getD j 0) := by
  unfold clrR
  split
  · rename_i h
    rw [h, Int.zero_mul]
    have e : r.getD j 0 - (r.getD j 0 - 0) = 0 := by omega
    rw [e]
    exact Int.dvd_zero p
  · rw [getD_zipWith (f := fun one less => (one - r.getD c 0 * less).fmod p) (by simp) _ _ hl]
    exact fmod_dvd p _
theorem getD_range2 {p : Int} {m : Nat} {r : Row} (hp : 0 < p) (h : RowOk p m r) (j : Nat) : 0 ≤ r.getD j 0 ∧ r.getD j 0 < p := by
  rw [List.getD_eq_getElem?_getD]
  cases e : r[j]? with
  | none => simp; exact hp
  | some x => exact h.2 x (List.mem_of_getElem? e)
theorem small_dvd {p x y : Int} (h : p ∣ x - y) (hx : 0 ≤ x ∧ x < p) (hy : 0 ≤ y ∧ y < p) : x = y := by
  obtain ⟨k, e⟩ := h
  have : k = 0 := by
    rcases Int.lt_trichotomy k 0 with z | z | z
    · have : p * k ≤ p * (-1) := Int.mul_le_mul_of_nonneg_left (by omega) (by omega)
      omega
    · exact z
    · have : p * 1 ≤ p * k := Int.mul_le_mul_of_nonneg_left (by omega) (by omega)
      omega
  rw [this, Int.mul_zero] at e
  omega
theorem clr_keep {p : Int} {m c j : Nat} {ld r : Row} (hp : 0 < p) (hr : RowOk p m r) (hl : ld.length = m) (h : ld.getD j 0 = 0) : (clrR p ld c r).getD j 0 = r.getD j 0 := by
  have h1 := clrR_dvd (p := p) (c := c) (ld := ld) (r := r) (by rw [hr.1, hl]) j
  rw [h, Int.mul_zero, Int.sub_zero] at h1
  exact small_dvd h1 (getD_range2 hp (clrR_ok hp hl hr) j) (getD_range2 hp hr j)
theorem clr_kill {p : Int} {m c : Nat} {ld r : Row} (hp : 0 < p) (hr : RowOk p m r) (hl : ld.length = m) (h : ld.getD c 0 = 1) : (clrR p ld c r).getD c 0 = 0 := by
  have h1 := clrR_dvd (p := p) (c := c) (ld := ld) (r := r) (by rw [hr.1, hl]) c
  rw [h, Int.mul_one, Int.sub_self] at h1
  exact small_dvd h1 (getD_range2 hp (clrR_ok hp hl hr) c) (by omega)
/-- rows with their first places: one there, nought before and at the other rows' -/
def Piv (L : List (Nat × Row)) : Prop := (∀ a ∈ L, a.2.getD a.1 0 = 1 ∧ ∀ j, j < a.1 → a.2.getD j 0 = 0) ∧ L.Pairwise fun a b => a.1 < b.1 ∧ a.2.getD b.1 0 = 0 ∧ b.2.getD a.1 0 = 0
def sndR (L : List (Nat × Row)) : Tab := L.map fun a => a.2
structure Inv (p : Int) (m c : Nat) (rows : List QRow) (st : List Row × List QRow) : Prop where
  ok : StOk p m st
  pv : ∃ L, st.1 = sndR L ∧ Piv L ∧ ∀ a ∈ L, a.1 < c
  le : ∀ q ∈ st.2, ∀ j, j < c → q.2.getD j 0 = 0
  sp : ∀ u, Comb p m (st.1 ++ st.2.map fun q => q.2) u ↔ Comb p m (rows.map fun q => q.2) u
theorem leadIx_none {rows : List QRow} {c : Nat} (h : leadIx rows c = none) : ∀ q ∈ rows, q.2.getD c 0 = 0 := fun q hq => by
  unfold leadIx at h
  rw [List.findIdx?_eq_none_iff] at h
  have := h q hq
  by_cases z : q.2.getD c 0 = 0
  · exact z
  · rw [decide_eq_true z] at this; cases this
theorem mem_erase_or {α : Type} {x y : α} : ∀ {l : List α} {i : Nat}, l[i]? = some y → x ∈ l → x = y ∨ x ∈ l.eraseIdx i
  | [], i, h, _ => by simp at h
  | a :: l, 0, h, hx => by
    have : a = y := by simpa using h
    rcases List.mem_cons.mp hx with z | z
    · exact .inl (z.trans this)
    · exact .inr z
  | a :: l, i + 1, h, hx => by
    rw [List.eraseIdx_cons_succ]
    rcases List.mem_cons.mp hx with z | z
    · exact .inr (by simp [z])
    · rcases mem_erase_or (l := l) (by simpa using h) z with z | z
      · exact .inl z
      · exact .inr (by simp [z])
theorem step_inv {p : Int} {m c : Nat} {rows : List QRow} {st : List Row × List QRow} (hb : Base p) (hc : c < m) (I : Inv p m c rows st) : Inv p m (c + 1) rows (stepS p c st) := by
  have hp := hb.pos
  have hp0 : (0 : Int) < p := by omega
  have hok := stepS_ok (m := m) (c := c) hp0 I.ok
  obtain ⟨fo, le⟩ := st
  obtain ⟨L, eL, hL, hLc⟩ := I.pv
  cases hx : leadIx le c with
  | none =>
    have e : stepS p c (fo, le) = (fo, le) := by unfold stepS; dsimp only; rw [hx]
    rw [e]
    refine ⟨I.ok, ⟨L, eL, hL, fun a ha => by have := hLc a ha; omega⟩, fun q hq j hj => ?_, I.sp⟩
    by_cases z : j = c
    · rw [z]; exact leadIx_none hx q hq
    · exact I.le q hq j (by omega)
  | some i =>
    obtain ⟨q, hq, hqc⟩ := leadIx_some hx
    have eq : le.getD i (true, []) = q := by rw [List.getD_eq_getElem?_getD, hq]; rfl
    have hqm := List.mem_of_getElem? hq
    have hqo := I.ok.2 q hqm
    have hg := getD_range2 hp0 hqo c
    obtain ⟨⟨i1, i2, i3⟩, _⟩ := invF_ok (f := q.2.getD c 0) hb ⟨by omega, hg.2⟩
    have e : stepS p c (fo, le) = (fo.map (clrR p (mulF p (invF p (q.2.getD c 0)) q.2) c) ++ [mulF p (invF p (q.2.getD c 0)) q.2], (le.eraseIdx i).map (clrQ p (mulF p (invF p (q.2.getD c 0)) q.2) c)) := by
      unfold stepS
      dsimp only
      rw [hx]
      dsimp only
      rw [eq]
    have hld := mulF_ok (p := p) (f := invF p (q.2.getD c 0)) hp0 hqo.1
    have ldc : (mulF p (invF p (q.2.getD c 0)) q.2).getD c 0 = 1 := by rw [mulF_dvd, Int.mul_comm]; exact i3
    have ldz : ∀ j, j < c → (mulF p (invF p (q.2.getD c 0)) q.2).getD j 0 = 0 := fun j hj => by
      rw [mulF_dvd, I.le q hqm j hj, Int.mul_zero]
      simp
    have ldq : ∀ j, p ∣ q.2.getD c 0 * (mulF p (invF p (q.2.getD c 0)) q.2).getD j 0 - q.2.getD j 0 := fun j => by
      rw [mulF_dvd]
      have h1 : p ∣ q.2.getD c 0 * _ := Int.dvd_mul_of_dvd_right (fmod_dvd p (invF p (q.2.getD c 0) * q.2.getD j 0))
      have h2 := fmod_dvd p (q.2.getD c 0 * invF p (q.2.getD c 0))
      rw [i3] at h2
      have h3 : p ∣ q.2.getD j 0 * _ := Int.dvd_mul_of_dvd_right h2
      rw [Int.mul_sub] at h1 h3
      have h4 := Int.dvd_sub h1 h3
      have e1 : q.2.getD c 0 * (invF p (q.2.getD c 0) * q.2.getD j 0) = q.2.getD j 0 * (q.2.getD c 0 * invF p (q.2.getD c 0)) := by
        rw [← Int.mul_assoc, Int.mul_comm]
      rw [e1, Int.mul_one] at h4
      have e2 : ∀ a b d : Int, a - d - (b - d) = a - b := fun a b d => by omega
      rwa [e2] at h4
    rw [e] at hok ⊢
    have ldm : ∀ j, p ∣ (mulF p (invF p (q.2.getD c 0)) q.2).getD j 0 - invF p (q.2.getD c 0) * q.2.getD j 0 := fun j => by rw [mulF_dvd]; exact fmod_dvd p _
    generalize mulF p (invF p (q.2.getD c 0)) q.2 = ld at hok hld ldc ldz ldq ldm ⊢
    refine ⟨hok, ⟨(L.map fun a => (a.1, clrR p ld c a.2)) ++ [(c, ld)], ?_, ⟨fun a ha => ?_, ?_⟩, fun a ha => ?_⟩, fun r hr j hj => ?_, fun u => ?_⟩
    · show fo.map _ ++ _ = _
      rw [show fo = sndR L from eL]
      unfold sndR
      rw [List.map_append, List.map_map, List.map_map]
      rfl
    · rcases List.mem_append.mp ha with z | z
      · obtain ⟨b, hb2, rfl⟩ := List.mem_map.mp z
        have hbo : RowOk p m b.2 := I.ok.1 b.2 (by rw [show (fo, le).1 = _ from eL]; exact List.mem_map.mpr ⟨b, hb2, rfl⟩)
        have hbc := hLc b hb2
        obtain ⟨k1, k2⟩ := hL.1 b hb2
        refine ⟨?_, fun j hj => ?_⟩
        · show (clrR p ld c b.2).getD b.1 0 = 1
          rw [clr_keep hp0 hbo hld.1 (ldz _ hbc), k1]
        · have hj : j < b.1 := hj
          show (clrR p ld c b.2).getD j 0 = 0
          rw [clr_keep hp0 hbo hld.1 (ldz _ (by omega)), k2 j hj]
      · rw [List.mem_singleton.mp z]
        exact ⟨ldc, ldz⟩
    · rw [List.pairwise_append]
      refine ⟨?_, List.pairwise_singleton _ _, fun a ha b hb2 => ?_⟩
      · rw [List.pairwise_map]
        refine hL.2.imp_of_mem fun {a b} ha hb2 ⟨k1, k2, k3⟩ => ?_
        have hao : RowOk p m a.2 := I.ok.1 a.2 (by rw [show (fo, le).1 = _ from eL]; exact List.mem_map.mpr ⟨a, ha, rfl⟩)
        have hbo : RowOk p m b.2 := I.ok.1 b.2 (by rw [show (fo, le).1 = _ from eL]; exact List.mem_map.mpr ⟨b, hb2, rfl⟩)
        exact ⟨k1, by rw [clr_keep hp0 hao hld.1 (ldz _ (hLc b hb2)), k2], by rw [clr_keep hp0 hbo hld.1 (ldz _ (hLc a ha)), k3]⟩
      · obtain ⟨d, hd, rfl⟩ := List.mem_map.mp ha
        rw [List.mem_singleton.mp hb2]
        have hdo : RowOk p m d.2 := I.ok.1 d.2 (by rw [show (fo, le).1 = _ from eL]; exact List.mem_map.mpr ⟨d, hd, rfl⟩)
        exact ⟨hLc d hd, clr_kill hp0 hdo hld.1 ldc, ldz _ (hLc d hd)⟩
    · rcases List.mem_append.mp ha with z | z
      · obtain ⟨b, hb2, rfl⟩ := List.mem_map.mp z
        have := hLc b hb2
        show b.1 < c + 1
        omega
      · rw [List.mem_singleton.mp z]
        exact Nat.lt_succ_self c
    · obtain ⟨r0, h0, rfl⟩ := List.mem_map.mp hr
      have h0 := List.mem_of_mem_eraseIdx h0
      have hro := I.ok.2 r0 h0
      show (clrR p ld c r0.2).getD j 0 = 0
      by_cases z : j = c
      · rw [z]; exact clr_kill hp0 hro hld.1 ldc
      · rw [clr_keep hp0 hro hld.1 (ldz _ (by omega))]
        exact I.le r0 h0 j (by omega)
    · rw [← I.sp u]
      have hldm : ld ∈ fo.map (clrR p ld c) ++ [ld] ++ ((le.eraseIdx i).map (clrQ p ld c)).map (fun q => q.2) := by simp
      have clrm : ∀ r, r.length = m → ∀ j, p ∣ 1 * (clrR p ld c r).getD j 0 + r.getD c 0 * ld.getD j 0 - r.getD j 0 := fun r hr j => by
        have := clrR_dvd (p := p) (c := c) (ld := ld) (r := r) (by rw [hr, hld.1]) j
        have e : 1 * (clrR p ld c r).getD j 0 + r.getD c 0 * ld.getD j 0 - r.getD j 0 = (clrR p ld c r).getD j 0 - (r.getD j 0 - r.getD c 0 * ld.getD j 0) := by omega
        rwa [e]
      refine ⟨comb_trans fun r hr => ?_, comb_trans fun r hr => ?_⟩
      · have cld : Comb p m (fo ++ le.map fun q => q.2) ld := by
          refine comb_mix (a := invF p (q.2.getD c 0)) (b := 0) (comb_mem (r := q.2) (List.mem_append.mpr (.inr (List.mem_map.mpr ⟨q, hqm, rfl⟩)))) (comb_mem (r := q.2) (List.mem_append.mpr (.inr (List.mem_map.mpr ⟨q, hqm, rfl⟩)))) fun j _ => ?_
          have := Int.dvd_neg.mpr (ldm j)
          have e : -(ld.getD j 0 - invF p (q.2.getD c 0) * q.2.getD j 0) = invF p (q.2.getD c 0) * q.2.getD j 0 + 0 * q.2.getD j 0 - ld.getD j 0 := by omega
          rwa [e] at this
        have cl : ∀ r0, r0.length = m → Comb p m (fo ++ le.map fun q => q.2) r0 → Comb p m (fo ++ le.map fun q => q.2) (clrR p ld c r0) := fun r0 hl0 h0 => by
          refine comb_mix (a := 1) (b := -(r0.getD c 0)) h0 cld fun j _ => ?_
          have := Int.dvd_neg.mpr (clrR_dvd (p := p) (c := c) (ld := ld) (r := r0) (by rw [hl0, hld.1]) j)
          have e : -((clrR p ld c r0).getD j 0 - (r0.getD j 0 - r0.getD c 0 * ld.getD j 0)) = 1 * r0.getD j 0 + -(r0.getD c 0) * ld.getD j 0 - (clrR p ld c r0).getD j 0 := by rw [Int.neg_mul]; omega
          rwa [e] at this
        rcases List.mem_append.mp hr with z | z
        · rcases List.mem_append.mp z with z | z
          · obtain ⟨r0, h0, rfl⟩ := List.mem_map.mp z
            exact cl r0 (I.ok.1 r0 h0).1 (comb_mem (by simp [h0]))
          · rw [List.mem_singleton.mp z]; exact cld
        · obtain ⟨r1, h1, rfl⟩ := List.mem_map.mp z
          obtain ⟨r0, h0, rfl⟩ := List.mem_map.mp h1
          have h0 := List.mem_of_mem_eraseIdx h0
          exact cl r0.2 (I.ok.2 r0 h0).1 (comb_mem (List.mem_append.mpr (.inr (List.mem_map.mpr ⟨r0, h0, rfl⟩))))
      · rcases List.mem_append.mp hr with z | z
        · refine comb_mix (a := 1) (b := r.getD c 0) (comb_mem (r := clrR p ld c r) ?_) (comb_mem hldm) fun j _ => clrm r (I.ok.1 r z).1 j
          exact List.mem_append.mpr (.inl (List.mem_append.mpr (.inl (List.mem_map.mpr ⟨r, z, rfl⟩))))
        · obtain ⟨r0, h0, rfl⟩ := List.mem_map.mp z
          rcases mem_erase_or hq h0 with k | k
          · subst k
            refine comb_mix (a := r0.2.getD c 0) (b := 0) (comb_mem hldm) (comb_mem hldm) fun j _ => ?_
            have := ldq j
            rw [Int.zero_mul, Int.add_zero]
            exact this
          · refine comb_mix (a := 1) (b := r0.2.getD c 0) (comb_mem (r := clrR p ld c r0.2) ?_) (comb_mem hldm) fun j _ => clrm r0.2 (I.ok.2 r0 h0).1 j
            exact List.mem_append.mpr (.inr (List.mem_map.mpr ⟨clrQ p ld c r0, List.mem_map.mpr ⟨r0, k, rfl⟩, rfl⟩))
theorem stairs_inv {p : Int} {m : Nat} {rows : List QRow} (hb : Base p) (h : ∀ q ∈ rows, RowOk p m q.2) : ∀ c, c ≤ m → Inv p m c rows ((List.range c).foldl (fun st c => stepS p c st) ([], rows))
  | 0, _ => ⟨⟨(fun _ h => nomatch h), h⟩, ⟨[], rfl, ⟨(fun _ h => nomatch h), .nil⟩, (fun _ h => nomatch h)⟩, fun q _ j hj => by omega, fun u => Iff.rfl⟩
  | c + 1, hc => by
    rw [List.range_succ, List.foldl_append]
    exact step_inv hb (by omega) (stairs_inv hb h c (by omega))
theorem stairs_main {p : Int} {m : Nat} {rows : List QRow} (hb : Base p) (h : ∀ q ∈ rows, RowOk p m q.2) :
    ∃ L, stairsF p m rows = sndR L ∧ Piv L ∧ (∀ a ∈ L, a.1 < m) ∧ ∀ u, Comb p m (stairsF p m rows) u ↔ Comb p m (rows.map fun q => q.2) u := by
  have I := stairs_inv hb h m (Nat.le_refl m)
  obtain ⟨L, e, hL, hc⟩ := I.pv
  refine ⟨L, e, hL, hc, fun u => ?_⟩
  rw [← I.sp u]
  refine ⟨comb_trans fun r hr => comb_mem (List.mem_append.mpr (.inl hr)), comb_trans fun r hr => ?_⟩
  rcases List.mem_append.mp hr with z | z
  · exact comb_mem z
  · obtain ⟨q, hq, rfl⟩ := List.mem_map.mp z
    exact comb_zero fun j hj => by rw [I.le q hq j hj]; exact Int.dvd_zero p
end Lw

/-! ties and their number -/
namespace Lw
open PySem PySem.Spec PyProof.Rows L2 DlP Dl
theorem dvd_self_sub {p a : Int} : p ∣ a - a := by rw [Int.sub_self]; exact Int.dvd_zero p
theorem dot_cong {p : Int} : ∀ {u v b : Row}, u.length = v.length → (∀ i, i < u.length → p ∣ u.getD i 0 - v.getD i 0) → p ∣ dot u b - dot v b
  | [], [], b, _, _ => dvd_self_sub
  | [], _ :: _, _, l, _ => by cases l
  | _ :: _, [], _, l, _ => by cases l
  | x :: u, y :: v, [], _, _ => by rw [dot_nil', dot_nil']; exact dvd_self_sub
  | x :: u, y :: v, z :: b, l, h => by
    have h0 : p ∣ x - y := h 0 (by simp)
    have ih := dot_cong (u := u) (v := v) (b := b) (by simpa using l) fun i hi => by
      have := h (i + 1) (by simp; omega)
      simpa using this
    rw [dot_cons, dot_cons]
    have h1 : p ∣ (x - y) * z := Int.dvd_mul_of_dvd_left h0
    rw [Int.sub_mul] at h1
    have := Int.dvd_add h1 ih
    have e : x * z - y * z + (dot u b - dot v b) = x * z + dot u b - (y * z + dot v b) := by omega
    rwa [e] at this
theorem row_ext {a b : Row} (l : a.length = b.length) (h : ∀ j, j < a.length → a.getD j 0 = b.getD j 0) : a = b := by
  refine List.ext_getElem l fun i h1 h2 => ?_
  have := h i h1
  rwa [List.getD_eq_getElem?_getD, List.getD_eq_getElem?_getD, List.getElem?_eq_getElem h1, List.getElem?_eq_getElem h2] at this
theorem getD_front {m j : Nat} {w : Row} (h : j < m) : (List.replicate m (0 : Int) ++ w).getD j 0 = 0 := by
  rw [List.getD_eq_getElem?_getD, List.getElem?_append_left (by simpa using h)]
  simp [h]
theorem getD_back {m j : Nat} {u w : Row} (h : u.length = m) : (u ++ w).getD (m + j) 0 = w.getD j 0 := by
  rw [List.getD_eq_getElem?_getD, List.getElem?_append_right (by omega), List.getD_eq_getElem?_getD]
  congr 2
  omega
theorem getD_fore {m j : Nat} {u w : Row} (h : u.length = m) (hj : j < m) : (u ++ w).getD j 0 = u.getD j 0 := by
  rw [List.getD_eq_getElem?_getD, List.getElem?_append_left (by omega), List.getD_eq_getElem?_getD]
theorem getD_drop {m j : Nat} {r : Row} : (r.drop m).getD j 0 = r.getD (m + j) 0 := by
  rw [List.getD_eq_getElem?_getD, List.getD_eq_getElem?_getD, List.getElem?_drop]
def marksT (rs : Tab) : Tab := (marksF rs.length rs).map fun q => q.2
theorem marksT_len (rs : Tab) : (marksT rs).length = rs.length := by simp [marksT, marksF]
theorem marks_at {rs : Tab} {i : Nat} (h : i < rs.length) : (marksT rs)[i]'(by rw [marksT_len]; exact h) = rs[i] ++ unitR rs.length i := by
  simp [marksT, marksF]
theorem marks_fore {rs : Tab} {m j : Nat} (h : ∀ r ∈ rs, r.length = m) (hj : j < m) : colAt (marksT rs) j = colAt rs j := by
  refine List.ext_getElem (by simp [colAt, marksT_len]) fun i h1 h2 => ?_
  have hi : i < rs.length := by simpa [colAt] using h2
  simp only [colAt, List.getElem_map, marks_at hi]
  exact getD_fore (h _ (List.getElem_mem hi)) hj
theorem marks_back {rs : Tab} {m k : Nat} (h : ∀ r ∈ rs, r.length = m) (hk : k < rs.length) : colAt (marksT rs) (m + k) = unitR rs.length k := by
  refine List.ext_getElem (by simp [colAt, marksT_len, unitR]) fun i h1 h2 => ?_
  have hi : i < rs.length := by simpa [unitR] using h2
  simp only [colAt, List.getElem_map, marks_at hi]
  rw [getD_back (h _ (List.getElem_mem hi))]
  unfold unitR
  rw [getD_range hk]
  simp [eq_comm]
theorem marks_comb {p : Int} {m : Nat} {rs : Tab} (h : ∀ r ∈ rs, r.length = m) {w : Row} (hw : w.length = rs.length) :
    Comb p (m + rs.length) (marksT rs) (List.replicate m 0 ++ w) ↔ ∀ j, j < m → p ∣ dot w (colAt rs j) := by
  constructor
  · rintro ⟨ws, l, k⟩ j hj
    rw [marksT_len] at l
    have h1 := k j (by omega)
    rw [marks_fore h hj, getD_front hj, Int.sub_zero] at h1
    have h2 : p ∣ dot ws (colAt rs j) - dot w (colAt rs j) := dot_cong (by omega) fun i hi => by
      have := k (m + i) (by omega)
      rwa [marks_back h (by omega), getD_back (by simp), dot_unit (by omega) (by omega)] at this
    exact (dvd_iff h2).mp h1
  · intro k
    refine ⟨w, by rw [marksT_len, hw], fun j hj => ?_⟩
    by_cases z : j < m
    · rw [marks_fore h z, getD_front z, Int.sub_zero]
      exact k j z
    · obtain ⟨i, rfl⟩ : ∃ i, j = m + i := ⟨j - m, by omega⟩
      rw [marks_back h (by omega), getD_back (by simp), dot_unit (by omega) (by omega)]
      exact dvd_self_sub
theorem dot_col0 {T : Tab} {j : Nat} : ∀ {ws : Row}, (∀ r ∈ T, r.getD j 0 = 0) → dot ws (colAt T j) = 0 := by
  induction T with
  | nil => intro ws _; exact dot_nil' ws
  | cons r T ih =>
    intro ws h
    cases ws with
    | nil => rfl
    | cons w ws => rw [colAt_cons, dot_cons, ih fun q hq => h q (by simp [hq]), h r (by simp)]; omega
theorem Piv.tail {b : Nat × Row} {L : List (Nat × Row)} (h : Piv (b :: L)) : Piv L := ⟨fun a ha => h.1 a (by simp [ha]), (List.pairwise_cons.mp h.2).2⟩
theorem sndR_mem {L : List (Nat × Row)} {r : Row} (h : r ∈ sndR L) : ∃ a ∈ L, r = a.2 := by
  obtain ⟨a, ha, rfl⟩ := List.mem_map.mp h
  exact ⟨a, ha, rfl⟩
theorem piv_coef : ∀ {L : List (Nat × Row)} {ws : Row} {i : Nat} {a : Nat × Row}, Piv L → L[i]? = some a → ws.length = L.length → dot ws (colAt (sndR L) a.1) = ws.getD i 0
  | [], ws, i, a, _, h, _ => by simp at h
  | b :: L, [], i, a, _, _, l => by cases l
  | b :: L, w :: ws, 0, a, hL, h, l => by
    have e : b = a := by simpa using h
    subst e
    show w * b.2.getD b.1 0 + dot ws (colAt (sndR L) b.1) = w
    rw [(hL.1 b (by simp)).1, dot_col0 fun r hr => by
      obtain ⟨d, hd, rfl⟩ := sndR_mem hr
      exact ((List.pairwise_cons.mp hL.2).1 d hd).2.2]
    omega
  | b :: L, w :: ws, i + 1, a, hL, h, l => by
    have h : L[i]? = some a := by simpa using h
    have ih := piv_coef (ws := ws) hL.tail h (by simpa using l)
    show w * b.2.getD a.1 0 + dot ws (colAt (sndR L) a.1) = ws.getD i 0
    rw [((List.pairwise_cons.mp hL.2).1 a (List.mem_of_getElem? h)).2.1, ih]
    omega
theorem comb_filter {p : Int} {keep : Nat × Row → Bool} : ∀ {L : List (Nat × Row)} {ws : Row}, ws.length = L.length → (∀ (i : Nat) a, L[i]? = some a → keep a = false → p ∣ ws.getD i 0) →
    ∃ ws' : Row, ws'.length = (L.filter keep).length ∧ ∀ j, p ∣ dot ws (colAt (sndR L) j) - dot ws' (colAt (sndR (L.filter keep)) j)
  | [], ws, _, _ => ⟨[], rfl, fun j => by rw [show colAt (sndR []) j = [] from rfl, dot_nil']; exact dvd_self_sub⟩
  | b :: L, [], l, _ => by cases l
  | b :: L, w :: ws, l, h => by
    obtain ⟨ws', l', k⟩ := comb_filter (L := L) (ws := ws) (keep := keep) (p := p) (by simpa using l) fun i a ha hk => by
      have := h (i + 1) a (by simpa using ha) hk
      simpa using this
    cases e : keep b with
    | true =>
      refine ⟨w :: ws', by rw [List.filter_cons_of_pos e, List.length_cons, List.length_cons, l'], fun j => ?_⟩
      rw [List.filter_cons_of_pos e]
      show p ∣ w * b.2.getD j 0 + dot ws (colAt (sndR L) j) - (w * b.2.getD j 0 + dot ws' (colAt (sndR (L.filter keep)) j))
      have := k j
      have e2 : w * b.2.getD j 0 + dot ws (colAt (sndR L) j) - (w * b.2.getD j 0 + dot ws' (colAt (sndR (L.filter keep)) j)) = dot ws (colAt (sndR L) j) - dot ws' (colAt (sndR (L.filter keep)) j) := by omega
      rwa [e2]
    | false =>
      have e' : ¬ keep b = true := by rw [e]; simp
      refine ⟨ws', by rw [List.filter_cons_of_neg e', l'], fun j => ?_⟩
      rw [List.filter_cons_of_neg e']
      have h0 : p ∣ w := h 0 b rfl e
      show p ∣ w * b.2.getD j 0 + dot ws (colAt (sndR L) j) - dot ws' (colAt (sndR (L.filter keep)) j)
      have := Int.dvd_add (Int.dvd_mul_of_dvd_left (c := b.2.getD j 0) h0) (k j)
      have e2 : w * b.2.getD j 0 + dot ws (colAt (sndR L) j) - dot ws' (colAt (sndR (L.filter keep)) j) = w * b.2.getD j 0 + (dot ws (colAt (sndR L) j) - dot ws' (colAt (sndR (L.filter keep)) j)) := by omega
      rwa [e2]
def frontB (m : Nat) (r : Row) : Bool := (r.take m).all fun x => decide (x = 0)
theorem front_iff {m : Nat} {a : Nat × Row} (h : a.2.getD a.1 0 = 1 ∧ ∀ j, j < a.1 → a.2.getD j 0 = 0) : frontB m a.2 = true ↔ m ≤ a.1 := by
  unfold frontB
  rw [List.all_eq_true]
  constructor
  · intro k
    by_cases z : m ≤ a.1
    · exact z
    · have hl : a.1 < a.2.length := by
        by_cases y : a.1 < a.2.length
        · exact y
        · have := h.1
          rw [List.getD_eq_getElem?_getD, List.getElem?_eq_none (by omega)] at this
          cases this
      have h1 : a.2[a.1] = 1 := by
        have := h.1
        rwa [List.getD_eq_getElem?_getD, List.getElem?_eq_getElem hl] at this
      have := k a.2[a.1] (by
        have h2 : a.1 < (a.2.take m).length := by rw [List.length_take]; omega
        have := List.getElem_mem h2
        rwa [List.getElem_take] at this)
      rw [h1] at this
      cases this
  · intro k x hx
    obtain ⟨i, hi, rfl⟩ := List.getElem_of_mem hx
    rw [List.length_take] at hi
    rw [List.getElem_take]
    have := h.2 i (by omega)
    rw [List.getD_eq_getElem?_getD, List.getElem?_eq_getElem (by omega)] at this
    exact decide_eq_true this
theorem ties_main {p : Int} {m : Nat} {rs : Tab} (hb : Base p) (h : ∀ r ∈ rs, RowOk p m r) :
    ∃ L, tiesF p m rs = sndR L ∧ Piv L ∧ (∀ a ∈ L, a.1 < rs.length ∧ RowOk p rs.length a.2) ∧ ∀ w : Row, w.length = rs.length → (Comb p rs.length (sndR L) w ↔ ∀ j, j < m → p ∣ dot w (colAt rs j)) := by
  have hp := hb.pos
  have hl : ∀ r ∈ rs, r.length = m := fun r hr => (h r hr).1
  obtain ⟨L, e, hL, hc, hs⟩ := stairs_main hb (marks_ok (m := m) (by omega) h)
  have hto := (tiesF_ok (p := p) (m := m) (by omega) h).1
  have eT : tiesF p m rs = sndR ((L.filter fun a => frontB m a.2).map fun a => (a.1 - m, a.2.drop m)) := by
    unfold tiesF
    rw [e]
    unfold sndR
    rw [List.filter_map, List.map_map, List.map_map]
    rfl
  have hge : ∀ a ∈ L.filter (fun a => frontB m a.2), m ≤ a.1 ∧ a ∈ L := fun a ha => by
    obtain ⟨h1, h2⟩ := List.mem_filter.mp ha
    exact ⟨(front_iff (hL.1 a h1)).mp h2, h1⟩
  have ecol : ∀ i, colAt (sndR ((L.filter fun a => frontB m a.2).map fun a => (a.1 - m, a.2.drop m))) i = colAt (sndR (L.filter fun a => frontB m a.2)) (m + i) := fun i => by
    unfold colAt sndR
    rw [List.map_map, List.map_map, List.map_map]
    exact List.map_congr_left fun a _ => getD_drop
  refine ⟨_, eT, ⟨fun b hb2 => ?_, ?_⟩, fun b hb2 => ⟨?_, ?_⟩, fun w hw => ?_⟩
  · obtain ⟨a, ha, rfl⟩ := List.mem_map.mp hb2
    obtain ⟨h1, h2⟩ := hge a ha
    obtain ⟨k1, k2⟩ := hL.1 a h2
    refine ⟨?_, fun j hj => ?_⟩
    · show (a.2.drop m).getD (a.1 - m) 0 = 1
      rw [getD_drop, show m + (a.1 - m) = a.1 by omega, k1]
    · have hj : j < a.1 - m := hj
      show (a.2.drop m).getD j 0 = 0
      rw [getD_drop, k2 _ (by omega)]
  · rw [List.pairwise_map]
    refine (hL.2.filter _).imp_of_mem fun {a b} ha hb2 ⟨k1, k2, k3⟩ => ?_
    have h1 := (hge a ha).1
    have h2 := (hge b hb2).1
    refine ⟨by show a.1 - m < b.1 - m; omega, ?_, ?_⟩
    · show (a.2.drop m).getD (b.1 - m) 0 = 0
      rw [getD_drop, show m + (b.1 - m) = b.1 by omega, k2]
    · show (b.2.drop m).getD (a.1 - m) 0 = 0
      rw [getD_drop, show m + (a.1 - m) = a.1 by omega, k3]
  · obtain ⟨a, ha, rfl⟩ := List.mem_map.mp hb2
    obtain ⟨h1, h2⟩ := hge a ha
    have := hc a h2
    show a.1 - m < rs.length
    omega
  · refine hto b.2 ?_
    rw [eT]
    exact List.mem_map.mpr ⟨b, hb2, rfl⟩
  · rw [← marks_comb hl hw]
    rw [show marksT rs = (marksF rs.length rs).map fun q => q.2 from rfl, ← hs, e]
    constructor
    · rintro ⟨ws, l, k⟩
      have c1 : Comb p (m + rs.length) (sndR (L.filter fun a => frontB m a.2)) (List.replicate m 0 ++ w) := by
        refine ⟨ws, by rw [l]; simp [sndR], fun j hj => ?_⟩
        by_cases z : j < m
        · rw [getD_front z, dot_col0 fun r hr => ?_]
          · exact dvd_self_sub
          · obtain ⟨a, ha, rfl⟩ := sndR_mem hr
            obtain ⟨h1, h2⟩ := hge a ha
            exact (hL.1 a h2).2 j (by omega)
        · obtain ⟨i, rfl⟩ : ∃ i, j = m + i := ⟨j - m, by omega⟩
          rw [getD_back (by simp), ← ecol]
          exact k i (by omega)
      refine comb_trans (fun r hr => ?_) c1
      obtain ⟨a, ha, rfl⟩ := sndR_mem hr
      exact comb_mem (List.mem_map.mpr ⟨a, (hge a ha).2, rfl⟩)
    · rintro ⟨ws, l, k⟩
      have l : ws.length = L.length := by rw [l]; simp [sndR]
      obtain ⟨ws', l', k'⟩ := comb_filter (p := p) (keep := fun a => frontB m a.2) (L := L) (ws := ws) l fun i a ha hk => by
        have hm := List.mem_of_getElem? ha
        have hlt : a.1 < m := by
          by_cases z : a.1 < m
          · exact z
          · have := (front_iff (m := m) (hL.1 a hm)).mpr (by omega)
            rw [this] at hk
            cases hk
        have := k a.1 (by omega)
        rwa [getD_front hlt, Int.sub_zero, piv_coef hL ha l] at this
      refine ⟨ws', by rw [l']; simp [sndR], fun j hj => ?_⟩
      rw [ecol]
      have h1 := k (m + j) (by omega)
      rw [getD_back (by simp)] at h1
      have := Int.dvd_sub h1 (k' (m + j))
      have e2 : ∀ a b c : Int, a - b - (a - c) = c - b := fun a b c => by omega
      rwa [e2] at this
/-! numbers of rows -/
theorem digs_cons (p m n : Nat) : digs p (m + 1) n = ((n % p : Nat) : Int) :: digs p m (n / p) := by
  unfold digs
  rw [List.range_succ_eq_map, List.map_cons, List.map_map]
  congr 1
  · simp
  · refine List.map_congr_left fun i _ => ?_
    show (((n / p ^ (i + 1)) % p : Nat) : Int) = _
    rw [Nat.pow_succ', Nat.div_div_eq_div_mul]
theorem digs_inj {p : Nat} (hp : 0 < p) : ∀ (m : Nat) {a b : Nat}, a < p ^ m → b < p ^ m → digs p m a = digs p m b → a = b
  | 0, a, b, ha, hb, _ => by simp at ha hb; omega
  | m + 1, a, b, ha, hb, e => by
    rw [digs_cons, digs_cons] at e
    injection e with e1 e2
    have e1 : a % p = b % p := by omega
    rw [Nat.pow_succ] at ha hb
    have := digs_inj hp m (Nat.div_lt_of_lt_mul (by rw [Nat.mul_comm]; exact ha)) (Nat.div_lt_of_lt_mul (by rw [Nat.mul_comm]; exact hb)) e2
    rw [← Nat.div_add_mod a p, ← Nat.div_add_mod b p, e1, this]
theorem allRows_nodup {p : Nat} (hp : 0 < p) (m : Nat) : (allRows p m).Nodup := by
  unfold allRows List.Nodup
  rw [List.pairwise_map]
  refine (List.nodup_range (n := p ^ m)).imp_of_mem fun {a b} ha hb2 h e => h ?_
  exact digs_inj hp m (List.mem_range.mp ha) (List.mem_range.mp hb2) e
theorem len_le_of {α : Type} [DecidableEq α] : ∀ {l1 l2 : List α}, l1.Nodup → (∀ a ∈ l1, a ∈ l2) → l1.length ≤ l2.length
  | [], l2, _, _ => by simp
  | a :: l, l2, n, h => by
    have n2 := List.pairwise_cons.mp n
    have := len_le_of (l1 := l) (l2 := l2.erase a) n2.2 fun b hb => (List.mem_erase_of_ne fun e => n2.1 b hb e.symm).mpr (h b (by simp [hb]))
    rw [List.length_erase_of_mem (h a (by simp))] at this
    have hl : 0 < l2.length := List.length_pos_of_mem (h a (by simp))
    rw [List.length_cons]
    omega
theorem len_eq_of {α β : Type} [DecidableEq α] [DecidableEq β] {l1 : List α} {l2 : List β} (n1 : l1.Nodup) (n2 : l2.Nodup) (f : α → β) (hf : ∀ a ∈ l1, f a ∈ l2) (inj : ∀ a ∈ l1, ∀ b ∈ l1, f a = f b → a = b) (sur : ∀ b ∈ l2, ∃ a ∈ l1, f a = b) : l1.length = l2.length := by
  have n3 : (l1.map f).Nodup := by
    unfold List.Nodup
    rw [List.pairwise_map]
    exact n1.imp_of_mem fun {a b} ha hb h e => h (inj a ha b hb e)
  have h1 := len_le_of (l1 := l1.map f) (l2 := l2) n3 fun b hb => by
    obtain ⟨a, ha, rfl⟩ := List.mem_map.mp hb
    exact hf a ha
  have h2 := len_le_of (l1 := l2) (l2 := l1.map f) n2 fun b hb => by
    obtain ⟨a, ha, e⟩ := sur b hb
    exact List.mem_map.mpr ⟨a, ha, e⟩
  rw [List.length_map] at h1 h2
  omega
def subR (m : Nat) (b b0 : Row) : Row := (List.range m).map fun j => b.getD j 0 - b0.getD j 0
theorem piv_count {p : Nat} (hp : 2 ≤ p) {m : Nat} {L : List (Nat × Row)} (hL : Piv L) (hm : ∀ a ∈ L, a.1 < m) (b0 : Row) {t : Row → Bool}
    (ht : ∀ b, RowOk p m b → (t b = true ↔ Comb p m (sndR L) (subR m b b0))) : ((allRows p m).filter t).length = p ^ L.length := by
  have hp0 : (0 : Int) < p := by omega
  rw [← allRows_len p L.length]
  refine (len_eq_of (allRows_nodup (by omega) _) ((allRows_nodup (by omega) m).filter _) (fun ws => (List.range m).map fun j => (dot ws (colAt (sndR L) j) + b0.getD j 0).fmod p) (fun ws hw => ?_) (fun ws hw ws' hw' e => ?_) (fun b hb => ?_)).symm
  · have hwo := allRows_ok (p := p) (by omega) ws hw
    have ho : RowOk p m ((List.range m).map fun j => (dot ws (colAt (sndR L) j) + b0.getD j 0).fmod p) := by
      refine ⟨by simp, fun x hx => ?_⟩
      obtain ⟨j, _, rfl⟩ := List.mem_map.mp hx
      exact fmod_lt hp0
    refine List.mem_filter.mpr ⟨mem_allRows (by omega) ho, (ht _ ho).mpr ⟨ws, by rw [hwo.1]; simp [sndR], fun j hj => ?_⟩⟩
    unfold subR
    rw [getD_range hj, getD_range hj]
    have := Int.dvd_neg.mpr (fmod_dvd p (dot ws (colAt (sndR L) j) + b0.getD j 0))
    have e : -((dot ws (colAt (sndR L) j) + b0.getD j 0).fmod p - (dot ws (colAt (sndR L) j) + b0.getD j 0)) = dot ws (colAt (sndR L) j) - ((dot ws (colAt (sndR L) j) + b0.getD j 0).fmod p - b0.getD j 0) := by omega
    rwa [e] at this
  · have h1 := allRows_ok (p := p) (by omega) ws hw
    have h2 := allRows_ok (p := p) (by omega) ws' hw'
    refine row_ext (by rw [h1.1, h2.1]) fun i hi => ?_
    have hi : i < L.length := by rw [← h1.1]; exact hi
    have ha : L[i]? = some L[i] := List.getElem?_eq_getElem hi
    have hj := hm L[i] (List.getElem_mem hi)
    have := congrArg (fun r : Row => r.getD L[i].1 0) e
    rw [getD_range hj, getD_range hj, piv_coef hL ha h1.1, piv_coef hL ha h2.1] at this
    have d1 := fmod_dvd p (ws.getD i 0 + b0.getD L[i].1 0)
    have d2 := fmod_dvd p (ws'.getD i 0 + b0.getD L[i].1 0)
    rw [this] at d1
    have := Int.dvd_sub d2 d1
    have e : ∀ x a b c : Int, x - (b + c) - (x - (a + c)) = a - b := fun x a b c => by omega
    rw [e] at this
    exact small_dvd this (getD_range2 hp0 h1 i) (getD_range2 hp0 h2 i)
  · obtain ⟨hb1, hb2⟩ := List.mem_filter.mp hb
    have hbo := allRows_ok (p := p) (by omega) b hb1
    obtain ⟨ws, l, k⟩ := (ht b hbo).mp hb2
    have l : ws.length = L.length := by rw [l]; simp [sndR]
    have hro : RowOk p L.length (ws.map fun x => x.fmod p) := ⟨by simp [l], fun x hx => by obtain ⟨y, _, rfl⟩ := List.mem_map.mp hx; exact fmod_lt hp0⟩
    refine ⟨ws.map fun x => x.fmod p, mem_allRows (by omega) hro, row_ext (by simp [hbo.1]) fun j hj => ?_⟩
    have hj : j < m := by simpa using hj
    rw [getD_range hj]
    have h1 := k j hj
    unfold subR at h1
    rw [getD_range hj] at h1
    have h2 : (p : Int) ∣ dot (ws.map fun x => x.fmod p) (colAt (sndR L) j) - dot ws (colAt (sndR L) j) := dot_cong (by simp) fun i hi => by
      have hi : i < ws.length := by simpa using hi
      rw [List.getD_eq_getElem?_getD, List.getD_eq_getElem?_getD, List.getElem?_map, List.getElem?_eq_getElem hi]
      exact fmod_dvd p _
    have h3 := Int.dvd_add (Int.dvd_add (fmod_dvd p (dot (ws.map fun x => x.fmod p) (colAt (sndR L) j) + b0.getD j 0)) h2) h1
    have e : ∀ x a b c d : Int, x - (a + c) + (a - b) + (b - (d - c)) = x - d := fun x a b c d => by omega
    rw [e] at h3
    exact small_dvd h3 (fmod_lt hp0) (getD_range2 hp0 hbo j)
end Lw

/-! starts in boxes -/
namespace Lw
open PySem PySem.Spec PyProof.Rows L2 DlP Dl
def solB (p : Int) (A : Tab) (v b : Row) : Bool := decide ((A.map fun r => (dot r b).fmod p) = v)
def boxT (m : Nat) (A : Tab) (v : Row) : Tab := v :: colsOf A m
def leastF (p : Int) (r : Row) : Row := (r.drop 1).map fun x => (-x).fmod p
def lndF (p : Int) (m : Nat) (A : Tab) (v : Row) : Option (Row × Tab) :=
  match tiesF p A.length (boxT m A v) with
  | [] => none
  | r :: T => if r.getD 0 0 = 0 then none else some (leastF p r, T.map fun q => q.drop 1)
theorem boxT_ok {p : Int} {m : Nat} {A : Tab} {v : Row} (hp : 0 < p) (hA : ∀ r ∈ A, RowOk p m r) (hv : RowOk p A.length v) : ∀ r ∈ boxT m A v, RowOk p A.length r := fun r hr => by
  rcases List.mem_cons.mp hr with z | z
  · rw [z]; exact hv
  · obtain ⟨c, _, rfl⟩ := List.mem_map.mp z
    refine ⟨by simp [colAt], fun x hx => ?_⟩
    obtain ⟨q, hq, rfl⟩ := List.mem_map.mp hx
    exact getD_range2 hp (hA q hq) c
theorem boxT_len (m : Nat) (A : Tab) (v : Row) : (boxT m A v).length = m + 1 := by simp [boxT, colsOf]
theorem boxT_col {m : Nat} {A : Tab} {v : Row} (hA : ∀ r ∈ A, r.length = m) {l : Nat} (hl : l < A.length) : colAt (boxT m A v) l = v.getD l 0 :: A[l] := by
  show v.getD l 0 :: colAt (colsOf A m) l = _
  congr 1
  conv => rhs; rw [← row_range (hA _ (List.getElem_mem hl))]
  unfold colAt colsOf
  rw [List.map_map]
  refine List.map_congr_left fun c _ => ?_
  exact colAt_getD (List.getElem?_eq_getElem hl)
theorem sol_iff {p : Int} {m : Nat} {A : Tab} {v b : Row} (hp : 0 < p) (hv : RowOk p A.length v) : solB p A v b = true ↔ ∀ l (hl : l < A.length), p ∣ dot A[l] b - v.getD l 0 := by
  unfold solB
  rw [decide_eq_true_iff]
  constructor
  · intro e l hl
    have := congrArg (fun r : Row => r.getD l 0) e
    have e2 : (A.map fun r => (dot r b).fmod p).getD l 0 = (dot A[l] b).fmod p := by
      rw [List.getD_eq_getElem?_getD, List.getElem?_map, List.getElem?_eq_getElem hl]
      rfl
    have this : (A.map fun r => (dot r b).fmod p).getD l 0 = v.getD l 0 := this
    rw [← this, e2]
    have := Int.dvd_neg.mpr (fmod_dvd p (dot A[l] b))
    rwa [Int.neg_sub] at this
  · intro h
    refine row_ext (by simp [hv.1]) fun l hl => ?_
    have hl : l < A.length := by simpa using hl
    have e2 : (A.map fun r => (dot r b).fmod p).getD l 0 = (dot A[l] b).fmod p := by
      rw [List.getD_eq_getElem?_getD, List.getElem?_map, List.getElem?_eq_getElem hl]
      rfl
    rw [e2]
    have h1 := Int.dvd_add (fmod_dvd p (dot A[l] b)) (h l hl)
    have e3 : ∀ a b c : Int, a - b + (b - c) = a - c := fun a b c => by omega
    rw [e3] at h1
    exact small_dvd h1 (fmod_lt hp) (getD_range2 hp hv l)
theorem sol_comb {p : Int} {m : Nat} {A : Tab} {v b : Row} (hp : 0 < p) (hA : ∀ r ∈ A, RowOk p m r) (hv : RowOk p A.length v) :
    solB p A v b = true ↔ ∀ j, j < A.length → p ∣ dot ((p - 1) :: b) (colAt (boxT m A v) j) := by
  rw [sol_iff (m := m) hp hv]
  have key : ∀ l (hl : l < A.length), p ∣ dot A[l] b - v.getD l 0 ↔ p ∣ dot ((p - 1) :: b) (colAt (boxT m A v) l) := fun l hl => by
    rw [boxT_col (fun r hr => (hA r hr).1) hl, dot_cons, dot_comm b]
    refine dvd_iff ⟨-(v.getD l 0), ?_⟩
    rw [Int.sub_mul, Int.one_mul, Int.mul_neg]
    omega
  exact ⟨fun h j hj => (key j hj).mp (h j hj), fun h j hj => (key j hj).mpr (h j hj)⟩
theorem piv_zero {a : Nat × Row} {L : List (Nat × Row)} (h : Piv (a :: L)) (h0 : a.2.getD 0 0 = 0) : ∀ r ∈ sndR (a :: L), r.getD 0 0 = 0 := fun r hr => by
  have ha : 0 < a.1 := by
    rcases Nat.eq_zero_or_pos a.1 with z | z
    · have := (h.1 a (by simp)).1
      rw [z, h0] at this
      cases this
    · exact z
  obtain ⟨b, hb, rfl⟩ := sndR_mem hr
  rcases List.mem_cons.mp hb with z | z
  · rw [z]; exact h0
  · have := ((List.pairwise_cons.mp h.2).1 b z).1
    exact (h.1 b hb).2 0 (by omega)
theorem box_main {p : Int} {m : Nat} {A : Tab} {v : Row} (hb : Base p) (hA : ∀ r ∈ A, RowOk p m r) (hv : RowOk p A.length v) :
    (lndF p m A v = none ∧ ∀ b, RowOk p m b → solB p A v b = false) ∨
    ∃ b0 L, lndF p m A v = some (b0, sndR L) ∧ RowOk p m b0 ∧ Piv L ∧ (∀ a ∈ L, a.1 < m ∧ b0.getD a.1 0 = 0 ∧ RowOk p m a.2) ∧ ∀ b, RowOk p m b → (solB p A v b = true ↔ Comb p m (sndR L) (subR m b b0)) := by
  have hp := hb.pos
  have hp0 : (0 : Int) < p := by omega
  obtain ⟨L, e, hL, hlt, hk⟩ := ties_main (m := A.length) hb (boxT_ok hp0 hA hv)
  rw [boxT_len] at hlt hk
  have none_case : (∀ r ∈ sndR L, r.getD 0 0 = 0) → ∀ b, RowOk p m b → solB p A v b = false := fun h b hbo => by
    cases hs : solB p A v b with
    | false => rfl
    | true =>
      have := (hk ((p - 1) :: b) (by simp [hbo.1])).mpr ((sol_comb hp0 hA hv).mp hs)
      obtain ⟨ws, l, k⟩ := this
      have := k 0 (by omega)
      rw [dot_col0 h] at this
      have this : p ∣ 0 - (p - 1) := this
      obtain ⟨q, eq⟩ := this
      exfalso
      have := small_dvd (p := p) (x := 1) (y := 0) ⟨q + 1, by rw [Int.mul_add]; omega⟩ (by omega) (by omega)
      omega
  unfold lndF
  rw [e]
  cases L with
  | nil => exact .inl ⟨rfl, none_case fun r hr => nomatch hr⟩
  | cons a L =>
    by_cases h0 : a.2.getD 0 0 = 0
    · refine .inl ⟨?_, none_case (piv_zero hL h0)⟩
      show (if a.2.getD 0 0 = 0 then none else _) = none
      rw [if_pos h0]
    · have hp1 := List.pairwise_cons.mp hL.2
      obtain ⟨a1, a2⟩ := hL.1 a (by simp)
      have ea : a.1 = 0 := by
        rcases Nat.eq_zero_or_pos a.1 with z | z
        · exact z
        · exact absurd (a2 0 z) h0
      have hao := (hlt a (by simp)).2
      have hlo : RowOk p m (leastF p a.2) := by
        refine ⟨by unfold leastF; rw [List.length_map, List.length_drop, hao.1]; omega, fun x hx => ?_⟩
        obtain ⟨y, _, rfl⟩ := List.mem_map.mp hx
        exact fmod_lt hp0
      have ge1 : ∀ b ∈ L, 1 ≤ b.1 := fun b hb2 => by have := (hp1.1 b hb2).1; omega
      have lj : ∀ j, (leastF p a.2).getD j 0 = (-(a.2.getD (1 + j) 0)).fmod p := fun j => by
        unfold leastF
        rw [← getD_drop (m := 1), List.getD_eq_getElem?_getD, List.getElem?_map, List.getD_eq_getElem?_getD]
        cases (a.2.drop 1)[j]? with
        | none => simp
        | some x => rfl
      have eT : (sndR L).map (fun q => q.drop 1) = sndR (L.map fun b => (b.1 - 1, b.2.drop 1)) := by
        unfold sndR
        rw [List.map_map, List.map_map]
        rfl
      refine .inr ⟨leastF p a.2, L.map fun b => (b.1 - 1, b.2.drop 1), ?_, hlo, ⟨fun c hc => ?_, ?_⟩, fun c hc => ?_, fun b hbo => ?_⟩
      · show (if a.2.getD 0 0 = 0 then none else some (leastF p a.2, (sndR L).map fun q => q.drop 1)) = _
        rw [if_neg h0, eT]
      · obtain ⟨d, hd, rfl⟩ := List.mem_map.mp hc
        have h1 := ge1 d hd
        obtain ⟨k1, k2⟩ := hL.1 d (by simp [hd])
        refine ⟨?_, fun j hj => ?_⟩
        · show (d.2.drop 1).getD (d.1 - 1) 0 = 1
          rw [getD_drop, show 1 + (d.1 - 1) = d.1 by omega, k1]
        · have hj : j < d.1 - 1 := hj
          show (d.2.drop 1).getD j 0 = 0
          rw [getD_drop, k2 _ (by omega)]
      · rw [List.pairwise_map]
        refine hp1.2.imp_of_mem fun {c d} hc hd ⟨k1, k2, k3⟩ => ?_
        have h1 := ge1 c hc
        have h2 := ge1 d hd
        refine ⟨by show c.1 - 1 < d.1 - 1; omega, ?_, ?_⟩
        · show (c.2.drop 1).getD (d.1 - 1) 0 = 0
          rw [getD_drop, show 1 + (d.1 - 1) = d.1 by omega, k2]
        · show (d.2.drop 1).getD (c.1 - 1) 0 = 0
          rw [getD_drop, show 1 + (c.1 - 1) = c.1 by omega, k3]
      · obtain ⟨d, hd, rfl⟩ := List.mem_map.mp hc
        have h1 := ge1 d hd
        obtain ⟨l1, l2⟩ := hlt d (by simp [hd])
        refine ⟨by show d.1 - 1 < m; omega, ?_, ⟨by show (d.2.drop 1).length = m; rw [List.length_drop, l2.1]; omega, fun x hx => l2.2 x (List.mem_of_mem_drop hx)⟩⟩
        show (leastF p a.2).getD (d.1 - 1) 0 = 0
        rw [lj, show 1 + (d.1 - 1) = d.1 by omega, (hp1.1 d hd).2.1]
        simp
      · rw [sol_comb hp0 hA hv, ← hk ((p - 1) :: b) (by simp [hbo.1])]
        have ecol : ∀ j, colAt (sndR (L.map fun b => (b.1 - 1, b.2.drop 1))) j = colAt (sndR L) (1 + j) := fun j => by
          unfold colAt sndR
          rw [List.map_map, List.map_map, List.map_map]
          exact List.map_congr_left fun a _ => getD_drop
        have ljd : ∀ j, p ∣ (leastF p a.2).getD j 0 + a.2.getD (1 + j) 0 := fun j => by
          rw [lj]
          have := fmod_dvd p (-(a.2.getD (1 + j) 0))
          rwa [Int.sub_neg] at this
        constructor
        · rintro ⟨ws, l, k⟩
          cases ws with
          | nil => cases l
          | cons w ws =>
            have l : ws.length = L.length := by simpa [sndR] using l
            have k0 := k 0 (by omega)
            rw [show (0 : Nat) = a.1 from ea.symm, piv_coef (i := 0) hL rfl (by simp [l]), ea] at k0
            have k0 : p ∣ w - (p - 1) := k0
            refine ⟨ws, by rw [l]; simp [sndR], fun j hj => ?_⟩
            rw [ecol]
            unfold subR
            rw [getD_range hj]
            have k1 := k (1 + j) (by omega)
            have e2 : ((p - 1) :: b).getD (1 + j) 0 = b.getD j 0 := by rw [Nat.add_comm]; rfl
            rw [e2] at k1
            have k1 : p ∣ w * a.2.getD (1 + j) 0 + dot ws (colAt (sndR L) (1 + j)) - b.getD j 0 := k1
            have k2 : p ∣ (w - (p - 1)) * a.2.getD (1 + j) 0 := Int.dvd_mul_of_dvd_left k0
            have k3 : p ∣ p * a.2.getD (1 + j) 0 := ⟨_, rfl⟩
            rw [Int.sub_mul, Int.sub_mul, Int.one_mul] at k2
            have := Int.dvd_add (Int.dvd_sub (Int.dvd_sub k1 k2) k3) (ljd j)
            have e3 : ∀ x y z u v t : Int, x + y - z - (x - (u - t)) - u + (v + t) = y - (z - v) := fun x y z u v t => by omega
            rwa [e3] at this
        · rintro ⟨ws, l, k⟩
          have l : ws.length = L.length := by rw [l]; simp [sndR]
          refine ⟨(p - 1) :: ws, by simp [sndR, l], fun j hj => ?_⟩
          cases j with
          | zero =>
            have := piv_coef (ws := (p - 1) :: ws) (i := 0) hL rfl (by simp [l])
            rw [ea] at this
            rw [this]
            exact dvd_self_sub
          | succ j =>
            have k1 := k j (by omega)
            rw [ecol, Nat.add_comm] at k1
            unfold subR at k1
            rw [getD_range (by omega)] at k1
            show p ∣ (p - 1) * a.2.getD (j + 1) 0 + dot ws (colAt (sndR L) (j + 1)) - b.getD j 0
            have k2 := ljd j
            rw [Nat.add_comm] at k2
            have k3 : p ∣ p * a.2.getD (j + 1) 0 := ⟨_, rfl⟩
            have := Int.dvd_add (Int.dvd_sub k1 k2) k3
            rw [Int.sub_mul, Int.one_mul]
            have e3 : ∀ x y z v t : Int, x - (y - v) - (v + t) + z = z - t + x - y := fun x y z v t => by omega
            rwa [e3] at this
theorem box_len {p : Nat} {m : Nat} {A : Tab} {v : Row} (hb : Base p) (hA : ∀ r ∈ A, RowOk p m r) (hv : RowOk p A.length v) :
    ((allRows p m).filter (solB p A v)).length = match lndF p m A v with | none => 0 | some q => p ^ q.2.length := by
  have hp := hb.pos
  rcases box_main hb hA hv with ⟨e, h⟩ | ⟨b0, L, e, _, hL, hl, h⟩
  · rw [e]
    refine List.length_eq_zero_iff.mpr (List.filter_eq_nil_iff.mpr fun b hbm => ?_)
    rw [h b (allRows_ok (by omega) b hbm)]
    simp
  · rw [e]
    show _ = p ^ (sndR L).length
    rw [piv_count (by omega) hL (fun a ha => (hl a ha).1) b0 h]
    simp [sndR]
theorem dot_right {p : Int} {u b c d : Row} (h : ∀ i, i < u.length → p ∣ b.getD i 0 - (c.getD i 0 + d.getD i 0)) (hb : b.length = u.length) (hc : c.length = u.length) (hd : d.length = u.length) : p ∣ dot u b - (dot u c + dot u d) := by
  have e : dot u c + dot u d = dot u (List.zipWith (· + ·) c d) := by
    rw [dot_comm u c, dot_comm u d, ← dot_add (by omega), dot_comm]
  rw [e, dot_comm u b, dot_comm u (List.zipWith (· + ·) c d)]
  refine dot_cong (by simp [hb, hc, hd]) fun i hi => ?_
  rw [getD_zipWith (by rfl) _ _ (by omega)]
  exact h i (by omega)
theorem getD_mul {k : Int} {l : Row} {i : Nat} : (l.map (k * ·)).getD i 0 = k * l.getD i 0 := by
  rw [List.getD_eq_getElem?_getD, List.getElem?_map, List.getD_eq_getElem?_getD]
  cases l[i]? with
  | none => show 0 = k * 0; rw [Int.mul_zero]
  | some x => rfl
theorem nil_getD (i : Nat) : ([] : Row).getD i 0 = 0 := by simp
theorem hom_len {p : Nat} {m : Nat} {A : Tab} {v b0 : Row} {T : Tab} (hb : Base p) (hA : ∀ r ∈ A, RowOk p m r) (hv : RowOk p A.length v) (h : lndF p m A v = some (b0, T)) :
    ((allRows p m).filter (solB p A (List.replicate A.length 0))).length = p ^ T.length := by
  have hp := hb.pos
  have hp0 : (0 : Int) < p := by omega
  rcases box_main hb hA hv with ⟨e, _⟩ | ⟨b1, L, e, hbo, hL, hl, hs⟩
  · rw [e] at h; cases h
  · rw [e] at h
    injection h with h
    injection h with h1 h2
    subst h1; subst h2
    have hz : RowOk p A.length (List.replicate A.length 0) := ⟨by simp, fun x hx => by rw [(List.mem_replicate.mp hx).2]; omega⟩
    have hsol0 : ∀ l (hl : l < A.length), (p : Int) ∣ dot A[l] b1 - v.getD l 0 := (sol_iff (m := m) hp0 hv).mp ((hs b1 hbo).mpr (comb_zero fun j hj => by
      unfold subR; rw [getD_range hj]; exact dvd_self_sub))
    rw [piv_count (by omega) hL (fun a ha => (hl a ha).1) [] (t := solB p A (List.replicate A.length 0)) fun b hb2 => ?_]
    · simp [sndR]
    · have hbs : RowOk p m ((List.range m).map fun j => (b.getD j 0 + b1.getD j 0).fmod p) := ⟨by simp, fun x hx => by obtain ⟨j, _, rfl⟩ := List.mem_map.mp hx; exact fmod_lt hp0⟩
      have alike : ∀ j, j < m → (p : Int) ∣ (subR m ((List.range m).map fun j => (b.getD j 0 + b1.getD j 0).fmod p) b1).getD j 0 - (subR m b []).getD j 0 := fun j hj => by
        unfold subR
        rw [getD_range hj, getD_range hj, getD_range hj, nil_getD, Int.sub_zero]
        have := fmod_dvd p (b.getD j 0 + b1.getD j 0)
        have e3 : ∀ x y z : Int, x - (y + z) = x - z - y := fun x y z => by omega
        rwa [e3] at this
      have step1 : Comb p m (sndR L) (subR m b []) ↔ solB p A v ((List.range m).map fun j => (b.getD j 0 + b1.getD j 0).fmod p) = true := by
        rw [hs _ hbs]
        refine ⟨fun h => comb_alike h fun j hj => ?_, fun h => comb_alike h alike⟩
        have := Int.dvd_neg.mpr (alike j hj)
        rwa [Int.neg_sub] at this
      rw [step1, sol_iff (m := m) hp0 hv, sol_iff (m := m) hp0 hz]
      have key : ∀ l (hl : l < A.length), (p : Int) ∣ dot A[l] b - (List.replicate A.length (0 : Int)).getD l 0 ↔ (p : Int) ∣ dot A[l] ((List.range m).map fun j => (b.getD j 0 + b1.getD j 0).fmod p) - v.getD l 0 := fun l hl => by
        have ez : (List.replicate A.length (0 : Int)).getD l 0 = 0 := by simp [hl]
        rw [ez, Int.sub_zero]
        have hAl := hA _ (List.getElem_mem hl)
        have hd := dot_right (p := p) (u := A[l]) (b := (List.range m).map fun j => (b.getD j 0 + b1.getD j 0).fmod p) (c := b) (d := b1) (fun i hi => by
          rw [getD_range (by rw [← hAl.1]; exact hi)]; exact fmod_dvd p _) (by simp [hAl.1]) (by rw [hb2.1, hAl.1]) (by rw [hbo.1, hAl.1])
        refine dvd_iff ?_
        have := Int.dvd_neg.mpr (Int.dvd_add hd (hsol0 l hl))
        have e3 : ∀ x y z w : Int, -(x - (y + z) + (z - w)) = y - (x - w) := fun x y z w => by omega
        rwa [e3] at this
      exact ⟨fun h l hl => (key l hl).mp (h l hl), fun h l hl => (key l hl).mpr (h l hl)⟩
/-! the law's rank -/
def redR (p : Int) (c : Nat) (f r : Row) : Row := List.zipWith (fun x y => (x - (r.getD c 0 * invF p (f.getD c 0)).fmod p * y).fmod p) r f
def rankStep (p : Int) (c : Nat) (st : Tab × Nat) : Tab × Nat :=
  match st.1.filter fun r => !decide (r.getD c 0 = 0) with
  | [] => st
  | f :: rest => ((st.1.filter fun r => decide (r.getD c 0 = 0)) ++ rest.map (redR p c f), st.2 + 1)
def rankS (p : Int) (m : Nat) (rows : Tab) : Tab × Nat := (List.range m).foldl (fun st c => rankStep p c st) (rows, 0)
def homB (p : Int) (c : Nat) (left : Tab) (b : Row) : Bool := left.all fun r => decide ((dot (r.drop c) b).fmod p = 0)
def homK (p : Nat) (n c : Nat) (left : Tab) : Nat := ((allRows p n).filter (homB p c left)).length
theorem homB_iff {p : Int} {c : Nat} {left : Tab} {b : Row} : homB p c left b = true ↔ ∀ r ∈ left, p ∣ dot (r.drop c) b := by
  unfold homB
  rw [List.all_eq_true]
  exact ⟨fun h r hr => fmod_zero.mp (of_decide_eq_true (h r hr)), fun h r hr => decide_eq_true (fmod_zero.mpr (h r hr))⟩
theorem drop_dot {r : Row} {m c : Nat} {x : Int} {b : Row} (hr : r.length = m) (hc : c < m) : dot (r.drop c) (x :: b) = r.getD c 0 * x + dot (r.drop (c + 1)) b := by
  subst hr
  rw [List.drop_eq_getElem_cons hc, dot_cons, List.getD_eq_getElem?_getD, List.getElem?_eq_getElem hc]
  rfl
theorem row_cons {p : Int} {n : Nat} {b : Row} (h : RowOk p (n + 1) b) : ∃ x b', b = x :: b' ∧ (0 ≤ x ∧ x < p) ∧ RowOk p n b' := by
  cases b with
  | nil => cases h.1
  | cons x b => exact ⟨x, b, rfl, h.2 x (by simp), by have := h.1; rw [List.length_cons] at this; omega, fun y hy => h.2 y (by simp [hy])⟩
theorem flat_lenR {α β : Type} (g : Nat → α → β) (l : List α) : ∀ n, ((List.range n).flatMap fun x => l.map (g x)).length = n * l.length
  | 0 => by simp
  | n + 1 => by rw [List.range_succ, List.flatMap_append, List.length_append, flat_lenR g l n, List.flatMap_singleton, List.length_map, Nat.succ_mul]
theorem homK_free {p : Nat} {m c : Nat} {left : Tab} (hp : 2 ≤ p) (hc : c < m) (hl : ∀ r ∈ left, RowOk p m r) (h : ∀ r ∈ left, r.getD c 0 = 0) : homK p (m - c) c left = p * homK p (m - (c + 1)) (c + 1) left := by
  have en : m - c = (m - (c + 1)) + 1 := by omega
  unfold homK
  rw [en]
  generalize m - (c + 1) = n
  have hb : ∀ x b, homB p c left (x :: b) = true ↔ homB p (c + 1) left b = true := fun x b => by
    rw [homB_iff, homB_iff]
    refine forall₂_congr fun r hr => ?_
    rw [drop_dot (hl r hr).1 hc, h r hr, Int.zero_mul, Int.zero_add]
  rw [← flat_lenR (fun x (b : Row) => ((x : Nat) : Int) :: b)]
  refine len_eq_of ((allRows_nodup (by omega) _).filter _) ?_ (fun b => b) (fun b hb2 => ?_) (fun a _ b _ e => e) (fun b hb2 => ⟨b, ?_, rfl⟩)
  · unfold List.Nodup
    rw [List.pairwise_flatMap]
    refine ⟨fun x _ => ?_, ?_⟩
    · rw [List.pairwise_map]
      exact ((allRows_nodup (p := p) (by omega) n).filter _).imp fun {a b} h e => h (by injection e)
    · refine (List.nodup_range (n := p)).imp fun {a b} hab x hx y hy e => hab ?_
      obtain ⟨u, _, rfl⟩ := List.mem_map.mp hx
      obtain ⟨v, _, rfl⟩ := List.mem_map.mp hy
      injection e with e1 _
      omega
  · obtain ⟨h1, h2⟩ := List.mem_filter.mp hb2
    obtain ⟨x, b', rfl, hx, hbo⟩ := row_cons (allRows_ok (by omega) b h1)
    obtain ⟨k, rfl⟩ := Int.eq_ofNat_of_zero_le hx.1
    exact List.mem_flatMap.mpr ⟨k, List.mem_range.mpr (by omega), List.mem_map.mpr ⟨b', List.mem_filter.mpr ⟨mem_allRows (by omega) hbo, (hb _ _).mp h2⟩, rfl⟩⟩
  · obtain ⟨k, hk, hb3⟩ := List.mem_flatMap.mp hb2
    obtain ⟨b', hb4, rfl⟩ := List.mem_map.mp hb3
    obtain ⟨h1, h2⟩ := List.mem_filter.mp hb4
    have hk := List.mem_range.mp hk
    have hbo := allRows_ok (p := p) (by omega) b' h1
    refine List.mem_filter.mpr ⟨mem_allRows (by omega) ⟨by simp [hbo.1], fun y hy => ?_⟩, (hb _ _).mpr h2⟩
    rcases List.mem_cons.mp hy with z | z
    · rw [z]; omega
    · exact hbo.2 y z
theorem redR_ok {p : Int} {m c : Nat} {f r : Row} (hp : 0 < p) (hf : f.length = m) (hr : r.length = m) : RowOk p m (redR p c f r) := by
  refine ⟨by unfold redR; rw [List.length_zipWith, hr, hf, Nat.min_self], fun x hx => ?_⟩
  obtain ⟨y, _, z, _, rfl⟩ := mem_zip hx
  exact fmod_lt hp
theorem homK_step {p : Nat} {m c : Nat} {left rest : Tab} {f : Row} (hb : Base p) (hc : c < m) (hl : ∀ r ∈ left, RowOk p m r) (h : (left.filter fun r => !decide (r.getD c 0 = 0)) = f :: rest) :
    homK p (m - c) c left = homK p (m - (c + 1)) (c + 1) ((left.filter fun r => decide (r.getD c 0 = 0)) ++ rest.map (redR p c f)) := by
  have hp := hb.pos
  have hp0 : (0 : Int) < p := by omega
  have en : m - c = (m - (c + 1)) + 1 := by omega
  unfold homK
  rw [en]
  have hn : m - (c + 1) + (c + 1) = m := by omega
  generalize m - (c + 1) = n at hn ⊢
  have hfm : f ∈ left ∧ f.getD c 0 ≠ 0 := by
    have : f ∈ left.filter fun r => !decide (r.getD c 0 = 0) := by rw [h]; simp
    obtain ⟨h1, h2⟩ := List.mem_filter.mp this
    exact ⟨h1, fun z => by rw [decide_eq_true z] at h2; cases h2⟩
  have hrm : ∀ r ∈ rest, r ∈ left := fun r hr => by
    have : r ∈ left.filter fun r => !decide (r.getD c 0 = 0) := by rw [h]; simp [hr]
    exact (List.mem_filter.mp this).1
  have hfo := hl f hfm.1
  have hg := getD_range2 hp0 hfo c
  obtain ⟨⟨i1, i2, i3⟩, _⟩ := invF_ok (f := f.getD c 0) hb ⟨by have := hfm.2; omega, hg.2⟩
  have inv1 : (p : Int) ∣ f.getD c 0 * invF p (f.getD c 0) - 1 := by
    have := Int.dvd_neg.mpr (fmod_dvd p (f.getD c 0 * invF p (f.getD c 0)))
    rwa [i3, Int.neg_sub] at this
  have split : ∀ r, r ∈ left ↔ r ∈ left.filter (fun r => decide (r.getD c 0 = 0)) ∨ r = f ∨ r ∈ rest := fun r => by
    constructor
    · intro hr
      by_cases z : r.getD c 0 = 0
      · exact .inl (List.mem_filter.mpr ⟨hr, decide_eq_true z⟩)
      · have : r ∈ left.filter fun r => !decide (r.getD c 0 = 0) := List.mem_filter.mpr ⟨hr, by rw [decide_eq_false z]; rfl⟩
        rw [h] at this
        exact .inr (List.mem_cons.mp this)
    · rintro (z | z | z)
      · exact (List.mem_filter.mp z).1
      · rw [z]; exact hfm.1
      · exact hrm r z
  generalize eio : invF p (f.getD c 0) = io at inv1
  -- one row led back by f
  have red : ∀ r, r.length = m → ∀ x b, b.length = n → (p : Int) ∣ f.getD c 0 * x + dot (f.drop (c + 1)) b → ((p : Int) ∣ dot ((redR p c f r).drop (c + 1)) b ↔ (p : Int) ∣ r.getD c 0 * x + dot (r.drop (c + 1)) b) := fun r hr x b hbl hx => by
    have e1 : (p : Int) ∣ dot ((redR p c f r).drop (c + 1)) b - dot (List.zipWith (· + ·) (r.drop (c + 1)) ((f.drop (c + 1)).map (-(r.getD c 0 * io) * ·))) b := dot_cong (by simp [redR, hr, hfo.1]) fun i hi => by
      rw [getD_zipWith (by rfl) _ _ (by simp [hr, hfo.1]), getD_drop, getD_drop]
      have e2 : ((f.drop (c + 1)).map (-(r.getD c 0 * io) * ·)).getD i 0 = -(r.getD c 0 * io) * f.getD (c + 1 + i) 0 := by
        rw [getD_mul, getD_drop]
      rw [e2]
      unfold redR
      rw [getD_zipWith (f := fun x y => (x - (r.getD c 0 * invF p (f.getD c 0)).fmod p * y).fmod p) (by simp) _ _ (by rw [hr, hfo.1]), eio]
      have d1 := fmod_dvd p (r.getD (c + 1 + i) 0 - (r.getD c 0 * io).fmod p * f.getD (c + 1 + i) 0)
      have d2 : (p : Int) ∣ ((r.getD c 0 * io).fmod p - r.getD c 0 * io) * f.getD (c + 1 + i) 0 := Int.dvd_mul_of_dvd_left (fmod_dvd p _)
      rw [Int.sub_mul] at d2
      have := Int.dvd_sub d1 d2
      have e3 : ∀ t x y z : Int, t - (x - y) - (y - z) = t - (x - z) := fun t x y z => by omega
      rw [e3] at this
      rw [Int.neg_mul]
      have e4 : ∀ t x y : Int, t - (x + -y) = t - (x - y) := fun t x y => by omega
      rwa [e4]
    rw [dot_add (by simp [hr, hfo.1]), dot_mul] at e1
    -- -(r_c io) (f' b) is r_c x
    have d3 : (p : Int) ∣ (r.getD c 0 * io) * (f.getD c 0 * x + dot (f.drop (c + 1)) b) := Int.dvd_mul_of_dvd_right hx
    have d4 : (p : Int) ∣ (r.getD c 0 * x) * (f.getD c 0 * io - 1) := Int.dvd_mul_of_dvd_right inv1
    rw [Int.mul_add] at d3
    rw [Int.mul_sub, Int.mul_one] at d4
    have e5 : r.getD c 0 * io * (f.getD c 0 * x) = r.getD c 0 * x * (f.getD c 0 * io) := by
      rw [Int.mul_assoc, Int.mul_assoc]
      congr 1
      rw [Int.mul_comm, Int.mul_assoc, Int.mul_comm, Int.mul_assoc, Int.mul_comm io]
    rw [e5] at d3
    refine dvd_iff ?_
    have e7 : ∀ t u v w x : Int, t - (u + -v) + -(w + v) + (w - x) = t - (x + u) := fun t u v w x => by omega
    have := Int.dvd_add (Int.dvd_add e1 (Int.dvd_neg.mpr d3)) d4
    rw [Int.neg_mul] at this
    rwa [e7] at this
  have hom : ∀ x b, b.length = n → (homB p c left (x :: b) = true ↔ (p : Int) ∣ f.getD c 0 * x + dot (f.drop (c + 1)) b ∧ homB p (c + 1) ((left.filter fun r => decide (r.getD c 0 = 0)) ++ rest.map (redR p c f)) b = true) := fun x b hbl => by
    rw [homB_iff, homB_iff]
    constructor
    · intro k
      have k0 := k f hfm.1
      rw [drop_dot hfo.1 hc] at k0
      refine ⟨k0, fun r hr => ?_⟩
      rcases List.mem_append.mp hr with z | z
      · obtain ⟨z1, z2⟩ := List.mem_filter.mp z
        have := k r z1
        rw [drop_dot (hl r z1).1 hc, of_decide_eq_true z2, Int.zero_mul, Int.zero_add] at this
        exact this
      · obtain ⟨q, hq, rfl⟩ := List.mem_map.mp z
        have := k q (hrm q hq)
        rw [drop_dot (hl q (hrm q hq)).1 hc] at this
        exact (red q (hl q (hrm q hq)).1 x b hbl k0).mpr this
    · rintro ⟨k0, k⟩ r hr
      rw [drop_dot (hl r hr).1 hc]
      rcases (split r).mp hr with z | z | z
      · have := k r (List.mem_append.mpr (.inl z))
        rw [of_decide_eq_true (List.mem_filter.mp z).2, Int.zero_mul, Int.zero_add]
        exact this
      · rw [z]; exact k0
      · exact (red r (hl r hr).1 x b hbl k0).mp (k _ (List.mem_append.mpr (.inr (List.mem_map.mpr ⟨r, z, rfl⟩))))
  refine len_eq_of ((allRows_nodup (by omega) _).filter _) ((allRows_nodup (by omega) _).filter _) (fun b => b.drop 1) (fun b hb2 => ?_) (fun a ha b hb2 e => ?_) (fun b hb2 => ?_)
  · obtain ⟨h1, h2⟩ := List.mem_filter.mp hb2
    obtain ⟨x, b', rfl, hx, hbo⟩ := row_cons (allRows_ok (by omega) b h1)
    exact List.mem_filter.mpr ⟨mem_allRows (by omega) hbo, ((hom x b' hbo.1).mp h2).2⟩
  · obtain ⟨h1, h2⟩ := List.mem_filter.mp ha
    obtain ⟨x, a', rfl, hx, hao⟩ := row_cons (allRows_ok (by omega) a h1)
    obtain ⟨h3, h4⟩ := List.mem_filter.mp hb2
    obtain ⟨y, b', rfl, hy, hbo⟩ := row_cons (allRows_ok (by omega) b h3)
    have e : a' = b' := e
    subst e
    have k1 := ((hom x a' hao.1).mp h2).1
    have k2 := ((hom y a' hao.1).mp h4).1
    have k3 := Int.dvd_sub k1 k2
    have e3 : ∀ u v w : Int, u + w - (v + w) = u - v := fun u v w => by omega
    rw [e3, ← Int.mul_sub] at k3
    have k4 : (p : Int) ∣ io * (f.getD c 0 * (x - y)) := Int.dvd_mul_of_dvd_right k3
    have k5 : (p : Int) ∣ (x - y) * (f.getD c 0 * io - 1) := Int.dvd_mul_of_dvd_right inv1
    rw [Int.mul_sub, Int.mul_one] at k5
    have e4 : io * (f.getD c 0 * (x - y)) = (x - y) * (f.getD c 0 * io) := by rw [← Int.mul_assoc, Int.mul_comm, Int.mul_comm io]
    rw [e4] at k4
    have := Int.dvd_sub k4 k5
    have e5 : ∀ u v : Int, u - (u - v) = v := fun u v => by omega
    rw [e5] at this
    rw [small_dvd this hx hy]
  · obtain ⟨h1, h2⟩ := List.mem_filter.mp hb2
    have hbo := allRows_ok (p := p) (by omega) b h1
    have k0 : (p : Int) ∣ f.getD c 0 * (-(io * dot (f.drop (c + 1)) b)).fmod p + dot (f.drop (c + 1)) b := by
      have d1 : (p : Int) ∣ f.getD c 0 * ((-(io * dot (f.drop (c + 1)) b)).fmod p - -(io * dot (f.drop (c + 1)) b)) := Int.dvd_mul_of_dvd_right (fmod_dvd p _)
      have d2 : (p : Int) ∣ (f.getD c 0 * io - 1) * dot (f.drop (c + 1)) b := Int.dvd_mul_of_dvd_left inv1
      rw [Int.mul_sub, Int.mul_neg, ← Int.mul_assoc] at d1
      rw [Int.sub_mul, Int.one_mul] at d2
      have := Int.dvd_sub d1 d2
      have e3 : ∀ t u v : Int, t - -u - (u - v) = t + v := fun t u v => by omega
      rwa [e3] at this
    refine ⟨(-(io * dot (f.drop (c + 1)) b)).fmod p :: b, List.mem_filter.mpr ⟨mem_allRows (by omega) ⟨by simp [hbo.1], fun y hy => ?_⟩, (hom _ b hbo.1).mpr ⟨k0, h2⟩⟩, rfl⟩
    rcases List.mem_cons.mp hy with z | z
    · rw [z]; exact fmod_lt hp0
    · exact hbo.2 y z
theorem rank_inv {p : Nat} {m : Nat} {rows : Tab} (hb : Base p) (h : ∀ r ∈ rows, RowOk p m r) : ∀ c, c ≤ m →
    let st := (List.range c).foldl (fun st c => rankStep p c st) (rows, 0)
    (∀ r ∈ st.1, RowOk p m r) ∧ st.1.length + st.2 ≤ rows.length ∧ st.2 ≤ c ∧ homK p m 0 rows = homK p (m - c) c st.1 * p ^ (c - st.2)
  | 0, _ => ⟨h, by show rows.length + 0 ≤ _; omega, Nat.le_refl _, by show _ = homK p (m - 0) 0 rows * p ^ 0; simp⟩
  | c + 1, hc => by
    have hp := hb.pos
    have hp0 : (0 : Int) < p := by omega
    obtain ⟨h1, h2, h3, h4⟩ := rank_inv hb h c (by omega)
    dsimp only
    rw [List.range_succ, List.foldl_append]
    generalize (List.range c).foldl (fun st c => rankStep p c st) (rows, 0) = st at h1 h2 h3 h4 ⊢
    obtain ⟨left, k⟩ := st
    dsimp only at h1 h2 h3 h4
    show (∀ r ∈ (rankStep p c (left, k)).1, RowOk p m r) ∧ (rankStep p c (left, k)).1.length + (rankStep p c (left, k)).2 ≤ rows.length ∧ (rankStep p c (left, k)).2 ≤ c + 1 ∧ homK p m 0 rows = homK p (m - (c + 1)) (c + 1) (rankStep p c (left, k)).1 * p ^ (c + 1 - (rankStep p c (left, k)).2)
    cases e : left.filter fun r => !decide (r.getD c 0 = 0) with
    | nil =>
      have es : rankStep p c (left, k) = (left, k) := by unfold rankStep; dsimp only; rw [e]
      rw [es]
      refine ⟨h1, h2, by show k ≤ c + 1; omega, ?_⟩
      have hz : ∀ r ∈ left, r.getD c 0 = 0 := fun r hr => by
        have := List.filter_eq_nil_iff.mp e r hr
        by_cases z : r.getD c 0 = 0
        · exact z
        · rw [decide_eq_false z] at this; exact absurd rfl this
      rw [h4, homK_free (by omega) (by omega) h1 hz]
      show _ = _ * p ^ (c + 1 - k)
      rw [show c + 1 - k = (c - k) + 1 by omega, Nat.pow_succ, Nat.mul_comm p, Nat.mul_assoc, Nat.mul_comm p]
    | cons f rest =>
      have es : rankStep p c (left, k) = ((left.filter fun r => decide (r.getD c 0 = 0)) ++ rest.map (redR p c f), k + 1) := by unfold rankStep; dsimp only; rw [e]
      rw [es]
      have hfm : ∀ r ∈ f :: rest, r ∈ left := fun r hr => by rw [← e] at hr; exact (List.mem_filter.mp hr).1
      refine ⟨fun r hr => ?_, ?_, by show k + 1 ≤ c + 1; omega, ?_⟩
      · rcases List.mem_append.mp hr with z | z
        · exact h1 r (List.mem_filter.mp z).1
        · obtain ⟨q, hq, rfl⟩ := List.mem_map.mp z
          exact redR_ok hp0 (h1 f (hfm f (by simp))).1 (h1 q (hfm q (by simp [hq]))).1
      · have hlen : ∀ l : Tab, (l.filter fun r => decide (r.getD c 0 = 0)).length + (l.filter fun r => !decide (r.getD c 0 = 0)).length = l.length := fun l => by
          induction l with
          | nil => rfl
          | cons x l ih =>
            by_cases z : x.getD c 0 = 0
            · rw [List.filter_cons_of_pos (p := fun r : Row => decide (r.getD c 0 = 0)) (decide_eq_true z), List.filter_cons_of_neg (p := fun r : Row => !decide (r.getD c 0 = 0)) (by rw [decide_eq_true z]; simp)]
              simp only [List.length_cons]; omega
            · rw [List.filter_cons_of_neg (p := fun r : Row => decide (r.getD c 0 = 0)) (by rw [decide_eq_false z]; simp), List.filter_cons_of_pos (p := fun r : Row => !decide (r.getD c 0 = 0)) (by rw [decide_eq_false z]; rfl)]
              simp only [List.length_cons]; omega
        have := hlen left
        rw [e, List.length_cons] at this
        show ((left.filter fun r => decide (r.getD c 0 = 0)) ++ rest.map (redR p c f)).length + (k + 1) ≤ rows.length
        rw [List.length_append, List.length_map]
        omega
      · rw [h4, homK_step hb (by omega) h1 e]
        show _ = _ * p ^ (c + 1 - (k + 1))
        rw [show c + 1 - (k + 1) = c - k by omega]
def rankN (p : Int) (m : Nat) (rows : Tab) : Nat := (rankS p m rows).2
theorem rank_ok {p : Nat} {m : Nat} {rows : Tab} (hb : Base p) (h : ∀ r ∈ rows, RowOk p m r) : rankN p m rows ≤ m ∧ ((allRows p m).filter (solB p rows (List.replicate rows.length 0))).length = p ^ (m - rankN p m rows) := by
  have hp := hb.pos
  have hp0 : (0 : Int) < p := by omega
  obtain ⟨h1, h2, h3, h4⟩ := rank_inv hb h m (Nat.le_refl m)
  refine ⟨h3, ?_⟩
  have e0 : homK p m 0 rows = ((allRows p m).filter (solB p rows (List.replicate rows.length 0))).length := by
    unfold homK
    congr 1
    refine List.filter_congr fun b _ => ?_
    rw [Bool.eq_iff_iff, homB_iff, sol_iff (m := m) hp0 ⟨by simp, fun x hx => by rw [(List.mem_replicate.mp hx).2]; omega⟩]
    constructor
    · intro k l hl
      have := k _ (List.getElem_mem hl)
      have ez : (List.replicate rows.length (0 : Int)).getD l 0 = 0 := by simp [hl]
      rw [ez, Int.sub_zero]
      exact this
    · intro k r hr
      obtain ⟨l, hl, rfl⟩ := List.getElem_of_mem hr
      have := k l hl
      have ez : (List.replicate rows.length (0 : Int)).getD l 0 = 0 := by simp [hl]
      rw [ez, Int.sub_zero] at this
      exact this
  rw [← e0, h4]
  have e1 : homK p (m - m) m ((List.range m).foldl (fun st c => rankStep p c st) (rows, 0)).1 = 1 := by
    unfold homK
    rw [Nat.sub_self]
    have : allRows p 0 = [[]] := rfl
    rw [this]
    have : homB p m ((List.range m).foldl (fun st c => rankStep p c st) (rows, 0)).1 [] = true := homB_iff.mpr fun r _ => by rw [dot_nil']; exact Int.dvd_zero _
    rw [List.filter_cons_of_pos this]
    rfl
  rw [e1, Nat.one_mul]
  rfl
end Lw

/-! the least start in a box, and its stairs -/
namespace Lw
open PySem PySem.Spec PyProof.Rows L2 DlP Dl
theorem piv_filter : ∀ {L : List (Nat × Row)} {i : Nat} {a : Nat × Row}, Piv L → L[i]? = some a → ((sndR L).filter fun r => !decide (r.getD a.1 0 = 0)) = [a.2]
  | [], _, _, _, h => by simp at h
  | b :: L, 0, a, hL, h => by
    have e : b = a := by simpa using h
    subst e
    have h1 := (hL.1 b (by simp)).1
    have ht : ((sndR L).filter fun r => !decide (r.getD b.1 0 = 0)) = [] := List.filter_eq_nil_iff.mpr fun r hr => by
      obtain ⟨d, hd, rfl⟩ := sndR_mem hr
      rw [((List.pairwise_cons.mp hL.2).1 d hd).2.2]
      simp
    show List.filter _ (b.2 :: sndR L) = _
    rw [List.filter_cons_of_pos (by rw [h1]; decide), ht]
  | b :: L, i + 1, a, hL, h => by
    have h : L[i]? = some a := by simpa using h
    have h1 := ((List.pairwise_cons.mp hL.2).1 a (List.mem_of_getElem? h)).2.1
    show List.filter _ (b.2 :: sndR L) = _
    rw [List.filter_cons_of_neg (by rw [h1]; simp)]
    exact piv_filter hL.tail h
theorem filter_head {α : Type} {T : α → Bool} {x : α} : ∀ {l : List α} {c : Nat}, l[c]? = some x → (∀ (j : Nat) y, j < c → l[j]? = some y → T y = false) → T x = true → ∃ tl, l.filter T = x :: tl
  | [], _, h, _, _ => by simp at h
  | y :: l, 0, h, _, hx => by
    have e : y = x := by simpa using h
    subst e
    exact ⟨_, List.filter_cons_of_pos hx⟩
  | y :: l, c + 1, h, hz, hx => by
    have h0 := hz 0 y (by omega) rfl
    rw [List.filter_cons_of_neg (by rw [h0]; simp)]
    exact filter_head (c := c) (by simpa using h) (fun j z hj hjz => hz (j + 1) z (by omega) (by simpa using hjz)) hx
theorem dvd_col {p : Int} {j : Nat} : ∀ {L : List (Nat × Row)} {ws : Row}, ws.length = L.length → (∀ (i : Nat) a, L[i]? = some a → p ∣ ws.getD i 0 ∨ a.2.getD j 0 = 0) → p ∣ dot ws (colAt (sndR L) j)
  | [], ws, _, _ => by rw [show colAt (sndR []) j = [] from rfl, dot_nil']; exact Int.dvd_zero p
  | b :: L, [], l, _ => by cases l
  | b :: L, w :: ws, l, h => by
    have ih := dvd_col (p := p) (j := j) (L := L) (ws := ws) (by simpa using l) fun i a ha => by
      have := h (i + 1) a (by simpa using ha)
      simpa using this
    show p ∣ w * b.2.getD j 0 + dot ws (colAt (sndR L) j)
    refine Int.dvd_add ?_ ih
    rcases h 0 b rfl with z | z
    · exact Int.dvd_mul_of_dvd_left (show p ∣ w from z)
    · rw [z, Int.mul_zero]; exact Int.dvd_zero p
theorem least_lex {p : Int} {m : Nat} {L : List (Nat × Row)} {b0 r : Row} (hp : 0 < p) (hL : Piv L) (hm : ∀ a ∈ L, a.1 < m ∧ b0.getD a.1 0 = 0) (hb : RowOk p m b0) (hr : RowOk p m r) (hc : Comb p m (sndR L) (subR m r b0)) (hne : r ≠ b0) :
    ∃ j, j < m ∧ (∀ i, i < j → b0.getD i 0 = r.getD i 0) ∧ b0.getD j 0 < r.getD j 0 := by
  have hex : ∃ j, j < m ∧ b0.getD j 0 ≠ r.getD j 0 := by
    refine Classical.byContradiction fun h => hne (row_ext (by rw [hb.1, hr.1]) fun j hj => ?_)
    rw [hr.1] at hj
    refine Classical.byContradiction fun z => h ⟨j, hj, fun e => z e.symm⟩
  obtain ⟨j, ⟨hj, hjn⟩, hjm⟩ : ∃ j, (j < m ∧ b0.getD j 0 ≠ r.getD j 0) ∧ ∀ i, i < j → ¬ (i < m ∧ b0.getD i 0 ≠ r.getD i 0) := by
    obtain ⟨j, hj⟩ := hex
    induction j using Nat.strongRecOn with
    | ind j ih =>
      by_cases h : ∃ i, i < j ∧ (i < m ∧ b0.getD i 0 ≠ r.getD i 0)
      · obtain ⟨i, h1, h2⟩ := h
        exact ih i h1 h2
      · exact ⟨j, hj, fun i hi k => h ⟨i, hi, k⟩⟩
  have heq : ∀ i, i < j → b0.getD i 0 = r.getD i 0 := fun i hi => Classical.byContradiction fun z => hjm i hi ⟨by omega, z⟩
  refine ⟨j, hj, heq, ?_⟩
  have b1 := getD_range2 hp hb j
  have b2 := getD_range2 hp hr j
  by_cases hpv : ∃ a ∈ L, a.1 = j
  · obtain ⟨a, ha, rfl⟩ := hpv
    have := (hm a ha).2
    omega
  · exfalso
    obtain ⟨ws, l, k⟩ := hc
    have l : ws.length = L.length := by rw [l]; simp [sndR]
    have hd := dvd_col (p := p) (j := j) l fun i a ha => by
      have ham := List.mem_of_getElem? ha
      rcases Nat.lt_trichotomy a.1 j with z | z | z
      · left
        have k1 := k a.1 (by omega)
        rw [piv_coef hL ha l] at k1
        unfold subR at k1
        rw [getD_range (by omega), heq a.1 z, Int.sub_self, Int.sub_zero] at k1
        exact k1
      · exact absurd ⟨a, ham, z⟩ hpv
      · right; exact (hL.1 a ham).2 j z
    have k2 := k j hj
    unfold subR at k2
    rw [getD_range hj] at k2
    have := Int.dvd_sub hd k2
    have e : ∀ x y : Int, x - (x - y) = y := fun x y => by omega
    rw [e] at this
    exact hjn (small_dvd this b2 b1).symm
theorem listLt_of : ∀ {a b : Row} (j : Nat), a.length = b.length → j < a.length → (∀ i, i < j → a.getD i 0 = b.getD i 0) → a.getD j 0 < b.getD j 0 → PySem.W.listLt a b = true ∧ PySem.W.listLt b a = false
  | [], _, j, _, h, _, _ => by simp at h
  | _ :: _, [], j, l, _, _, _ => by cases l
  | x :: a, y :: b, 0, _, _, _, h => by
    have h : x < y := h
    unfold PySem.W.listLt
    rw [if_neg (by omega), if_neg (by omega)]
    exact ⟨decide_eq_true h, decide_eq_false (by omega)⟩
  | x :: a, y :: b, j + 1, l, hj, he, h => by
    have e0 : x = y := he 0 (by omega)
    have ih := listLt_of (a := a) (b := b) j (by simpa using l) (by simpa using hj) (fun i hi => by simpa using he (i + 1) (by omega)) (by simpa using h)
    unfold PySem.W.listLt
    rw [if_pos e0, if_pos e0.symm]
    exact ih
abbrev TI := PySem.W.Tup Int
theorem minOf_is {z : TI} : ∀ {xs : List TI} {x : TI}, z ∈ x :: xs → (∀ y ∈ x :: xs, y ≠ z → PySem.W.DatumOrd.lt z y = true ∧ PySem.W.DatumOrd.lt y z = false) → PySem.W.minOf x xs = z
  | [], x, h, _ => by
    rw [List.mem_singleton.mp h]
    rfl
  | y :: xs, x, h, k => by
    show PySem.W.minOf (if PySem.W.DatumOrd.lt y x = true then y else x) xs = z
    refine minOf_is ?_ fun w hw hne => ?_
    · by_cases ex : x = z
      · by_cases ey : y = z
        · simp [ex, ey]
        · rw [ex, (k y (by simp) ey).2]; simp
      · by_cases ey : y = z
        · rw [ey, (k x (by simp) ex).1]; simp
        · rcases List.mem_cons.mp h with e | e
          · exact absurd e.symm ex
          · rcases List.mem_cons.mp e with e | e
            · exact absurd e.symm ey
            · exact List.mem_cons.mpr (.inr e)
    · refine k w ?_ hne
      rcases List.mem_cons.mp hw with e | e
      · rw [e]; split <;> simp
      · simp [e]
end Lw

/-! numbers of sums and of ties -/
namespace Lw
open PySem PySem.Spec PyProof.Rows L2 DlP Dl
theorem sub_nil {p : Int} {m : Nat} {T : Tab} {u : Row} : Comb p m T (subR m u []) ↔ Comb p m T u := by
  have e : ∀ j, j < m → (subR m u []).getD j 0 = u.getD j 0 := fun j hj => by unfold subR; rw [getD_range hj, nil_getD, Int.sub_zero]
  exact ⟨fun h => comb_alike h fun j hj => by rw [e j hj]; exact dvd_self_sub, fun h => comb_alike h fun j hj => by rw [e j hj]; exact dvd_self_sub⟩
theorem rank_num {p : Nat} (hb : Base p) {n m : Nat} {rs : Tab} (hl : rs.length = n) (h : ∀ r ∈ rs, RowOk p m r) {keys : List Row} (hn : keys.Nodup) (hk : ∀ k, k ∈ keys ↔ ∃ f ∈ allRows p n, sumOf p m f rs = k) :
    keys.length = p ^ (stairsF p m (rs.map fun r => (false, r))).length := by
  have hp := hb.pos
  have hp0 : (0 : Int) < p := by omega
  have hlen : ∀ r ∈ rs, r.length = m := fun r hr => (h r hr).1
  obtain ⟨L, e, hL, hc, hs⟩ := stairs_main (p := p) (m := m) (rows := rs.map fun r => (false, r)) hb fun q hq => by
    obtain ⟨r, hr, rfl⟩ := List.mem_map.mp hq
    exact h r hr
  have er : ((rs.map fun r => ((false, r) : QRow)).map fun q => q.2) = rs := by rw [List.map_map]; exact List.map_id' rs
  rw [er, e] at hs
  rw [e]
  have hcnt := piv_count (p := p) (m := m) (by omega) hL hc [] (t := fun b => @decide (Comb p m (sndR L) (subR m b [])) (Classical.propDecidable _)) fun b _ => @decide_eq_true_iff _ (Classical.propDecidable _)
  have el : (sndR L).length = L.length := by simp [sndR]
  rw [el, ← hcnt]
  refine len_eq_of hn ((allRows_nodup (by omega) m).filter _) (fun k => k) (fun k hkm => ?_) (fun a _ b _ e => e) (fun b hbm => ⟨b, ?_, rfl⟩)
  · obtain ⟨f, hf, rfl⟩ := (hk k).mp hkm
    have hfo := allRows_ok (p := p) (by omega) f hf
    obtain ⟨s1, s2⟩ := sumOf_ok (p := (p : Int)) (m := m) hp0 (figs := f) (lines := rs) (by rw [hfo.1, hl]) hlen
    refine List.mem_filter.mpr ⟨mem_allRows (by omega) s1, @decide_eq_true _ (Classical.propDecidable _) (sub_nil.mpr ((hs _).mpr ⟨f, by rw [hfo.1, hl], fun j hj => ?_⟩))⟩
    have := Int.dvd_neg.mpr (s2 j)
    rwa [Int.neg_sub] at this
  · obtain ⟨b1, b2⟩ := List.mem_filter.mp hbm
    have hbo := allRows_ok (p := p) (by omega) b b1
    obtain ⟨ws, l, k⟩ := (hs b).mp (sub_nil.mp (@of_decide_eq_true _ (Classical.propDecidable _) b2))
    have hro : RowOk p n (ws.map fun x => x.fmod p) := ⟨by rw [List.length_map, l, hl], fun x hx => by obtain ⟨y, _, rfl⟩ := List.mem_map.mp hx; exact fmod_lt hp0⟩
    refine (hk b).mpr ⟨ws.map fun x => x.fmod p, mem_allRows (by omega) hro, ?_⟩
    obtain ⟨s1, s2⟩ := sumOf_ok (p := (p : Int)) (m := m) hp0 (figs := ws.map fun x => x.fmod p) (lines := rs) (by rw [hro.1, hl]) hlen
    refine row_ext (by rw [s1.1, hbo.1]) fun j hj => ?_
    rw [s1.1] at hj
    have h2 : (p : Int) ∣ dot (ws.map fun x => x.fmod p) (colAt rs j) - dot ws (colAt rs j) := dot_cong (by simp) fun i hi => by
      have hi : i < ws.length := by simpa using hi
      rw [List.getD_eq_getElem?_getD, List.getD_eq_getElem?_getD, List.getElem?_map, List.getElem?_eq_getElem hi]
      exact fmod_dvd p _
    have := Int.dvd_add (Int.dvd_add (s2 j) h2) (k j hj)
    have e3 : ∀ a b c d : Int, a - b + (b - c) + (c - d) = a - d := fun a b c d => by omega
    rw [e3] at this
    exact small_dvd this (getD_range2 hp0 s1 j) (getD_range2 hp0 hbo j)
theorem tie_num {p : Nat} (hb : Base p) {n m : Nat} {rs : Tab} (hl : rs.length = n) (h : ∀ r ∈ rs, RowOk p m r) :
    ((allRows p n).filter fun f => (sumOf p m f rs).all fun x => decide (x = 0)).length = p ^ (tiesF p m rs).length := by
  have hp := hb.pos
  have hp0 : (0 : Int) < p := by omega
  have hlen : ∀ r ∈ rs, r.length = m := fun r hr => (h r hr).1
  obtain ⟨L, e, hL, hc, hs⟩ := ties_main (p := p) (m := m) hb h
  subst hl
  rw [e]
  have el : (sndR L).length = L.length := by simp [sndR]
  rw [el]
  refine piv_count (p := p) (by omega) hL (fun a ha => (hc a ha).1) [] fun f hf => ?_
  rw [sub_nil, hs f hf.1, ← sumOf_zero hp0 hf.1 hlen, List.all_eq_true]
  exact ⟨fun k x hx => of_decide_eq_true (k x hx), fun k x hx => decide_eq_true (k x hx)⟩
theorem putD_keys (es : List (Row × D)) (k : Row) (d : D) : (putD es k d).map (·.1) = if k ∈ es.map (·.1) then es.map (·.1) else es.map (·.1) ++ [k] := by
  have hany : (es.any fun e => decide (e.1 = k)) = true ↔ k ∈ es.map (·.1) := by
    rw [List.any_eq_true, List.mem_map]
    exact ⟨fun ⟨x, h1, h2⟩ => ⟨x, h1, of_decide_eq_true h2⟩, fun ⟨x, h1, h2⟩ => ⟨x, h1, decide_eq_true h2⟩⟩
  unfold putD
  by_cases h : k ∈ es.map (·.1)
  · rw [if_pos (hany.mpr h), if_pos h, List.map_map]
    refine List.map_congr_left fun e _ => ?_
    show (if e.1 = k then (e.1, d) else e).1 = e.1
    split <;> rfl
  · rw [if_neg (fun z => h (hany.mp z)), if_neg h, List.map_append]
    rfl
end Lw

namespace Dl
open PySem PySem.Spec PyProof.Rows L2 DlP
/-! ### dicts with nested keys, by data -/
mutual
theorem data_inj : ∀ a b : NestedKey, a.data = b.data → a = b
  | .none, .none, _ => rfl
  | .num _, .num _, h => by simp only [NestedKey.data] at h; injection h with h; rw [h]
  | .text _, .text _, h => by simp only [NestedKey.data] at h; injection h with h; rw [h]
  | .tup a, .tup b, h => by simp only [NestedKey.data] at h; injection h with h; rw [datas_inj a b h]
  | .none, .num _, h => by simp only [NestedKey.data] at h; cases h
  | .none, .text _, h => by simp only [NestedKey.data] at h; cases h
  | .none, .tup _, h => by simp only [NestedKey.data] at h; cases h
  | .num _, .none, h => by simp only [NestedKey.data] at h; cases h
  | .num _, .text _, h => by simp only [NestedKey.data] at h; cases h
  | .num _, .tup _, h => by simp only [NestedKey.data] at h; cases h
  | .text _, .none, h => by simp only [NestedKey.data] at h; cases h
  | .text _, .num _, h => by simp only [NestedKey.data] at h; cases h
  | .text _, .tup _, h => by simp only [NestedKey.data] at h; cases h
  | .tup _, .none, h => by simp only [NestedKey.data] at h; cases h
  | .tup _, .num _, h => by simp only [NestedKey.data] at h; cases h
  | .tup _, .text _, h => by simp only [NestedKey.data] at h; cases h
theorem datas_inj : ∀ a b : List NestedKey, NestedKey.datas a = NestedKey.datas b → a = b
  | [], [], _ => rfl
  | a :: as, b :: bs, h => by simp only [NestedKey.datas] at h; injection h with h1 h2; rw [data_inj a b h1, datas_inj as bs h2]
  | [], _ :: _, h => by simp only [NestedKey.datas] at h; cases h
  | _ :: _, [], h => by simp only [NestedKey.datas] at h; cases h
end
mutual
theorem Rp.ky {K : Fg} {G : Hp} : ∀ (k : NestedKey) {v : V}, plainK k = true → Rp K G v k.data → KyV G k v
  | .none, v, _, r => by simp only [NestedKey.data] at r; rw [r.non_inv]; exact .non
  | .num i, v, _, r => by simp only [NestedKey.data] at r; rw [r.int_inv]; exact .int i
  | .text x, v, h, _ => by simp [plainK] at h
  | .tup ks, v, h, r => by
    simp only [NestedKey.data] at r
    rw [plainK] at h
    obtain ⟨a, xs, e, s, rr⟩ := r.tup_is
    subst e
    exact .tup s (RpA.ky ks h rr)
theorem RpA.ky {K : Fg} {G : Hp} : ∀ (ks : List NestedKey) {vs : List V}, plainA ks = true → RpA K G vs (NestedKey.datas ks) → KyA G ks vs
  | [], vs, _, r => by simp only [NestedKey.datas] at r; cases r; exact .nil
  | k :: ks, vs, h, r => by
    simp only [NestedKey.datas] at r
    rw [plainA, Bool.and_eq_true] at h
    cases r with
    | cons r t => exact .cons (Rp.ky k h.1 r) (RpA.ky ks h.2 t)
end
mutual
theorem _root_.L2.KyV.mono {G H : Hp} (e : Same G H) : ∀ {k : NestedKey} {v : V}, KyV G k v → KyV H k v
  | _, _, .non => .non
  | _, _, .int i => .int i
  | _, _, .tup s q => .tup (e _ _ s) (L2.KyA.mono e q)
theorem _root_.L2.KyA.mono {G H : Hp} (e : Same G H) : ∀ {k : List NestedKey} {v : List V}, KyA G k v → KyA H k v
  | _, _, .nil => .nil
  | _, _, .cons q t => .cons (L2.KyV.mono e q) (L2.KyA.mono e t)
end
/-- a sort of keys -/
structure KeyE (α : Type) where
  kf : α → NestedKey
  enc : α → D
  data : ∀ a, (kf a).data = enc a
  inj : ∀ a b, kf a = kf b → a = b
  good : ∀ a, goodK (kf a)
  isT : ∀ a, ∃ ks, kf a = .tup ks
section
variable {α : Type} [DecidableEq α]
def putA (es : List (α × D)) (k : α) (d : D) : List (α × D) :=
  if (es.any fun e => decide (e.1 = k)) = true then es.map (fun e => if e.1 = k then (e.1, d) else e) else es ++ [(k, d)]
def valA (es : List (α × D)) (k : α) : Option D := (es.find? fun e => decide (e.1 = k)).map (·.2)
inductive EnR (K : Fg) (G : Hp) (κ : KeyE α) : List NE → List (α × D) → Prop
  | nil : EnR K G κ [] []
  | cons {k : α} {b : Addr} {w : V} {d : D} {kvs : List NE} {es : List (α × D)} : Rp K G (.ref b) (κ.enc k) → Rp K G w d → EnR K G κ kvs es → EnR K G κ ((κ.kf k, b, w) :: kvs) ((k, d) :: es)
variable {K : Fg} {G G' : Hp} {κ : KeyE α}
theorem KeyE.iff (κ : KeyE α) (a b : α) : decide (κ.kf a = κ.kf b) = decide (a = b) := decide_eq_decide.mpr ⟨κ.inj a b, fun e => by rw [e]⟩
theorem EnR.mono (g : Same G G') : ∀ {kvs : List NE} {es : List (α × D)}, EnR K G κ kvs es → EnR K G' κ kvs es
  | _, _, .nil => .nil
  | _, _, .cons k r t => .cons (k.mono g) (r.mono g) (EnR.mono g t)
theorem EnR.len : ∀ {kvs : List NE} {es : List (α × D)}, EnR K G κ kvs es → kvs.length = es.length
  | _, _, .nil => rfl
  | _, _, .cons _ _ t => congrArg (· + 1) t.len
theorem EnR.keys {H : Hp} (g : Same G H) : ∀ {kvs : List NE} {es : List (α × D)}, EnR K G κ kvs es → KeysN H kvs
  | _, _, .nil, x, hx => by cases hx
  | _, _, .cons (k := k) r _ t, x, hx => by
    rcases List.mem_cons.mp hx with e | e
    · subst e
      refine L2.KyV.mono g (Rp.ky (K := K) (κ.kf k) (κ.good k).1 ?_)
      rw [κ.data]; exact r
    · exact EnR.keys g t x e
theorem EnR.isAny (k : α) : ∀ {kvs : List NE} {es : List (α × D)}, EnR K G κ kvs es → (kvs.any fun x => decide (x.1 = κ.kf k)) = es.any fun e => decide (e.1 = k)
  | _, _, .nil => rfl
  | _, _, .cons (k := q) _ _ t => by
    rw [List.any_cons, List.any_cons, EnR.isAny k t]
    exact congrArg (fun z => z || _) (κ.iff q k)
theorem EnR.snoc {k : α} {b : Addr} {w : V} {d : D} (rk : Rp K G (.ref b) (κ.enc k)) (r : Rp K G w d) : ∀ {kvs : List NE} {es : List (α × D)}, EnR K G κ kvs es → EnR K G κ (kvs ++ [(κ.kf k, b, w)]) (es ++ [(k, d)])
  | _, _, .nil => .cons rk r .nil
  | _, _, .cons r0 r1 t => .cons r0 r1 (EnR.snoc rk r t)
theorem EnR.over {k : α} {w : V} {d : D} (r : Rp K G w d) : ∀ {kvs : List NE} {es : List (α × D)}, EnR K G κ kvs es → EnR K G κ (kvs.map fun x => if x.1 = κ.kf k then (x.1, x.2.1, w) else x) (es.map fun e => if e.1 = k then (e.1, d) else e)
  | _, _, .nil => .nil
  | _, _, .cons (k := q) r0 r1 t => by
    rw [List.map_cons, List.map_cons]
    by_cases h : q = k
    · subst h
      rw [if_pos rfl, if_pos rfl]
      exact .cons r0 r (EnR.over r t)
    · rw [if_neg (fun e => h (κ.inj _ _ e)), if_neg h]
      exact .cons r0 r1 (EnR.over r t)
theorem EnR.put {k : α} {b : Addr} {w : V} {d : D} (rk : Rp K G (.ref b) (κ.enc k)) (r : Rp K G w d) {kvs : List NE} {es : List (α × D)} (h : EnR K G κ kvs es) : EnR K G κ (putN kvs (κ.kf k) b w) (putA es k d) := by
  unfold putN putA
  rw [h.isAny k]
  split
  · exact h.over r
  · exact h.snoc rk r
theorem EnR.get (k : α) : ∀ {kvs : List NE} {es : List (α × D)}, EnR K G κ kvs es → (atN kvs (κ.kf k) = none ∧ valA es k = none) ∨ ∃ w d, atN kvs (κ.kf k) = some w ∧ valA es k = some d ∧ Rp K G w d
  | _, _, .nil => .inl ⟨rfl, rfl⟩
  | _, _, .cons (k := q) (b := b) (w := w) (d := d) r0 r1 t => by
    by_cases h : q = k
    · subst h
      refine .inr ⟨w, d, ?_, ?_, r1⟩
      · simp [atN, List.find?_cons]
      · simp [valA, List.find?_cons]
    · have e1 : ∀ l : List NE, atN ((κ.kf q, b, w) :: l) (κ.kf k) = atN l (κ.kf k) := fun l => by
        have : ¬ κ.kf q = κ.kf k := fun e => h (κ.inj _ _ e)
        simp [atN, List.find?_cons, this]
      have e2 : ∀ es, valA ((q, d) :: es) k = valA es k := fun es => by simp [valA, List.find?_cons, h]
      rcases EnR.get k t with ⟨h1, h2⟩ | ⟨w', d', h1, h2, h3⟩
      · exact .inl ⟨by rw [e1, h1], by rw [e2, h2]⟩
      · exact .inr ⟨w', d', by rw [e1, h1], by rw [e2, h2], h3⟩
theorem EnR.isSome (k : α) {kvs : List NE} {es : List (α × D)} (h : EnR K G κ kvs es) : (atN kvs (κ.kf k)).isSome = (valA es k).isSome := by
  rcases h.get k with ⟨h1, h2⟩ | ⟨w', d', h1, h2, h3⟩ <;> rw [h1, h2] <;> rfl
theorem EnR.at : ∀ {kvs : List NE} {es : List (α × D)} {i : Nat} {z : NE}, EnR K G κ kvs es → kvs[i]? = some z → ∃ k d, es[i]? = some (k, d) ∧ Rp K G (.ref z.2.1) (κ.enc k) ∧ Rp K G z.2.2 d
  | _, _, _, _, .nil, h => by simp at h
  | _, _, 0, _, .cons r0 r1 _, e => by simp at e; subst e; exact ⟨_, _, rfl, r0, r1⟩
  | _, _, i + 1, _, .cons _ _ t, e => by
    obtain ⟨k, d, h1, h2⟩ := EnR.at (i := i) t (by simpa using e)
    exact ⟨k, d, by simpa using h1, h2⟩
theorem EnR.vals : ∀ {kvs : List NE} {es : List (α × D)}, EnR K G κ kvs es → RpA K G (kvs.map (·.2.2)) (es.map (·.2))
  | _, _, .nil => .nil
  | _, _, .cons _ r t => .cons r (EnR.vals t)
/-- as data -/
def dixA (κ : KeyE α) (es : List (α × D)) : D := dixD (es.map fun e => (κ.enc e.1, e.2))
theorem EnR.toE : ∀ {kvs : List NE} {es : List (α × D)}, EnR K G κ kvs es → RpE K G kvs (es.map fun e => (κ.enc e.1, e.2))
  | _, _, .nil => .nil
  | _, _, .cons (k := k) (b := b) (w := w) r0 r1 t => by
    rw [List.map_cons]
    show RpE K G _ ((κ.enc k, _) :: _)
    rw [← κ.data k]
    exact .cons (x := (κ.kf k, b, w)) (by rw [κ.data]; exact r0) r1 (EnR.toE t)
theorem EnR.ofE : ∀ {es : List (α × D)} {kvs : List NE}, RpE K G kvs (es.map fun e => (κ.enc e.1, e.2)) → EnR K G κ kvs es
  | [], kvs, r => by cases r; exact .nil
  | (k, d) :: es, kvs, r => by
    rw [List.map_cons] at r
    generalize e : ((κ.enc k, d) : D × D) = q at r
    cases r with
    | cons r0 r1 t =>
      rename_i x d' kvs'
      injection e with e1 e2
      rw [← κ.data k] at e1
      have ek := data_inj _ _ e1
      obtain ⟨xk, xb, xw⟩ := x
      dsimp only at ek r0 r1
      subst ek
      subst e2
      exact .cons (by rw [← κ.data]; exact r0) r1 (EnR.ofE t)
theorem Rp.dix_inv {v : V} {ds : List (D × D)} (r : Rp K G v (dixD ds)) : ∃ p o kvs, v = .ref p ∧ G p = some (rawN p o kvs) ∧ RpE K G kvs ds := by
  generalize e : dixD ds = d at r
  cases r with
  | dic h r =>
    unfold dixD at e
    cases e
    exact absurd rfl (r.no_list _ (List.mem_cons_self ..) _)
  | scr h =>
    unfold dixD at e
    injection e with e
    injection e with e _
    injection e with _ e
    cases e
  | dix h r =>
    unfold dixD at e
    injection e with e
    injection e with _ e
    subst e
    exact ⟨_, _, _, rfl, h, r⟩
  | _ => unfold dixD at e; cases e
theorem Rp.dixA_inv {v : V} {es : List (α × D)} (r : Rp K G v (dixA κ es)) : ∃ p o kvs, v = .ref p ∧ G p = some (rawN p o kvs) ∧ EnR K G κ kvs es := by
  obtain ⟨p, o, kvs, e, h, q⟩ := Rp.dix_inv r
  exact ⟨p, o, kvs, e, h, EnR.ofE q⟩
def dictN (κ : KeyE α) (es : List (α × D)) : Res where
  ok K G H v := ∃ p o kvs, v = .ref p ∧ H p = some (rawN p o kvs) ∧ EnR K G κ kvs es
  ft _ v b := v = .ref b
  lv := by
    rintro K G H v b ⟨p, o, kvs, rfl, hp, _⟩ e
    cases e
    rw [hp]; simp
  mv := by
    rintro K G G' H H' v ⟨p, o, kvs, rfl, hp, kr⟩ g h
    exact ⟨⟨p, o, kvs, rfl, by rw [h p rfl]; exact hp, kr.mono g⟩, fun b e => e⟩
end
section
variable {α : Type} [DecidableEq α] {κ : KeyE α}
variable {K : Fg} {sa : Option Addr} {δ : List Cell} {td te ty tv tx : TE} {P : D → Prop} {es : List (α × D)} {i j k : Nat} {nx : List Cell → Prop} {rt : D → Prop} {bk ct : List Cell → Prop}
theorem ky_ref {G : Hp} {a : α} {y : V} (h : KyV G (κ.kf a) y) : ∃ b, y = .ref b := by
  obtain ⟨ks, e⟩ := κ.isT a
  rw [e] at h
  cases h with
  | tup s _ => exact ⟨_, rfl⟩
theorem AtG.gnone {m : Bool} {H0 G0 G : Hp} {E : Hp → Prop} {σ : L2.St} {H : Hp} {p : Addr} (A : AtG K m sa H0 G0 δ E σ G H) (hp : H p = none) : G p = none ∧ H0 p = none ∧ sa ≠ some p := by
  refine ⟨?_, ?_, fun z => ?_⟩
  · cases z : G p with
    | none => rfl
    | some u => rw [A.gd.gh p u z] at hp; cases hp
  · cases z : H0 p with
    | none => rfl
    | some o => exact absurd hp (A.gd.live (by rw [z]; simp))
  · obtain ⟨c, s, n, q⟩ := (A.gd.sp p z).1
    rw [hp] at q; cases q
theorem AtG.putDict {m : Bool} {H0 G0 G : Hp} {E : Hp → Prop} {σ : L2.St} {H : Hp} {p : Addr} (κ : KeyE α) (A : AtG K m sa H0 G0 δ E σ G H) (hp : H p = some (rawN p nObj [])) (gp : G p = none) (h0 : H0 p = none) (hs : sa ≠ some p) (hj : Lone H δ σ p) (i : Nat) : AtG K m sa H0 G0 (δ.set i (.res (dictN κ []))) E (σ.set i (some (.ref p))) G H :=
  A.put i (c0 := .res (dictN κ [])) ⟨.ref p, rfl, ⟨p, nObj, [], rfl, hp, .nil⟩, fun b e => by cases e; exact ⟨gp, hs, fun _ => h0⟩⟩ fun b f => by
    obtain ⟨v, ev, f⟩ := f
    cases ev
    cases f
    exact hj
theorem ws_nnew (κ : KeyE α) (h : nx (δ.set i (.res (dictN κ [])))) : WS K sa (tAsg tNNew (gName i)) ⟨nx, rt, bk, ct⟩ δ := fun H0 G0 E up σ H Dn ⟨G, A⟩ R => fun p hp => by
  obtain ⟨gp, h0, hs⟩ := A.gnone hp
  exact R.nx _ _ _ h ⟨G, (A.beside (o := rawN p nObj []) hp).putDict κ upd_same gp h0 hs (A.lone_upd hp) i⟩
theorem ws_nput (hi : δ[i]? = some (.res (dictN κ es))) (hz : es.length < sizeLine) (h : WE K sa tv δ fun d => WE K sa ty δ fun k => ∃ a, k = κ.enc a ∧ nx (δ.set i (.res (dictN κ (putA es a d))))) : WS K sa (sNPut (tVar i) ty tv) ⟨nx, rt, bk, ct⟩ δ := fun H0 G0 E up σ H Dn A R =>
  h true H0 G0 E up σ H A _ fun v d H1 h1 A1 => by
    obtain ⟨G1, a1⟩ := A1
    obtain ⟨o, e, w, ew, ⟨p, ob, kvs, ep, hp, kr⟩, ft⟩ := a1.slot hi
    subst ew
    subst ep
    refine ⟨_, e, h1 true H0 G0 _ (up_and up up_rp) σ H1 ⟨G1, a1⟩ _ fun y k H2 ⟨a, ek, pn⟩ ⟨G2, a2⟩ => ?_⟩
    subst ek
    obtain ⟨o', e', w', ew', ⟨p', ob', kvs', ep', hp', kr'⟩, ft'⟩ := a2.slot hi
    rw [e] at e'; cases e'; cases ew'; cases ep'
    have hky := Rp.ky (κ.kf a) (κ.good a).1 (by rw [κ.data]; exact a2.ex.2)
    obtain ⟨b, ey⟩ := ky_ref hky
    subst ey
    refine ⟨p, b, κ.kf a, _, _, rfl, rfl, hp', kr'.keys a2.gd.gh, hky.mono a2.gd.gh, κ.good a, by rw [kr'.len]; exact hz, fun ob2 => R.nx _ _ _ pn ⟨G2, ?_⟩⟩
    refine (a2.same (E' := E) a2.ex.1.1).over hi e (fun z u nf q => ?_) ⟨.ref p, rfl, ⟨p, ob2, _, rfl, upd_same, kr'.put a2.ex.2 a2.ex.1.2⟩, fun z ez => ft' z ez⟩ fun z f => .inl f
    rw [upd_ne (fun y => nf ⟨.ref p, rfl, by rw [y]; rfl⟩)]
    exact q
theorem we_nlen (hi : δ[i]? = some (.res (dictN κ es))) (p : P (.int es.length)) : WE K sa (tCB rLenN (tCons (tVar i) tNil)) δ P := fun m H0 G0 E up σ H ⟨G, A⟩ Q q => by
  obtain ⟨o, e, w, ew, ⟨a, ob, kvs, ep, hp, kr⟩, ft⟩ := A.slot hi
  subst ew
  subst ep
  refine ⟨_, e, a, _, kvs, rfl, hp, kr.keys A.gd.gh, ?_⟩
  rw [kr.len]
  exact q _ _ H p ⟨G, A.same ⟨A.ex, .int _⟩⟩
theorem we_nlenD (h : WE K sa te δ fun d => d = dixA κ es) (p : P (.int es.length)) : WE K sa (tCB rLenN (tCons te tNil)) δ P := fun m H0 G0 E up σ H A Q q =>
  h m H0 G0 E up σ H A _ fun v d H1 e ⟨G1, a1⟩ => by
    subst e
    obtain ⟨a, ob, kvs, ev, hp, kr⟩ := a1.ex.2.dixA_inv
    subst ev
    refine ⟨a, _, kvs, rfl, a1.gd.gh _ _ hp, kr.keys a1.gd.gh, ?_⟩
    rw [kr.len]
    exact q _ _ H1 p ⟨G1, a1.same ⟨a1.ex.1, .int _⟩⟩
/-- x.get(k, e) -/
theorem we_nget (hi : δ[i]? = some (.res (dictN κ es))) (h : WE K sa ty δ fun k => ∃ a, k = κ.enc a ∧ WE K sa tx δ fun d => P ((valA es a).getD d)) : WE K sa (tNGet2 (tVar i) ty tx) δ P := fun m H0 G0 E up σ H ⟨G, A⟩ Q q => by
  obtain ⟨o, e, w, ew, ⟨a, ob, kvs, ep, hp, kr⟩, ft⟩ := A.slot hi
  subst ew
  subst ep
  refine ⟨_, e, a, _, kvs, rfl, hp, h m H0 G0 E up σ H ⟨G, A⟩ _ fun y k H1 ⟨r, ek, hx⟩ A1 => ?_⟩
  subst ek
  refine hx m H0 G0 _ (up_and up up_rp) σ H1 A1 _ fun z d H2 pd ⟨G2, a2⟩ => ?_
  obtain ⟨o', e', w', ew', ⟨p', ob', kvs', ep', hp', kr'⟩, ft'⟩ := a2.slot hi
  rw [e] at e'; cases e'; cases ew'; cases ep'
  have hky := Rp.ky (κ.kf r) (κ.good r).1 (by rw [κ.data]; exact a2.ex.1.2)
  obtain ⟨b, ey⟩ := ky_ref hky
  subst ey
  refine ⟨b, κ.kf r, _, _, rfl, hp', kr'.keys a2.gd.gh, hky.mono a2.gd.gh, κ.good r, ?_⟩
  rcases kr'.get r with ⟨h1, h2⟩ | ⟨w1, d1, h1, h2, h3⟩
  · rw [h1]
    rw [h2] at pd
    exact q _ _ H2 pd ⟨G2, a2.same ⟨a2.ex.1.1, a2.ex.2⟩⟩
  · rw [h1]
    rw [h2] at pd
    exact q _ _ H2 pd ⟨G2, a2.same ⟨a2.ex.1.1, h3⟩⟩
theorem we_ngetD (h : WE K sa td δ fun d0 => d0 = dixA κ es) (h2 : WE K sa ty δ fun k => ∃ a, k = κ.enc a ∧ WE K sa tx δ fun d => P ((valA es a).getD d)) : WE K sa (tNGet2 td ty tx) δ P := fun m H0 G0 E up σ H A Q q =>
  h m H0 G0 E up σ H A _ fun v d0 H1 e0 ⟨G1, a1⟩ => by
    subst e0
    obtain ⟨a, ob, kvs, ev, hp, kr⟩ := a1.ex.2.dixA_inv
    subst ev
    refine ⟨a, _, kvs, rfl, a1.gd.gh _ _ hp, h2 m H0 G0 (fun G => E G ∧ (G a = some (rawN a ob kvs) ∧ EnR K G κ kvs es)) (up_and up fun G G' g x => ⟨g _ _ x.1, x.2.mono g⟩) σ H1 ⟨G1, a1.same ⟨a1.ex.1, hp, kr⟩⟩ _ fun y k H2 ⟨r, ek, hx⟩ A2 => ?_⟩
    subst ek
    refine hx m H0 G0 _ (up_and (up_and up fun G G' g x => ⟨g _ _ x.1, x.2.mono g⟩) up_rp) σ H2 A2 _ fun z d H3 pd ⟨G3, a3⟩ => ?_
    have hky := Rp.ky (κ.kf r) (κ.good r).1 (by rw [κ.data]; exact a3.ex.1.2)
    obtain ⟨b, ey⟩ := ky_ref hky
    subst ey
    obtain ⟨hp3, kr3⟩ := a3.ex.1.1.2
    refine ⟨b, κ.kf r, _, _, rfl, a3.gd.gh _ _ hp3, kr3.keys a3.gd.gh, hky.mono a3.gd.gh, κ.good r, ?_⟩
    rcases kr3.get r with ⟨h1, h2⟩ | ⟨w1, d1, h1, h2, h3⟩
    · rw [h1]
      rw [h2] at pd
      exact q _ _ H3 pd ⟨G3, a3.same ⟨a3.ex.1.1.1, a3.ex.2⟩⟩
    · rw [h1]
      rw [h2] at pd
      exact q _ _ H3 pd ⟨G3, a3.same ⟨a3.ex.1.1.1, h3⟩⟩
/-- k in d, a dict as data -/
theorem ow_nin {a : α} {no : Bool} (p : P (.bool (if no = true then !(valA es a).isSome else (valA es a).isSome))) : OW K sa (rNIn no) (κ.enc a) (dixA κ es) P := fun m H0 G0 δ E up σ H v w ⟨G, A⟩ Q q => by
  obtain ⟨x, ob, kvs, ev, hp, kr⟩ := A.ex.2.2.dixA_inv
  subst ev
  have hky := Rp.ky (κ.kf a) (κ.good a).1 (by rw [κ.data]; exact A.ex.2.1)
  obtain ⟨b, ey⟩ := ky_ref hky
  subst ey
  refine ⟨x, b, κ.kf a, _, kvs, rfl, rfl, A.gd.gh _ _ hp, kr.keys A.gd.gh, hky.mono A.gd.gh, κ.good a, ?_⟩
  rw [kr.isSome a]
  exact q _ _ H p ⟨G, A.same ⟨A.ex.1, .bl _⟩⟩
/-- .. of one's own -/
theorem we_nin {no : Bool} (hi : δ[i]? = some (.res (dictN κ es))) (h : WE K sa ty δ fun k => ∃ a, k = κ.enc a ∧ P (.bool (if no = true then !(valA es a).isSome else (valA es a).isSome))) : WE K sa (tOp (rNIn no) ty (tVar i)) δ P := fun m H0 G0 E up σ H A Q q =>
  h m H0 G0 E up σ H A _ fun y k H1 ⟨a, ek, pp⟩ ⟨G1, a1⟩ => by
    subst ek
    obtain ⟨o, e, w, ew, ⟨x, ob, kvs, ep, hp, kr⟩, ft⟩ := a1.slot hi
    subst ew
    subst ep
    have hky := Rp.ky (κ.kf a) (κ.good a).1 (by rw [κ.data]; exact a1.ex.2)
    obtain ⟨b, ey⟩ := ky_ref hky
    subst ey
    refine ⟨_, e, x, b, κ.kf a, _, kvs, rfl, rfl, hp, kr.keys a1.gd.gh, hky.mono a1.gd.gh, κ.good a, ?_⟩
    rw [kr.isSome a]
    exact q _ _ H1 pp ⟨G1, a1.same ⟨a1.ex.1, .bl _⟩⟩
/-- d[k], there -/
theorem we_nix (hi : δ[i]? = some (.res (dictN κ es))) (h : WE K sa ty δ fun k => ∃ a d, k = κ.enc a ∧ valA es a = some d ∧ P d) : WE K sa (tNIx (tVar i) ty) δ P := fun m H0 G0 E up σ H ⟨G, A⟩ Q q => by
  obtain ⟨o, e, w, ew, ⟨p, ob, kvs, ep, hp, kr⟩, ft⟩ := A.slot hi
  subst ew
  subst ep
  refine ⟨_, e, h m H0 G0 E up σ H ⟨G, A⟩ _ fun y k H1 ⟨a, d, ek, hd, pd⟩ ⟨G2, a2⟩ => ?_⟩
  subst ek
  obtain ⟨o', e', w', ew', ⟨p', ob', kvs', ep', hp', kr'⟩, ft'⟩ := a2.slot hi
  rw [e] at e'; cases e'; cases ew'; cases ep'
  have hky := Rp.ky (κ.kf a) (κ.good a).1 (by rw [κ.data]; exact a2.ex.2)
  obtain ⟨b, ey⟩ := ky_ref hky
  subst ey
  rcases kr'.get a with ⟨h1, h2⟩ | ⟨w1, d1, h1, h2, h3⟩
  · rw [hd] at h2; cases h2
  · rw [hd] at h2; cases h2
    exact ⟨p, b, κ.kf a, _, _, w1, rfl, rfl, hp', kr'.keys a2.gd.gh, hky.mono a2.gd.gh, κ.good a, h1, q _ _ H1 pd ⟨G2, a2.same ⟨a2.ex.1, h3⟩⟩⟩
theorem we_nixD (h : WE K sa td δ fun d0 => d0 = dixA κ es) (h2 : WE K sa ty δ fun k => ∃ a d, k = κ.enc a ∧ valA es a = some d ∧ P d) : WE K sa (tNIx td ty) δ P := fun m H0 G0 E up σ H A Q q =>
  h m H0 G0 E up σ H A _ fun v d0 H1 e0 ⟨G1, a1⟩ => by
    subst e0
    obtain ⟨x, ob, kvs, ev, hp, kr⟩ := a1.ex.2.dixA_inv
    subst ev
    refine h2 m H0 G0 (fun G => E G ∧ (G x = some (rawN x ob kvs) ∧ EnR K G κ kvs es)) (up_and up fun G G' g x => ⟨g _ _ x.1, x.2.mono g⟩) σ H1 ⟨G1, a1.same ⟨a1.ex.1, hp, kr⟩⟩ _ fun y k H2 ⟨a, d, ek, hd, pd⟩ ⟨G2, a2⟩ => ?_
    subst ek
    have hky := Rp.ky (κ.kf a) (κ.good a).1 (by rw [κ.data]; exact a2.ex.2)
    obtain ⟨b, ey⟩ := ky_ref hky
    subst ey
    obtain ⟨hp3, kr3⟩ := a2.ex.1.2
    rcases kr3.get a with ⟨h1, h2⟩ | ⟨w1, d1, h1, h2, h3⟩
    · rw [hd] at h2; cases h2
    · rw [hd] at h2; cases h2
      exact ⟨x, b, κ.kf a, _, _, w1, rfl, rfl, a2.gd.gh _ _ hp3, kr3.keys a2.gd.gh, hky.mono a2.gd.gh, κ.good a, h1, q _ _ H2 pd ⟨G2, a2.same ⟨a2.ex.1.1, h3⟩⟩⟩
/-- let go: data from now on -/
theorem AtG.meltD {H0 G0 G H : Hp} {E : Hp → Prop} {σ : L2.St} (A : AtG K true sa H0 G0 δ E σ G H) (up : Up E) (hi : δ[i]? = some (.res (dictN κ es))) : ∃ p G', σ[i]? = some (some (.ref p)) ∧ AtG K true sa H0 G0 (δ.set i (.dat (dixA κ es))) (fun G => E G ∧ Rp K G (.ref p) (dixA κ es)) σ G' H := by
  obtain ⟨o, e, w, ew, ⟨p, ob, kvs, ep, hp, kr⟩, ft⟩ := A.slot hi
  subst ew
  subst ep
  obtain ⟨gp, hs, h0⟩ := ft p rfl
  have s1 : Same G (upd G p (rawN p ob kvs)) := fun b x q => by rw [upd_ne (ne_of_none q gp)]; exact q
  have rp : Rp K (upd G p (rawN p ob kvs)) (.ref p) (dixA κ es) := .dix upd_same ((kr.mono s1).toE)
  have lone : Lone H (δ.set i .no) σ p := fun j c o hj ho f => by
    rcases set_at hj with ⟨e1, e2, e3⟩ | ⟨hne, hj⟩
    · subst e2; exact f.elim
    · exact A.dis i j _ c _ o hne hi hj e ho p ⟨_, rfl, rfl⟩ f
  have c0 := A.dropped i
  have c1 : AtG K true sa H0 G0 (δ.set i .no) (fun G => E G ∧ Rp K G (.ref p) (dixA κ es)) σ (upd G p (rawN p ob kvs)) H := c0.reground s1 (fun b u q => by
    by_cases hb : b = p
    · subst hb; rw [upd_same] at q; cases q; exact hp
    · rw [upd_ne hb] at q; exact c0.gd.gh b u q) (fun b h1 h2 => by
    by_cases hb : b = p
    · subst hb; exact lone
    · rw [upd_ne hb] at h1; exact absurd h2 h1) (c0.gd.g0.trans s1) (fun b h1 h2 => by
    by_cases hb : b = p
    · subst hb; exact absurd (h0 rfl) h1
    · rw [upd_ne hb]; exact c0.gd.fr b h1 h2) (fun a ea => (c0.gd.sp a ea).2.2) ⟨up _ _ s1 A.ex, rp⟩
  refine ⟨p, upd G p (rawN p ob kvs), e, ?_⟩
  have c2 := c1.recell i (c0 := .dat (dixA κ es)) fun c o hc ho => by
    rw [e] at ho; cases ho
    exact ⟨⟨_, rfl, rp⟩, fun b f => f.elim⟩
  rw [List.set_set] at c2
  exact c2
theorem ws_meltD {t : TS} {D' : DE} (i : Nat) (hi : δ[i]? = some (.res (dictN κ es))) (h : WS K sa t D' (δ.set i (.dat (dixA κ es)))) : WS K sa t D' δ := fun H0 G0 E up σ H Dn ⟨G, A⟩ R => by
  obtain ⟨p, G', e, B⟩ := A.meltD up hi
  exact h H0 G0 E up σ H Dn ⟨G', B.same B.ex.1⟩ R
/-! ### walks -/
theorem wj_nkeys {st : Bool} {P : List D → Prop} (h : WE K sa td δ fun d0 => ∃ es : List (α × D), d0 = dixA κ es ∧ P (es.map fun e => κ.enc e.1)) : WJ K sa st (iNKeys td) δ P := fun m H0 G0 E up σ H A R q =>
  h m H0 G0 E up σ H A _ fun v d0 H1 ⟨es, e0, p⟩ ⟨G, a⟩ => by
    subst e0
    obtain ⟨b, ob, kvs, ev, hb, kr⟩ := a.ex.2.dixA_inv
    subst ev
    refine ⟨b, ob, kvs, rfl, a.gd.gh _ _ hb, q _ _ H1 G (fun H' => H' b = some (rawN b ob kvs)) p (a.same a.ex.1) ⟨fun i H hi s => ⟨s, by rw [kr.len]; simpa using hi⟩, fun H s => ⟨s, by rw [kr.len, List.length_map]; exact Nat.le_refl _⟩, fun i H x H' hi s y => ?_⟩ (fun H' e => e b _ (a.notSp hb) (a.gd.gh _ _ hb)) fun _ H' e => e _ _ hb⟩
    obtain ⟨eH, z, hz, ex⟩ := y
    obtain ⟨k, d, he, hk, _⟩ := kr.at hz
    exact ⟨κ.enc k, by rw [List.getElem?_map, he]; rfl, .inl ⟨eH, by rw [ex]; exact hk⟩⟩
theorem wj_nvals {st : Bool} {P : List D → Prop} (h : WE K sa td δ fun d0 => ∃ es : List (α × D), d0 = dixA κ es ∧ P (es.map fun e => e.2)) : WJ K sa st (iNVals td) δ P := fun m H0 G0 E up σ H A R q =>
  h m H0 G0 E up σ H A _ fun v d0 H1 ⟨es, e0, p⟩ ⟨G, a⟩ => by
    subst e0
    obtain ⟨b, ob, kvs, ev, hb, kr⟩ := a.ex.2.dixA_inv
    subst ev
    refine ⟨b, ob, kvs, rfl, a.gd.gh _ _ hb, q _ _ H1 G (fun H' => H' b = some (rawN b ob kvs)) p (a.same a.ex.1) ⟨fun i H hi s => ⟨s, by rw [kr.len]; simpa using hi⟩, fun H s => ⟨s, by rw [kr.len, List.length_map]; exact Nat.le_refl _⟩, fun i H x H' hi s y => ?_⟩ (fun H' e => e b _ (a.notSp hb) (a.gd.gh _ _ hb)) fun _ H' e => e _ _ hb⟩
    obtain ⟨eH, z, hz, ex⟩ := y
    obtain ⟨k, d, he, _, hv⟩ := kr.at hz
    exact ⟨d, by rw [List.getElem?_map, he]; rfl, .inl ⟨eH, by rw [ex]; exact hv⟩⟩
theorem wj_nitems {st : Bool} {P : List D → Prop} (h : WE K sa td δ fun d0 => ∃ es : List (α × D), d0 = dixA κ es ∧ P (es.map fun e => .tuple [κ.enc e.1, e.2])) : WJ K sa st (iNItems td) δ P := fun m H0 G0 E up σ H A R q =>
  h m H0 G0 E up σ H A _ fun v d0 H1 ⟨es, e0, p⟩ ⟨G, a⟩ => by
    subst e0
    obtain ⟨b, ob, kvs, ev, hb, kr⟩ := a.ex.2.dixA_inv
    subst ev
    refine ⟨b, ob, kvs, rfl, a.gd.gh _ _ hb, q _ _ H1 G (fun H' => H' b = some (rawN b ob kvs)) p (a.same a.ex.1) ⟨fun i H hi s => ⟨s, by rw [kr.len]; simpa using hi⟩, fun H s => ⟨s, by rw [kr.len, List.length_map]; exact Nat.le_refl _⟩, fun i H x H' hi s y => ?_⟩ (fun H' e => e b _ (a.notSp hb) (a.gd.gh _ _ hb)) fun _ H' e => e _ _ hb⟩
    obtain ⟨T, z, hz, ex, hT, eH⟩ := y
    obtain ⟨k, d, he, hk, hv⟩ := kr.at hz
    exact ⟨_, by rw [List.getElem?_map, he]; rfl, .inr ⟨T, _, [κ.enc k, d], ex, hT, eH, .cons hk (.cons hv .nil), rfl⟩⟩
/-- list(d.values()) -/
theorem wf_nvals {P : List D → Prop} (h : WE K sa td δ fun d0 => ∃ es : List (α × D), d0 = dixA κ es ∧ P (es.map fun e => e.2)) : WF K sa (tCB rListNV (tCons (tNVals td) tNil)) δ P := fun m H0 G0 E up σ H A Q q =>
  h m H0 G0 E up σ H A _ fun v d0 H1 ⟨es, e0, p⟩ ⟨G, a⟩ => by
    subst e0
    obtain ⟨b, ob, kvs, ev, hb, kr⟩ := a.ex.2.dixA_inv
    subst ev
    refine ⟨b, ob, kvs, rfl, a.gd.gh _ _ hb, fun x hx => ?_⟩
    have A2 := a.beside (o := valuesO x b) hx
    refine ⟨x, b, ob, kvs, rfl, upd_same, by rw [upd_ne (ne_of_none (a.gd.gh _ _ hb) hx)]; exact a.gd.gh _ _ hb, fun l hl => ?_⟩
    exact wf_new (P := P) up ⟨G, A2.same ⟨A2.ex.1, kr.vals⟩⟩ p q hl
end
end Dl

namespace Dl
open PySem PySem.Spec PyProof.Rows L2 DlP
/-! ### x, y, .. = a, {}, [..], ..: each of its own -/
section
variable {K : Fg} {m : Bool} {sa : Option Addr} {H0 G0 G G' H H' : Hp} {δ : List Cell} {E E' : Hp → Prop} {σ : L2.St}
theorem AtG.pre {cs : List Cell} {os : List (Option V)} (hl : δ.length = σ.length) (A : AtG K m sa H0 G0 (δ ++ cs) E (σ ++ os) G H) : AtG K m sa H0 G0 δ E σ G H := by
  have k1 : ∀ {i : Nat} {c : Cell}, δ[i]? = some c → (δ ++ cs)[i]? = some c := fun {i c} h => by
    rw [List.getElem?_append_left (List.getElem?_eq_some_iff.mp h).1]; exact h
  have k2 : ∀ {i : Nat} {c : Option V}, σ[i]? = some c → (σ ++ os)[i]? = some c := fun {i c} h => by
    rw [List.getElem?_append_left (List.getElem?_eq_some_iff.mp h).1]; exact h
  exact ⟨A.gd, hl.symm, fun i c o h1 h2 => A.cell i c o (k1 h1) (k2 h2), fun i j c c' o o' hij h1 h2 h3 h4 => A.dis i j c c' o o' hij (k1 h1) (k1 h2) (k2 h3) (k2 h4), A.ex⟩
theorem AtG.snoc {c : Cell} {o : Option V} (A : AtG K m sa H0 G0 δ E σ G H) (hc : CellOk K m sa H0 G H o c) (hf : ∀ b, foot H o c b → Lone H δ σ b) : AtG K m sa H0 G0 (δ ++ [c]) E (σ ++ [o]) G H := by
  have hl := A.len
  have key : ∀ {i : Nat} {c' : Cell} {o' : Option V}, (δ ++ [c])[i]? = some c' → (σ ++ [o])[i]? = some o' → (δ[i]? = some c' ∧ σ[i]? = some o') ∨ (i = δ.length ∧ c' = c ∧ o' = o) := fun {i c' o'} h1 h2 => by
    by_cases hi : i < δ.length
    · rw [List.getElem?_append_left hi] at h1
      rw [List.getElem?_append_left (by omega)] at h2
      exact .inl ⟨h1, h2⟩
    · have : i < (δ ++ [c]).length := (List.getElem?_eq_some_iff.mp h1).1
      rw [List.length_append, List.length_singleton] at this
      have e : i = δ.length := by omega
      subst e
      rw [List.getElem?_append_right (Nat.le_refl _), Nat.sub_self] at h1
      rw [List.getElem?_append_right (by omega), hl, Nat.sub_self] at h2
      cases h1; cases h2
      exact .inr ⟨rfl, rfl, rfl⟩
  refine ⟨A.gd, by rw [List.length_append, List.length_append, hl]; rfl, fun i c' o' h1 h2 => ?_, fun i j c1 c2 o1 o2 hij h1 h2 h3 h4 b f1 f2 => ?_, A.ex⟩
  · rcases key h1 h2 with ⟨k1, k2⟩ | ⟨_, e1, e2⟩
    · exact A.cell i c' o' k1 k2
    · subst e1; subst e2; exact hc
  · rcases key h1 h3 with ⟨k1, k3⟩ | ⟨e1, e2, e3⟩
    · rcases key h2 h4 with ⟨k2, k4⟩ | ⟨e1, e2, e3⟩
      · exact A.dis i j c1 c2 o1 o2 hij k1 k2 k3 k4 b f1 f2
      · subst e2; subst e3; exact hf b f2 i c1 o1 k1 k3 f1
    · rcases key h2 h4 with ⟨k2, k4⟩ | ⟨e4, _, _⟩
      · subst e2; subst e3; exact hf b f1 j c2 o2 k2 k4 f2
      · exact hij (e1.trans e4.symm)
/-- a cell taken to another slot -/
theorem AtG.mv {c : Cell} {o : Option V} {k i : Nat} (A : AtG K m sa H0 G0 δ E σ G H) (hk : δ[k]? = some c) (ho : σ[k]? = some o) : AtG K m sa H0 G0 ((δ.set k .no).set i c) E (σ.set i o) G H :=
  (A.dropped k).put i (A.cell k c o hk ho) fun b f j c' o' h1 h2 f' => by
    rcases set_at h1 with ⟨_, e, _⟩ | ⟨n, k1⟩
    · subst e; exact f'
    · exact A.dis k j c c' o o' n hk k1 ho h2 b f f'
end
def setL {α : Type} : List α → List Nat → List α → List α
  | δ, i :: is, c :: cs => setL (δ.set i c) is cs
  | δ, _, _ => δ
section
variable {K : Fg} {m : Bool} {sa : Option Addr} {H0 G0 G G' H H' : Hp} {E E' : Hp → Prop}
theorem AtG.stores : ∀ (is : List Nat) (cs : List Cell) (os ps : List (Option V)) (δ : List Cell) (σ : L2.St) (n : Nat), is.length = cs.length → os.length = cs.length → ps.length = n → δ.length = σ.length → (∀ i ∈ is, i < δ.length) →
    AtG K m sa H0 G0 (δ ++ (List.replicate n .no ++ cs)) E (σ ++ (ps ++ os)) G H → AtG K m sa H0 G0 (setL δ is cs) E (setL σ is os) G H
  | [], cs, os, ps, δ, σ, n, h1, h2, _, hl, _, A => by
    have e1 : cs = [] := List.eq_nil_of_length_eq_zero h1.symm
    subst e1
    have e2 : os = [] := List.eq_nil_of_length_eq_zero h2
    subst e2
    exact A.pre hl
  | i :: is, [], os, ps, δ, σ, n, h, _, _, _, _, _ => by simp at h
  | i :: is, c :: cs, [], ps, δ, σ, n, _, h, _, _, _, _ => by simp at h
  | i :: is, c :: cs, o :: os, ps, δ, σ, n, h1, h2, h3, hl, hb, A => by
    have hi := hb i (by simp)
    have e1 : (δ ++ (List.replicate n .no ++ c :: cs))[δ.length + n]? = some c := by
      rw [List.getElem?_append_right (by omega), Nat.add_sub_cancel_left, List.getElem?_append_right (by simp), List.length_replicate, Nat.sub_self]; rfl
    have e2 : (σ ++ (ps ++ o :: os))[δ.length + n]? = some o := by
      rw [hl, List.getElem?_append_right (by omega), Nat.add_sub_cancel_left, List.getElem?_append_right (by omega), h3, Nat.sub_self]; rfl
    have B := A.mv (i := i) e1 e2
    have e3 : ((δ ++ (List.replicate n Cell.no ++ c :: cs)).set (δ.length + n) Cell.no).set i c = δ.set i c ++ (List.replicate (n + 1) Cell.no ++ cs) := by
      have z : (List.replicate n Cell.no ++ c :: cs).set n Cell.no = List.replicate (n + 1) Cell.no ++ cs := by
        rw [List.set_append_right _ _ (by rw [List.length_replicate]; omega), List.length_replicate, Nat.sub_self, List.replicate_succ', List.append_assoc]
        rfl
      rw [List.set_append_right (s := δ) _ _ (Nat.le_add_right _ _), Nat.add_sub_cancel_left, z, List.set_append_left _ _ hi]
    have e4 : (σ ++ (ps ++ o :: os)).set i o = σ.set i o ++ ((ps ++ [o]) ++ os) := by
      rw [List.set_append_left _ _ (by omega), List.append_assoc]; rfl
    rw [e3, e4] at B
    exact AtG.stores is cs os (ps ++ [o]) (δ.set i c) (σ.set i o) (n + 1) (by simpa using h1) (by simpa using h2) (by simp [h3]) (by simp [hl]) (fun j hj => by rw [List.length_set]; exact hb j (by simp [hj])) B
end
def WP (K : Fg) (sa : Option Addr) (ta : TA) (δ : List Cell) (P : List Cell → Prop) : Prop := ∀ (H0 G0 : Hp) (E : Hp → Prop), Up E → ∀ (cs0 : List Cell) (σ : L2.St) (vs0 : List V) (G H : Hp), δ.length = σ.length → AtG K true sa H0 G0 (δ ++ cs0) E (σ ++ vs0.map some) G H →
  ∀ Q : List V → Hp → Prop, (∀ vs cs G' H', vs.length = cs.length → P cs → AtG K true sa H0 G0 (δ ++ (cs0 ++ cs)) E (σ ++ (vs0 ++ vs).map some) G' H' → Q vs H') → ta σ H Q
section
variable {K : Fg} {sa : Option Addr} {δ : List Cell} {te : TE} {ta tr : TA} {P : List Cell → Prop} {nx : List Cell → Prop} {rt : D → Prop} {bk ct : List Cell → Prop}
theorem wp_nil (p : P []) : WP K sa tNil δ P := fun H0 G0 E up cs0 σ vs0 G H hl A Q q => q [] [] G H rfl p (by rw [List.append_nil, List.append_nil]; exact A)
theorem wp_step {H0 G0 : Hp} {E : Hp → Prop} {cs0 : List Cell} {σ : L2.St} {vs0 : List V} {G H : Hp} {Q : List V → Hp → Prop} {c : Cell} {v : V} (up : Up E) (hl : δ.length = σ.length) (h : WP K sa tr δ fun cs => P (c :: cs))
    (A : AtG K true sa H0 G0 ((δ ++ cs0) ++ [c]) E ((σ ++ vs0.map some) ++ [some v]) G H) (q : ∀ vs cs G' H', vs.length = cs.length → P cs → AtG K true sa H0 G0 (δ ++ (cs0 ++ cs)) E (σ ++ (vs0 ++ vs).map some) G' H' → Q vs H') : tr σ H fun xs H2 => Q (v :: xs) H2 := by
  have e1 : (δ ++ cs0) ++ [c] = δ ++ (cs0 ++ [c]) := List.append_assoc _ _ _
  have e2 : (σ ++ vs0.map some) ++ [some v] = σ ++ (vs0 ++ [v]).map some := by rw [List.map_append, List.append_assoc]; rfl
  rw [e1, e2] at A
  refine h H0 G0 E up (cs0 ++ [c]) σ (vs0 ++ [v]) G H hl A _ fun vs cs G' H' hvc pc B => ?_
  refine q (v :: vs) (c :: cs) G' H' (by simp [hvc]) pc ?_
  have e3 : (cs0 ++ [c]) ++ cs = cs0 ++ c :: cs := by rw [List.append_assoc]; rfl
  have e4 : (vs0 ++ [v]) ++ vs = vs0 ++ v :: vs := by rw [List.append_assoc]; rfl
  rw [e3, e4] at B
  exact B
theorem wp_dat (h : WE K sa te δ fun d => WP K sa tr δ fun cs => P (.dat d :: cs)) : WP K sa (tCons te tr) δ P := fun H0 G0 E up cs0 σ vs0 G H hl A Q q =>
  h false H G E up σ H ⟨G, (A.pre hl).base⟩ _ fun v d H1 h1 ⟨G1, b⟩ => by
    have A1 : AtG K true sa H0 G0 (δ ++ cs0) (fun G => E G ∧ Rp K G v d) (σ ++ vs0.map some) G1 H1 := A.grow b.gd.g0 b.gd.gh b.gd.fr b.gd.hh (fun a ea => (b.gd.sp a ea).1) b.ex
    exact wp_step up hl h1 ((A1.same A1.ex.1).snoc (c := .dat d) (o := some v) ⟨v, rfl, A1.ex.2⟩ fun b f => f.elim) q
theorem wp_own (h : WF K sa te δ fun es => WP K sa tr δ fun cs => P (.own es :: cs)) : WP K sa (tCons te tr) δ P := fun H0 G0 E up cs0 σ vs0 G H hl A Q q =>
  h false H G E up σ H ⟨G, (A.pre hl).base⟩ _ fun p vs es H1 h1 ⟨G1, b⟩ hp h0 hs hj => by
    have A1 : AtG K true sa H0 G0 (δ ++ cs0) (fun G => E G ∧ G p = none ∧ RpA K G vs es) (σ ++ vs0.map some) G1 H1 := A.grow b.gd.g0 b.gd.gh b.gd.fr b.gd.hh (fun a ea => (b.gd.sp a ea).1) b.ex
    refine wp_step up hl h1 ((A1.same A1.ex.1).snoc (c := .own es) (o := some (.ref p)) ⟨p, vs, rfl, hp, A1.ex.2.1, hs, A1.ex.2.2, fun _ => (A.gnone h0).2.1⟩ fun b' f => ?_) q
    have f : some (V.ref p) = some (V.ref b') := f
    cases f
    exact A.lone_ex (A.lone h0) b.gd.hh
theorem wp_dict {α : Type} [DecidableEq α] (κ : KeyE α) (h : WP K sa tr δ fun cs => P (.res (dictN κ []) :: cs)) : WP K sa (tCons tNNew tr) δ P := fun H0 G0 E up cs0 σ vs0 G H hl A Q q => fun p hp => by
  obtain ⟨gp, h0, hs⟩ := A.gnone hp
  have B := A.beside (o := rawN p nObj []) hp
  refine wp_step up hl h (B.snoc (c := .res (dictN κ [])) (o := some (.ref p)) ⟨.ref p, rfl, ⟨p, nObj, [], rfl, upd_same, .nil⟩, fun b e => by cases e; exact ⟨gp, hs, fun _ => h0⟩⟩ fun b f => ?_) q
  obtain ⟨v, ev, f⟩ := f
  cases ev
  cases f
  exact A.lone_upd hp
theorem WP.imp {P P' : List Cell → Prop} (h : WP K sa ta δ P') (k : ∀ cs, P' cs → P cs) : WP K sa ta δ P := fun H0 G0 E up cs0 σ vs0 G H hl A Q q => h H0 G0 E up cs0 σ vs0 G H hl A Q fun vs cs G' H' e p a => q vs cs G' H' e (k cs p) a
theorem ws_parP {i j : Nat} (hi : i < δ.length) (hj : j < δ.length) (h : WP K sa ta δ fun cs => ∃ a b, cs = [a, b] ∧ nx ((δ.set i a).set j b)) : WS K sa (tPar i j ta) ⟨nx, rt, bk, ct⟩ δ := fun H0 G0 E up σ H Dn ⟨G, A⟩ R =>
  h H0 G0 E up [] σ [] G H A.len.symm (by rw [List.append_nil, List.map_nil, List.append_nil]; exact A) _ fun vs cs G' H' e ⟨a, b, ec, pn⟩ B => by
    subst ec
    match vs, e with
    | [v, w], _ =>
      have C := AtG.stores [i, j] [a, b] [some v, some w] [] δ σ 0 rfl rfl rfl A.len.symm (fun k hk => by
        rcases List.mem_cons.mp hk with z | z
        · subst z; exact hi
        · rcases List.mem_singleton.mp z with rfl; exact hj) (by simpa using B)
      exact ⟨v, w, rfl, R.nx _ _ _ pn ⟨G', C⟩⟩
theorem ws_parP3 {i j k : Nat} (hi : i < δ.length) (hj : j < δ.length) (hk : k < δ.length) (h : WP K sa ta δ fun cs => ∃ a b c, cs = [a, b, c] ∧ nx (((δ.set i a).set j b).set k c)) : WS K sa (tPar3 i j k ta) ⟨nx, rt, bk, ct⟩ δ := fun H0 G0 E up σ H Dn ⟨G, A⟩ R =>
  h H0 G0 E up [] σ [] G H A.len.symm (by rw [List.append_nil, List.map_nil, List.append_nil]; exact A) _ fun vs cs G' H' e ⟨a, b, c, ec, pn⟩ B => by
    subst ec
    match vs, e with
    | [v, w, x], _ =>
      have C := AtG.stores [i, j, k] [a, b, c] [some v, some w, some x] [] δ σ 0 rfl rfl rfl A.len.symm (fun l hl => by
        rcases List.mem_cons.mp hl with z | z
        · subst z; exact hi
        · rcases List.mem_cons.mp z with z | z
          · subst z; exact hj
          · rcases List.mem_singleton.mp z with rfl; exact hk) (by simpa using B)
      exact ⟨v, w, x, rfl, R.nx _ _ _ pn ⟨G', C⟩⟩
def gNames : List Nat → TGs
  | [] => gNil
  | i :: is => gCons (gName i) (gNames is)
theorem gNames_run : ∀ (is : List Nat) (vs : List V) (σ : L2.St) (H : Hp) (Q : L2.St → Hp → Prop), vs.length = is.length → Q (setL σ is (vs.map some)) H → gNames is vs σ H Q
  | [], [], σ, H, Q, _, q => ⟨rfl, q⟩
  | i :: is, v :: vs, σ, H, Q, h, q => ⟨v, vs, rfl, gNames_run is vs (σ.set i (some v)) H Q (by simpa using h) q⟩
  | [], _ :: _, σ, H, Q, h, q => by simp at h
  | _ :: _, [], σ, H, Q, h, q => by simp at h
theorem ws_tupP (is : List Nat) (hn : is.length ≤ 100) (hb : ∀ i ∈ is, i < δ.length) (h : WP K sa ta δ fun cs => cs.length = is.length ∧ nx (setL δ is cs)) : WS K sa (tAsg (tTup ta) (gTup K is.length (gNames is))) ⟨nx, rt, bk, ct⟩ δ := fun H0 G0 E up σ H Dn ⟨G, A⟩ R =>
  h H0 G0 E up [] σ [] G H A.len.symm (by rw [List.append_nil, List.map_nil, List.append_nil]; exact A) _ fun vs cs G' H' e ⟨ec, pn⟩ B => by
    refine ⟨szl (by omega), fun x hx => ?_⟩
    have B := B.beside (o := .tup vs) hx
    have C := AtG.stores is cs (vs.map some) [] δ σ 0 ec.symm (by rw [List.length_map]; exact e) rfl A.len.symm hb (by simpa using B)
    exact ⟨x, vs, rfl, .inl (.inl upd_same), by omega, gNames_run is vs σ _ _ (by omega) (R.nx _ _ _ pn ⟨G', C⟩)⟩
end
end Dl

/-! ranks of rows and of columns, numbers of starts and of points -/
namespace Lw
open PySem PySem.Spec PyProof.Rows L2 DlP Dl
def mixR (p : Int) (m : Nat) (x g : Row) (f : Int) : Row := (List.range m).map fun j => (x.getD j 0 + f * g.getD j 0).fmod p
theorem mixR_ok {p : Int} {m : Nat} {x g : Row} {f : Int} (hp : 0 < p) : RowOk p m (mixR p m x g f) := ⟨by simp [mixR], fun v hv => by
  obtain ⟨j, _, rfl⟩ := List.mem_map.mp hv
  exact fmod_lt hp⟩
theorem mixR_at {p : Int} {m : Nat} {x g : Row} {f : Int} {j : Nat} (hj : j < m) : p ∣ (mixR p m x g f).getD j 0 - (x.getD j 0 + f * g.getD j 0) := by
  unfold mixR
  rw [getD_range hj]
  exact fmod_dvd p _
theorem dot_mulR (f : Int) (u g : Row) : dot u (g.map (f * ·)) = f * dot u g := by rw [dot_comm, dot_mul, dot_comm]
theorem dot_mixR {p : Int} {m : Nat} {u x g : Row} {f : Int} (hu : u.length = m) (hx : x.length = m) (hg : g.length = m) : p ∣ dot u (mixR p m x g f) - (dot u x + f * dot u g) := by
  rw [← dot_mulR]
  refine dot_right (fun i hi => ?_) (by simp [mixR, hu]) (by omega) (by simp [hg, hu])
  rw [getD_mul]
  exact mixR_at (by omega)
theorem sum_add2 {α : Type} (a b : α → Nat) : ∀ l : List α, (l.map fun i => a i + b i).sum = (l.map a).sum + (l.map b).sum
  | [] => rfl
  | x :: l => by simp only [List.map_cons, List.sum_cons, sum_add2 a b l]; omega
theorem sum_hit (c : Nat) : ∀ p, ((List.range p).map fun f => if c = f then 1 else 0).sum = if c < p then 1 else 0
  | 0 => by simp
  | p + 1 => by
    rw [List.range_succ, List.map_append, List.sum_append, sum_hit c p]
    simp only [List.map_cons, List.map_nil, List.sum_cons, List.sum_nil]
    split <;> split <;> split <;> omega
theorem part_len {α : Type} (φ : α → Nat) (p : Nat) : ∀ l : List α, (∀ x ∈ l, φ x < p) → ((List.range p).map fun f => (l.filter fun x => decide (φ x = f)).length).sum = l.length
  | [], _ => by
    have : ∀ l : List Nat, (l.map fun f => (([] : List α).filter fun x => decide (φ x = f)).length).sum = 0 := fun l => by
      induction l with
      | nil => rfl
      | cons a l ih => simp only [List.map_cons, List.sum_cons, ih]; rfl
    exact this _
  | x :: l, h => by
    have e : (fun f => ((x :: l).filter fun y => decide (φ y = f)).length) = fun f => (if φ x = f then 1 else 0) + (l.filter fun y => decide (φ y = f)).length := by
      funext f
      rw [List.filter_cons]
      by_cases z : φ x = f
      · rw [if_pos (decide_eq_true z), if_pos z, List.length_cons]; omega
      · rw [if_neg (by simp [z]), if_neg z]; omega
    rw [e, sum_add2, sum_hit, part_len φ p l (fun y hy => h y (by simp [hy])), if_pos (h x (by simp)), List.length_cons]
    omega
theorem sum_const {α : Type} (g : α → Nat) (c : Nat) : ∀ l : List α, (∀ x ∈ l, g x = c) → (l.map g).sum = l.length * c
  | [], _ => by simp
  | x :: l, h => by rw [List.map_cons, List.sum_cons, h x (by simp), sum_const g c l fun y hy => h y (by simp [hy]), List.length_cons, Nat.succ_mul]; omega
/-- nought times all of some rows -/
def annB (p : Int) (us : Tab) (x : Row) : Bool := us.all fun u => decide ((dot u x).fmod p = 0)
theorem annB_iff {p : Int} {us : Tab} {x : Row} : annB p us x = true ↔ ∀ u ∈ us, p ∣ dot u x := by
  unfold annB
  rw [List.all_eq_true]
  exact ⟨fun h u hu => fmod_zero.mp (of_decide_eq_true (h u hu)), fun h u hu => decide_eq_true (fmod_zero.mpr (h u hu))⟩
theorem ann_step {p m : Nat} {u g : Row} {us : Tab} (hp : 0 < p) (hu : u.length = m) (hus : ∀ v ∈ us, v.length = m) (hg : g.length = m) (h1 : (p : Int) ∣ dot u g - 1) (h0 : ∀ v ∈ us, (p : Int) ∣ dot v g) :
    ((allRows p m).filter (annB p us)).length = p * ((allRows p m).filter (annB p (u :: us))).length := by
  have hp0 : (0 : Int) < p := by omega
  have hlt : ∀ x : Row, ((dot u x).fmod p).toNat < p := fun x => by have := fmod_lt (a := dot u x) hp0; omega
  rw [← part_len (fun x => ((dot u x).fmod p).toNat) p _ (fun x _ => hlt x)]
  rw [sum_const _ ((allRows p m).filter (annB p (u :: us))).length, List.length_range]
  intro f hf
  have hf : f < p := List.mem_range.mp hf
  rw [List.filter_filter]
  have mem : ∀ x f, x ∈ (allRows p m).filter (fun a => decide (((dot u a).fmod p).toNat = f) && annB p us a) ↔ RowOk p m x ∧ (((dot u x).fmod p).toNat = f) ∧ ∀ v ∈ us, (p : Int) ∣ dot v x := fun x f => by
    rw [List.mem_filter, Bool.and_eq_true, decide_eq_true_iff, annB_iff]
    exact ⟨fun h => ⟨allRows_ok hp x h.1, h.2⟩, fun h => ⟨mem_allRows hp h.1, h.2⟩⟩
  have mem0 : ∀ x, x ∈ (allRows p m).filter (annB p (u :: us)) ↔ RowOk p m x ∧ (p : Int) ∣ dot u x ∧ ∀ v ∈ us, (p : Int) ∣ dot v x := fun x => by
    rw [List.mem_filter, annB_iff]
    exact ⟨fun h => ⟨allRows_ok hp x h.1, h.2 u (by simp), fun v hv => h.2 v (by simp [hv])⟩, fun h => ⟨mem_allRows hp h.1, fun v hv => by
      rcases List.mem_cons.mp hv with z | z
      · rw [z]; exact h.2.1
      · exact h.2.2 v z⟩⟩
  have val : ∀ x, ((dot u x).fmod p).toNat = f ↔ (p : Int) ∣ dot u x - f := fun x => by
    have hx := fmod_lt (a := dot u x) hp0
    have hd := fmod_dvd (p : Int) (dot u x)
    constructor
    · intro e
      have : (dot u x).fmod p = f := by omega
      rw [this] at hd
      have := Int.dvd_neg.mpr hd
      rwa [Int.neg_sub] at this
    · intro e
      have := small_dvd (by have := Int.dvd_add hd e; rwa [show (dot u x).fmod p - dot u x + (dot u x - f) = (dot u x).fmod p - f by omega] at this) hx ⟨by omega, by omega⟩
      omega
  refine len_eq_of ((allRows_nodup hp m).filter _) ((allRows_nodup hp m).filter _) (fun x => mixR p m x g (-f)) (fun x hx => ?_) (fun x hx y hy e => ?_) (fun y hy => ?_)
  · obtain ⟨hx, hf, hv⟩ := (mem x f).mp hx
    refine (mem0 _).mpr ⟨mixR_ok hp0, ?_, fun v hvm => ?_⟩
    · have d1 := dot_mixR (p := p) (u := u) (x := x) (g := g) (f := -f) hu hx.1 hg
      have d2 := (val x).mp hf
      have d3 : (p : Int) ∣ (f : Int) * (dot u g - 1) := Int.dvd_mul_of_dvd_right h1
      have := Int.dvd_sub (Int.dvd_add d1 d2) d3
      have e : dot u (mixR p m x g (-f)) - (dot u x + -f * dot u g) + (dot u x - f) - f * (dot u g - 1) = dot u (mixR p m x g (-f)) := by rw [Int.mul_sub, Int.neg_mul]; omega
      rwa [e] at this
    · have d1 := dot_mixR (p := p) (u := v) (x := x) (g := g) (f := -f) (hus v hvm) hx.1 hg
      have d2 := hv v hvm
      have d3 : (p : Int) ∣ -(f : Int) * dot v g := Int.dvd_mul_of_dvd_right (h0 v hvm)
      have := Int.dvd_add d1 (Int.dvd_add d2 d3)
      rwa [show dot v (mixR p m x g (-f)) - (dot v x + -↑f * dot v g) + (dot v x + -↑f * dot v g) = dot v (mixR p m x g (-f)) by omega] at this
  · obtain ⟨hx, _, _⟩ := (mem x f).mp hx
    obtain ⟨hy, _, _⟩ := (mem y f).mp hy
    refine row_ext (by rw [hx.1, hy.1]) fun j hj => ?_
    have hj : j < m := by rw [← hx.1]; exact hj
    have e1 := mixR_at (p := p) (x := x) (g := g) (f := -f) hj
    have e2 := mixR_at (p := p) (x := y) (g := g) (f := -f) hj
    have e : mixR p m x g (-f) = mixR p m y g (-f) := e
    rw [e] at e1
    have := Int.dvd_sub e2 e1
    refine small_dvd (p := p) ?_ (getD_range2 hp0 hx j) (getD_range2 hp0 hy j)
    rwa [show (mixR p m y g (-f)).getD j 0 - (y.getD j 0 + -↑f * g.getD j 0) - ((mixR p m y g (-f)).getD j 0 - (x.getD j 0 + -↑f * g.getD j 0)) = x.getD j 0 - y.getD j 0 by omega] at this
  · obtain ⟨hy, hu0, hv⟩ := (mem0 y).mp hy
    refine ⟨mixR p m y g f, (mem _ f).mpr ⟨mixR_ok hp0, (val _).mpr ?_, fun v hvm => ?_⟩, ?_⟩
    · have d1 := dot_mixR (p := p) (u := u) (x := y) (g := g) (f := f) hu hy.1 hg
      have d3 : (p : Int) ∣ (f : Int) * (dot u g - 1) := Int.dvd_mul_of_dvd_right h1
      have := Int.dvd_add (Int.dvd_add d1 hu0) d3
      have e : dot u (mixR p m y g f) - (dot u y + f * dot u g) + dot u y + f * (dot u g - 1) = dot u (mixR p m y g f) - f := by rw [Int.mul_sub]; omega
      rwa [e] at this
    · have d1 := dot_mixR (p := p) (u := v) (x := y) (g := g) (f := f) (hus v hvm) hy.1 hg
      have d3 : (p : Int) ∣ (f : Int) * dot v g := Int.dvd_mul_of_dvd_right (h0 v hvm)
      have := Int.dvd_add d1 (Int.dvd_add (hv v hvm) d3)
      rwa [show dot v (mixR p m y g f) - (dot v y + ↑f * dot v g) + (dot v y + ↑f * dot v g) = dot v (mixR p m y g f) by omega] at this
    · refine row_ext (by simp [mixR, hy.1]) fun j hj => ?_
      have hj : j < m := by simpa [mixR] using hj
      have e1 := mixR_at (p := p) (x := y) (g := g) (f := f) hj
      have e2 := mixR_at (p := p) (x := mixR p m y g f) (g := g) (f := -f) hj
      have := Int.dvd_add e1 e2
      refine small_dvd (p := p) ?_ (getD_range2 hp0 (mixR_ok hp0) j) (getD_range2 hp0 hy j)
      have e : (mixR p m y g f).getD j 0 - (y.getD j 0 + ↑f * g.getD j 0) + ((mixR p m (mixR p m y g f) g (-f)).getD j 0 - ((mixR p m y g f).getD j 0 + -↑f * g.getD j 0)) = (mixR p m (mixR p m y g f) g (-f)).getD j 0 - y.getD j 0 := by rw [Int.neg_mul]; omega
      rwa [e] at this
inductive DualL (p : Int) (m : Nat) : Tab → Tab → Prop
  | nil : DualL p m [] []
  | cons {u g : Row} {us gs : Tab} : u.length = m → g.length = m → p ∣ dot u g - 1 → (∀ v ∈ us, p ∣ dot v g) → DualL p m us gs → DualL p m (u :: us) (g :: gs)
theorem DualL.len {p : Int} {m : Nat} : ∀ {us gs : Tab}, DualL p m us gs → ∀ u ∈ us, u.length = m
  | _, _, .nil, _, h => by cases h
  | _, _, .cons hu _ _ _ t, v, h => by
    rcases List.mem_cons.mp h with z | z
    · rw [z]; exact hu
    · exact t.len v z
theorem ann_count {p m : Nat} (hp : 0 < p) : ∀ {us gs : Tab}, DualL p m us gs → p ^ us.length * ((allRows p m).filter (annB p us)).length = p ^ m
  | _, _, .nil => by
    have : (allRows p m).filter (annB p []) = allRows p m := List.filter_eq_self.mpr fun _ _ => rfl
    rw [this, allRows_len]; simp
  | _, _, .cons (u := u) (us := us) hu hg h1 h0 t => by
    have ih := ann_count hp t
    rw [ann_step hp hu t.len hg h1 h0] at ih
    rw [List.length_cons, Nat.pow_succ, Nat.mul_assoc]
    exact ih
theorem pow_left {p k n m : Nat} (hp : 2 ≤ p) (h : p ^ k * n = p ^ m) : k ≤ m ∧ n = p ^ (m - k) := by
  have hk : k ≤ m := by
    by_cases z : k ≤ m
    · exact z
    · exfalso
      have h0 : 0 < n := by
        rcases Nat.eq_zero_or_pos n with e | e
        · rw [e, Nat.mul_zero] at h
          have := Nat.pow_pos (n := m) (show 0 < p by omega)
          omega
        · exact e
      have : p ^ m < p ^ k := Nat.pow_lt_pow_right (by omega) (by omega)
      have := Nat.le_mul_of_pos_right (p ^ k) h0
      omega
  refine ⟨hk, ?_⟩
  have e : p ^ m = p ^ k * p ^ (m - k) := by rw [← Nat.pow_add]; congr 1; omega
  rw [e] at h
  exact Nat.eq_of_mul_eq_mul_left (Nat.pow_pos (by omega)) h
theorem piv_dual {p : Int} {m : Nat} : ∀ {L : List (Nat × Row)}, Piv L → (∀ a ∈ L, a.1 < m ∧ a.2.length = m) → DualL p m (sndR L) (L.map fun a => unitR m a.1)
  | [], _, _ => .nil
  | a :: L, h, hm => by
    have ha := hm a (by simp)
    refine .cons ha.2 (by simp [unitR]) ?_ (fun v hv => ?_) (piv_dual h.tail fun b hb => hm b (by simp [hb]))
    · rw [dot_unit ha.2 ha.1, (h.1 a (by simp)).1]; exact ⟨0, by omega⟩
    · obtain ⟨b, hb, rfl⟩ := sndR_mem hv
      rw [dot_unit (hm b (by simp [hb])).2 ha.1, ((List.pairwise_cons.mp h.2).1 b hb).2.2]
      exact Int.dvd_zero p
/-- a sum of rows is nought times what all of them are nought times -/
theorem comb_ann {p : Int} {m : Nat} {T : Tab} {u b : Row} (h : Comb p m T u) (hT : ∀ r ∈ T, r.length = m) (hu : u.length = m) (hb : b.length = m) (hk : ∀ r ∈ T, p ∣ dot r b) : p ∣ dot u b := by
  obtain ⟨ws, l, k⟩ := h
  have e := dot_swap (m := m) (b := b) (ws := ws) (rs := T) hT
  have h1 : p ∣ dot ws (T.map fun r => dot r b) := by
    rw [dot_comm]
    exact dot_dvd fun x hx => by obtain ⟨r, hr, rfl⟩ := List.mem_map.mp hx; exact hk r hr
  rw [e] at h1
  have h2 : p ∣ dot ((List.range m).map fun c => dot ws (colAt T c)) b - dot u b := dot_cong (by simp [hu]) fun i hi => by
    have hi : i < m := by simpa using hi
    rw [getD_range hi]; exact k i hi
  exact (dvd_iff h2).mp h1
/-- starts that are led to nought -/
theorem ann_stairs {p m : Nat} {rs : Tab} (hb : Base p) (h : ∀ r ∈ rs, RowOk p m r) :
    (stairsF p m (rs.map fun r => (false, r))).length ≤ m ∧ ((allRows p m).filter (annB p rs)).length = p ^ (m - (stairsF p m (rs.map fun r => (false, r))).length) := by
  have hp := hb.pos
  have hq : ∀ q ∈ rs.map fun r => ((false, r) : QRow), RowOk p m q.2 := fun q hq => by obtain ⟨r, hr, rfl⟩ := List.mem_map.mp hq; exact h r hr
  obtain ⟨L, e, hL, hlt, hc⟩ := stairs_main (p := p) (m := m) hb hq
  have er : ((rs.map fun r => ((false, r) : QRow)).map fun q => q.2) = rs := by rw [List.map_map]; exact List.map_id' rs
  rw [er] at hc
  have hok := (stairsF_ok (p := p) (m := m) (by omega) hq).1
  rw [e] at hok hc ⊢
  have el : (sndR L).length = L.length := by simp [sndR]
  have hD := piv_dual (p := p) (m := m) hL fun a ha => ⟨hlt a ha, (hok a.2 (List.mem_map.mpr ⟨a, ha, rfl⟩)).1⟩
  have hcnt := ann_count (p := p) (by omega) hD
  have hsame : (allRows p m).filter (annB p rs) = (allRows p m).filter (annB p (sndR L)) := List.filter_congr fun b hbm => by
    have hbo := allRows_ok (p := p) (by omega) b hbm
    rw [Bool.eq_iff_iff, annB_iff, annB_iff]
    exact ⟨fun k r hr => comb_ann ((hc r).mp (comb_mem hr)) (fun q hq => (h q hq).1) (hok r hr).1 hbo.1 k, fun k r hr => comb_ann ((hc r).mpr (comb_mem hr)) (fun q hq => (hok q hq).1) (h r hr).1 hbo.1 k⟩
  rw [hsame]
  exact pow_left (by omega) hcnt
theorem pow_inj2 {p a b : Nat} (hp : 2 ≤ p) (h : p ^ a = p ^ b) : a = b := (Nat.pow_right_inj (by omega)).mp h
/-- the law's rank is the rank -/
theorem rank_stairs {p m : Nat} {rs : Tab} (hb : Base p) (h : ∀ r ∈ rs, RowOk p m r) : rankN p m rs = (stairsF p m (rs.map fun r => (false, r))).length := by
  have hp := hb.pos
  have hp0 : (0 : Int) < p := by omega
  obtain ⟨h1, h2⟩ := ann_stairs hb h
  obtain ⟨h3, h4⟩ := rank_ok hb h
  have e : (allRows p m).filter (solB p rs (List.replicate rs.length 0)) = (allRows p m).filter (annB p rs) := List.filter_congr fun b _ => by
    rw [Bool.eq_iff_iff, annB_iff, sol_iff (m := m) hp0 ⟨by simp, fun x hx => by rw [(List.mem_replicate.mp hx).2]; omega⟩]
    constructor
    · intro k r hr
      obtain ⟨l, hl, rfl⟩ := List.getElem_of_mem hr
      have := k l hl
      rwa [show (List.replicate rs.length (0 : Int)).getD l 0 = 0 by simp [hl], Int.sub_zero] at this
    · intro k l hl
      rw [show (List.replicate rs.length (0 : Int)).getD l 0 = 0 by simp [hl], Int.sub_zero]
      exact k _ (List.getElem_mem hl)
  rw [e, h2] at h4
  have := pow_inj2 (by omega) h4
  omega
theorem cols_ok {p : Int} {m : Nat} {rs : Tab} (hp : 0 < p) (h : ∀ r ∈ rs, RowOk p m r) : ∀ c ∈ colsOf rs m, RowOk p rs.length c := fun c hc => by
  obtain ⟨i, _, rfl⟩ := List.mem_map.mp hc
  refine ⟨by simp [colAt], fun x hx => ?_⟩
  obtain ⟨r, hr, rfl⟩ := List.mem_map.mp hx
  exact getD_range2 hp (h r hr) i
theorem cols_len (rs : Tab) (m : Nat) : (colsOf rs m).length = m := by simp [colsOf]
theorem colAt_cols {m : Nat} {rs : Tab} (h : ∀ r ∈ rs, r.length = m) {i : Nat} (hi : i < rs.length) : colAt (colsOf rs m) i = rs[i] := by
  unfold colAt colsOf
  rw [List.map_map]
  have : ∀ c, ((fun r : Row => r.getD i 0) ∘ colAt rs) c = rs[i].getD c 0 := fun c => by
    show (colAt rs c).getD i 0 = _
    exact colAt_getD (List.getElem?_eq_getElem hi)
  rw [List.map_congr_left fun c _ => this c]
  exact row_range (h _ (List.getElem_mem hi))
/-- as many rows as columns are free -/
theorem rank_cols {p m : Nat} {rs : Tab} (hb : Base p) (h : ∀ r ∈ rs, RowOk p m r) :
    (stairsF p rs.length ((colsOf rs m).map fun r => (false, r))).length = (stairsF p m (rs.map fun r => (false, r))).length := by
  have hp := hb.pos
  have hlen : ∀ r ∈ rs, r.length = m := fun r hr => (h r hr).1
  have hco := cols_ok (p := p) (m := m) (by omega) h
  have hq : ∀ q ∈ (colsOf rs m).map fun r => ((false, r) : QRow), RowOk p rs.length q.2 := fun q hq => by obtain ⟨r, hr, rfl⟩ := List.mem_map.mp hq; exact hco r hr
  obtain ⟨L, e, hL, hlt, hc⟩ := stairs_main (p := p) (m := rs.length) hb hq
  have er : (((colsOf rs m).map fun r => ((false, r) : QRow)).map fun q => q.2) = colsOf rs m := by rw [List.map_map]; exact List.map_id' _
  rw [er] at hc
  rw [e] at hc ⊢
  have key : ∀ L' : List (Nat × Row), Piv L' → (∀ a ∈ L', a ∈ L) → ∃ gs, DualL p m (L'.map fun a => rs.getD a.1 []) gs := by
    intro L'
    induction L' with
    | nil => intro _ _; exact ⟨[], .nil⟩
    | cons a L' ih =>
      intro hL' hin
      obtain ⟨gs, hg⟩ := ih hL'.tail fun b hb => hin b (by simp [hb])
      obtain ⟨g, gl, gk⟩ := (hc a.2).mp (comb_mem (List.mem_map.mpr ⟨a, hin a (by simp), rfl⟩))
      rw [cols_len] at gl
      have hrow : ∀ i (hi : i < rs.length), rs.getD i [] = rs[i] := fun i hi => by rw [List.getD_eq_getElem?_getD, List.getElem?_eq_getElem hi]; rfl
      have ha1 := hlt a (hin a (by simp))
      have at' : ∀ i (hi : i < rs.length), (p : Int) ∣ dot (rs.getD i []) g - a.2.getD i 0 := fun i hi => by
        have := gk i hi
        rwa [colAt_cols hlen hi, dot_comm, ← hrow i hi] at this
      refine ⟨g :: gs, .cons (by show (rs.getD a.1 []).length = m; rw [hrow _ ha1]; exact hlen _ (List.getElem_mem _)) gl ?_ (fun v hv => ?_) hg⟩
      · have := at' a.1 ha1
        rwa [(hL'.1 a (by simp)).1] at this
      · obtain ⟨b, hbm, rfl⟩ := List.mem_map.mp hv
        have := at' b.1 (hlt b (hin b (by simp [hbm])))
        rwa [((List.pairwise_cons.mp hL'.2).1 b hbm).2.1, Int.sub_zero] at this
  obtain ⟨gs, hg⟩ := key L hL fun _ h => h
  have hcnt := ann_count (p := p) (by omega) hg
  have hsame : (allRows p m).filter (annB p (L.map fun a => rs.getD a.1 [])) = (allRows p m).filter (annB p rs) := List.filter_congr fun x hx => by
    have hxo := allRows_ok (p := p) (by omega) x hx
    rw [Bool.eq_iff_iff, annB_iff, annB_iff]
    constructor
    · intro k r hr
      obtain ⟨i, hi, rfl⟩ := List.getElem_of_mem hr
      have hy : Comb p rs.length (colsOf rs m) (rs.map fun r => dot r x) := ⟨x, by rw [cols_len]; exact hxo.1, fun j hj => by
        rw [colAt_cols hlen hj, dot_comm, List.getD_eq_getElem?_getD, List.getElem?_map, List.getElem?_eq_getElem hj]
        exact ⟨0, by simp⟩⟩
      obtain ⟨ws, wl, wk⟩ := (hc _).mpr hy
      have hyg : ∀ j (hj : j < rs.length), (rs.map fun r => dot r x).getD j 0 = dot rs[j] x := fun j hj => by rw [List.getD_eq_getElem?_getD, List.getElem?_map, List.getElem?_eq_getElem hj]; rfl
      have hw : ∀ y ∈ ws, (p : Int) ∣ y := fun y hy => by
        obtain ⟨i', hi', rfl⟩ := List.getElem_of_mem hy
        have hil : i' < L.length := by rw [wl] at hi'; simpa [sndR] using hi'
        have ha1 := hlt L[i'] (List.getElem_mem hil)
        have := wk L[i'].1 ha1
        rw [piv_coef hL (List.getElem?_eq_getElem hil) (by rw [wl]; simp [sndR]), hyg _ ha1] at this
        have k2 := k (rs.getD L[i'].1 []) (List.mem_map.mpr ⟨L[i'], List.getElem_mem hil, rfl⟩)
        rw [show rs.getD L[i'].1 [] = rs[L[i'].1] by rw [List.getD_eq_getElem?_getD, List.getElem?_eq_getElem ha1]; rfl] at k2
        have k3 := (dvd_iff this).mpr k2
        rwa [List.getD_eq_getElem?_getD, List.getElem?_eq_getElem hi'] at k3
      have := wk i hi
      rw [hyg i hi] at this
      exact (dvd_iff this).mp (dot_dvd hw)
    · intro k u hu
      obtain ⟨a, ha, rfl⟩ := List.mem_map.mp hu
      have ha1 := hlt a ha
      rw [show rs.getD a.1 [] = rs[a.1] by rw [List.getD_eq_getElem?_getD, List.getElem?_eq_getElem ha1]; rfl]
      exact k _ (List.getElem_mem _)
  rw [hsame] at hcnt
  obtain ⟨h1, h2⟩ := ann_stairs hb h
  obtain ⟨h3, h4⟩ := pow_left (by omega) hcnt
  rw [h2] at h4
  have := pow_inj2 (by omega) h4
  have el : (sndR L).length = L.length := by simp [sndR]
  rw [List.length_map] at h3 this
  omega
/-- ties and free rows -/
theorem ties_rank {p m : Nat} {rs : Tab} (hb : Base p) (h : ∀ r ∈ rs, RowOk p m r) : (stairsF p m (rs.map fun r => (false, r))).length ≤ rs.length ∧ (tiesF p m rs).length = rs.length - (stairsF p m (rs.map fun r => (false, r))).length := by
  have hp := hb.pos
  have hp0 : (0 : Int) < p := by omega
  have hlen : ∀ r ∈ rs, r.length = m := fun r hr => (h r hr).1
  have hco := cols_ok (p := p) (m := m) (by omega) h
  obtain ⟨h1, h2⟩ := ann_stairs (p := p) (m := rs.length) hb hco
  rw [rank_cols hb h] at h1 h2
  refine ⟨h1, ?_⟩
  have t := tie_num (p := p) (n := rs.length) (m := m) hb rfl h
  have e : ((allRows p rs.length).filter fun f => (sumOf p m f rs).all fun x => decide (x = 0)) = (allRows p rs.length).filter (annB p (colsOf rs m)) := List.filter_congr fun f hf => by
    have hfo := allRows_ok (p := p) (by omega) f hf
    rw [Bool.eq_iff_iff, annB_iff, List.all_eq_true]
    have z := sumOf_zero hp0 hfo.1 hlen
    constructor
    · intro k c hc
      obtain ⟨j, hj, rfl⟩ := List.mem_map.mp hc
      rw [dot_comm]
      exact (z.mp fun x hx => of_decide_eq_true (k x hx)) j (List.mem_range.mp hj)
    · intro k x hx
      exact decide_eq_true (z.mpr (fun j hj => by rw [dot_comm]; exact k _ (List.mem_map.mpr ⟨j, List.mem_range.mpr hj, rfl⟩)) x hx)
  rw [e, h2] at t
  have := pow_inj2 (by omega) t
  omega
end Lw

namespace Lw
open PySem PySem.Spec PyProof.Rows L2 DlP Dl
theorem datas_nums (r : Row) : NestedKey.datas (r.map .num) = r.map PyData.int := by
  induction r with
  | nil => simp [NestedKey.datas]
  | cons x r ih => simp only [List.map_cons, NestedKey.datas, ih, NestedKey.data]
theorem plain_nums (r : Row) : plainA (r.map .num) = true := by
  induction r with
  | nil => simp [plainA]
  | cons x r ih => simp only [List.map_cons, plainA, ih, plainK]; rfl
theorem depth_nums (r : Row) : NestedKey.depthAll (r.map .num) = 0 := by
  induction r with
  | nil => simp [NestedKey.depthAll]
  | cons x r ih => simp only [List.map_cons, NestedKey.depthAll, ih, NestedKey.depth]; rfl
theorem num_inj {a b : Row} (h : a.map NestedKey.num = b.map NestedKey.num) : a = b := (List.map_inj_right fun x y e => by injection e).mp h
def rowKey : KeyE Row where
  kf r := .tup (r.map .num)
  enc := rowD
  data r := by simp only [NestedKey.data, datas_nums]; rfl
  inj a b h := by injection h with h; exact num_inj h
  good r := ⟨by simp only [plainK]; exact plain_nums r, by simp only [NestedKey.depth, depth_nums]; omega⟩
  isT r := ⟨_, rfl⟩
theorem datas_rows (t : Tab) : NestedKey.datas (t.map rowKey.kf) = t.map rowD := by
  induction t with
  | nil => simp [NestedKey.datas]
  | cons x r ih => simp only [List.map_cons, NestedKey.datas, ih, rowKey.data]; rfl
theorem plain_rows (t : Tab) : plainA (t.map rowKey.kf) = true := by
  induction t with
  | nil => simp [plainA]
  | cons x r ih => simp only [List.map_cons, plainA, ih, (rowKey.good x).1]; rfl
theorem depth_rows (t : Tab) : NestedKey.depthAll (t.map rowKey.kf) ≤ 1 := by
  induction t with
  | nil => simp [NestedKey.depthAll]
  | cons x r ih =>
    have : (rowKey.kf x).depth ≤ 1 := by show NestedKey.depth (.tup _) ≤ 1; simp only [NestedKey.depth, depth_nums]; omega
    simp only [List.map_cons, NestedKey.depthAll]; omega
def tabKey : KeyE Tab where
  kf t := .tup (t.map rowKey.kf)
  enc := tabD
  data t := by simp only [NestedKey.data, datas_rows]; rfl
  inj a b h := by injection h with h; exact (List.map_inj_right fun x y e => rowKey.inj x y e).mp h
  good t := ⟨by simp only [plainK]; exact plain_rows t, by simp only [NestedKey.depth]; have := depth_rows t; omega⟩
  isT t := ⟨_, rfl⟩
theorem putA_keys {α : Type} [DecidableEq α] (es : List (α × D)) (k : α) (d : D) : (putA es k d).map (·.1) = if k ∈ es.map (·.1) then es.map (·.1) else es.map (·.1) ++ [k] := by
  have hany : (es.any fun e => decide (e.1 = k)) = true ↔ k ∈ es.map (·.1) := by
    rw [List.any_eq_true, List.mem_map]
    exact ⟨fun ⟨e, h1, h2⟩ => ⟨e, h1, of_decide_eq_true h2⟩, fun ⟨e, h1, h2⟩ => ⟨e, h1, decide_eq_true h2⟩⟩
  unfold putA
  by_cases h : (es.any fun e => decide (e.1 = k)) = true
  · rw [if_pos h, if_pos (hany.mp h), List.map_map]
    exact List.map_congr_left fun e _ => by
      by_cases q : e.1 = k
      · simp [q]
      · simp [q]
  · rw [if_neg h, if_neg (fun z => h (hany.mpr z)), List.map_append]
    rfl
theorem putA_nodup {α : Type} [DecidableEq α] {es : List (α × D)} {k : α} {d : D} (h : (es.map (·.1)).Nodup) : ((putA es k d).map (·.1)).Nodup := by
  rw [putA_keys]
  by_cases q : k ∈ es.map (·.1)
  · rw [if_pos q]; exact h
  · rw [if_neg q]
    refine List.nodup_append.mpr ⟨h, by simp, fun a ha b hb e => ?_⟩
    rcases List.mem_singleton.mp hb with rfl
    exact q (e ▸ ha)
theorem putA_mem {α : Type} [DecidableEq α] {es : List (α × D)} {k : α} {d : D} (a : α) : a ∈ (putA es k d).map (·.1) ↔ a ∈ es.map (·.1) ∨ a = k := by
  rw [putA_keys]
  by_cases q : k ∈ es.map (·.1)
  · rw [if_pos q]
    exact ⟨.inl, fun h => by rcases h with h | h; exact h; rw [h]; exact q⟩
  · rw [if_neg q, List.mem_append, List.mem_singleton]
theorem putA_le {α : Type} [DecidableEq α] (es : List (α × D)) (k : α) (d : D) : (putA es k d).length ≤ es.length + 1 := by
  unfold putA
  split
  · rw [List.length_map]; omega
  · rw [List.length_append, List.length_cons, List.length_nil]; omega
end Lw

/-! things counted in a dict -/
namespace Lw
open PySem PySem.Spec PyProof.Rows L2 DlP Dl
section
variable {α : Type} [DecidableEq α]
def valN (es : List (α × Nat)) (k : α) : Nat := ((es.find? fun e => decide (e.1 = k)).map (·.2)).getD 0
def bump (es : List (α × Nat)) (k : α) : List (α × Nat) :=
  if (es.any fun e => decide (e.1 = k)) = true then es.map (fun e => if e.1 = k then (e.1, valN es k + 1) else e) else es ++ [(k, 1)]
def toD (es : List (α × Nat)) : List (α × D) := es.map fun e => (e.1, PyData.int (e.2 : Nat))
def cnt (l : List α) (k : α) : Nat := (l.filter fun x => decide (x = k)).length
theorem valN_none {es : List (α × Nat)} {k : α} (h : (es.any fun e => decide (e.1 = k)) = false) : valN es k = 0 := by
  unfold valN
  have : es.find? (fun e => decide (e.1 = k)) = none := by
    rw [List.find?_eq_none]
    intro x hx hk
    rw [List.any_eq_false] at h
    exact h x hx hk
  rw [this]; rfl
theorem valA_toD (es : List (α × Nat)) (k : α) : (valA (toD es) k).getD (.int 0) = .int (valN es k : Nat) := by
  unfold valA toD valN
  induction es with
  | nil => rfl
  | cons e es ih =>
    rw [List.map_cons, List.find?_cons, List.find?_cons]
    by_cases h : e.1 = k
    · simp [h]
    · simp only [h, decide_false]; exact ih
theorem any_toD (es : List (α × Nat)) (k : α) : ((toD es).any fun e => decide (e.1 = k)) = es.any fun e => decide (e.1 = k) := by
  unfold toD
  rw [List.any_map]
  rfl
theorem putA_toD (es : List (α × Nat)) (k : α) : putA (toD es) k (.int ((valN es k + 1 : Nat) : Int)) = toD (bump es k) := by
  unfold putA bump
  rw [any_toD]
  split
  · unfold toD
    rw [List.map_map, List.map_map]
    refine List.map_congr_left fun e _ => ?_
    by_cases h : e.1 = k
    · simp [h]
    · simp [h]
  · rename_i h
    rw [valN_none (eq_false_of_ne_true h)]
    unfold toD
    rw [List.map_append]
    rfl
def tally (l : List α) : List (α × Nat) := l.foldl bump []
theorem tally_snoc (l : List α) (k : α) : tally (l ++ [k]) = bump (tally l) k := by unfold tally; rw [List.foldl_append]; rfl
theorem bump_keys (es : List (α × Nat)) (k : α) : (bump es k).map (·.1) = if k ∈ es.map (·.1) then es.map (·.1) else es.map (·.1) ++ [k] := by
  have h := putA_keys (toD es) k (.int ((valN es k + 1 : Nat) : Int))
  rw [putA_toD] at h
  have e : ∀ es : List (α × Nat), (toD es).map (·.1) = es.map (·.1) := fun es => by unfold toD; rw [List.map_map]; rfl
  rw [e, e] at h
  exact h
theorem bump_mem (es : List (α × Nat)) (k a : α) : a ∈ (bump es k).map (·.1) ↔ a ∈ es.map (·.1) ∨ a = k := by
  rw [bump_keys]
  by_cases q : k ∈ es.map (·.1)
  · rw [if_pos q]
    exact ⟨.inl, fun h => by rcases h with h | h; exact h; rw [h]; exact q⟩
  · rw [if_neg q, List.mem_append, List.mem_singleton]
theorem find_map_hit {es : List (α × Nat)} {k : α} {n : Nat} (h : (es.any fun e => decide (e.1 = k)) = true) (j : α) :
    valN (es.map fun e => if e.1 = k then (e.1, n) else e) j = if j = k then n else valN es j := by
  induction es with
  | nil => simp at h
  | cons e es ih =>
    unfold valN at ih ⊢
    rw [List.map_cons, List.find?_cons, List.find?_cons]
    by_cases hk : e.1 = k
    · rw [if_pos hk]
      by_cases hj : j = k
      · subst hj; simp [hk]
      · have : ¬ e.1 = j := fun z => hj (z.symm.trans hk)
        simp only [this, decide_false, if_neg hj]
        by_cases ha : (es.any fun e => decide (e.1 = k)) = true
        · have := ih ha; rw [if_neg hj] at this; exact this
        · have ef : es.map (fun e => if e.1 = k then (e.1, n) else e) = es := by
            conv => rhs; rw [← List.map_id es]
            refine List.map_congr_left fun x hx => ?_
            have : ¬ x.1 = k := fun z => ha (List.any_eq_true.mpr ⟨x, hx, decide_eq_true z⟩)
            rw [if_neg this]; rfl
          rw [ef]
    · rw [if_neg hk]
      have ha : (es.any fun e => decide (e.1 = k)) = true := by simpa [hk] using h
      by_cases hj : e.1 = j
      · have : ¬ j = k := fun z => hk (hj.trans z)
        simp [hj, this]
      · simp only [hj, decide_false]
        exact ih ha
theorem valN_bump (es : List (α × Nat)) (k j : α) : valN (bump es k) j = if j = k then valN es k + 1 else valN es j := by
  unfold bump
  split
  · rename_i h; exact find_map_hit h j
  · rename_i h
    have h : (es.any fun e => decide (e.1 = k)) = false := eq_false_of_ne_true h
    have h0 := valN_none h
    rw [h0]
    unfold valN
    rw [List.find?_append]
    by_cases hj : j = k
    · subst hj
      have : es.find? (fun e => decide (e.1 = j)) = none := by
        rw [List.find?_eq_none]; intro x hx hk; rw [List.any_eq_false] at h; exact h x hx hk
      rw [this, if_pos rfl]
      simp [List.find?_cons]
    · rw [if_neg hj]
      have : ¬ k = j := fun z => hj z.symm
      cases es.find? (fun e => decide (e.1 = j)) with
      | none => simp [List.find?_cons, this]
      | some x => rfl
theorem tally_val (l : List α) (k : α) : valN (tally l) k = cnt l k := by
  have key : ∀ (l : List α) (es : List (α × Nat)), valN (l.foldl bump es) k = valN es k + cnt l k := by
    intro l
    induction l with
    | nil => intro es; rfl
    | cons x l ih =>
      intro es
      rw [List.foldl_cons, ih, valN_bump]
      unfold cnt
      rw [List.filter_cons]
      by_cases h : x = k
      · subst h; simp only [decide_true, if_true, List.length_cons]; omega
      · have : ¬ k = x := fun z => h z.symm
        simp only [h, decide_false, if_neg this]; rfl
  rw [show cnt l k = 0 + cnt l k by omega]
  exact key l []
theorem tally_keys (l : List α) : ((tally l).map (·.1)).Nodup ∧ ∀ a, a ∈ (tally l).map (·.1) ↔ a ∈ l := by
  have key : ∀ (l : List α) (es : List (α × Nat)), (es.map (·.1)).Nodup → ((l.foldl bump es).map (·.1)).Nodup ∧ ∀ a, a ∈ (l.foldl bump es).map (·.1) ↔ a ∈ es.map (·.1) ∨ a ∈ l := by
    intro l
    induction l with
    | nil => intro es h; exact ⟨h, fun a => by simp⟩
    | cons x l ih =>
      intro es h
      have hn : ((bump es x).map (·.1)).Nodup := by
        rw [bump_keys]
        by_cases q : x ∈ es.map (·.1)
        · rw [if_pos q]; exact h
        · rw [if_neg q]
          refine List.nodup_append.mpr ⟨h, by simp, fun a ha b hb e => ?_⟩
          rcases List.mem_singleton.mp hb with rfl
          exact q (e ▸ ha)
      obtain ⟨h1, h2⟩ := ih (bump es x) hn
      refine ⟨h1, fun a => ?_⟩
      rw [List.foldl_cons, h2, bump_mem, List.mem_cons, or_assoc]
  obtain ⟨h1, h2⟩ := key l [] .nil
  exact ⟨h1, fun a => by rw [show tally l = l.foldl bump [] from rfl, h2]; simp⟩
theorem valN_at {es : List (α × Nat)} (h : (es.map (·.1)).Nodup) {e : α × Nat} (he : e ∈ es) : valN es e.1 = e.2 := by
  induction es with
  | nil => cases he
  | cons x es ih =>
    rw [List.map_cons, List.nodup_cons] at h
    unfold valN at ih ⊢
    rw [List.find?_cons]
    rcases List.mem_cons.mp he with z | z
    · subst z; simp
    · have : ¬ x.1 = e.1 := fun q => h.1 (q ▸ List.mem_map.mpr ⟨e, z, rfl⟩)
      simp only [this, decide_false]
      exact ih h.2 z
theorem tally_at {l : List α} {e : α × Nat} (he : e ∈ tally l) : e.1 ∈ l ∧ e.2 = cnt l e.1 := by
  obtain ⟨h1, h2⟩ := tally_keys l
  exact ⟨(h2 e.1).mp (List.mem_map.mpr ⟨e, he, rfl⟩), by rw [← tally_val, valN_at h1 he]⟩
theorem tally_of {l : List α} {k : α} (h : k ∈ l) : (k, cnt l k) ∈ tally l := by
  obtain ⟨h1, h2⟩ := tally_keys l
  obtain ⟨e, he, ek⟩ := List.mem_map.mp ((h2 k).mpr h)
  have := (tally_at he).2
  subst ek
  rw [← this]; exact he
theorem bump_le (es : List (α × Nat)) (k : α) : (bump es k).length ≤ es.length + 1 := by
  unfold bump
  split
  · rw [List.length_map]; omega
  · rw [List.length_append, List.length_cons, List.length_nil]; omega
theorem tally_le (l : List α) : (tally l).length ≤ l.length := by
  have key : ∀ (l : List α) (es : List (α × Nat)), (l.foldl bump es).length ≤ es.length + l.length := by
    intro l
    induction l with
    | nil => intro es; simp
    | cons x l ih => intro es; rw [List.foldl_cons, List.length_cons]; have := ih (bump es x); have := bump_le es x; omega
  have := key l []
  unfold tally
  simpa using this
theorem cnt_le (l : List α) (k : α) : cnt l k ≤ l.length := List.length_filter_le _ _
theorem cnt_pos {l : List α} {k : α} (h : k ∈ l) : 0 < cnt l k := List.length_pos_of_mem (List.mem_filter.mpr ⟨h, decide_eq_true rfl⟩)
/-- all of them are counted -/
theorem tally_sum (l : List α) : ((tally l).map (·.2)).sum = l.length := by
  have key : ∀ (l : List α) (es : List (α × Nat)), (es.map (·.1)).Nodup → ((l.foldl bump es).map (·.2)).sum = (es.map (·.2)).sum + l.length := by
    intro l
    induction l with
    | nil => intro es _; simp
    | cons x l ih =>
      intro es h
      have hn : ((bump es x).map (·.1)).Nodup := by
        rw [bump_keys]
        by_cases q : x ∈ es.map (·.1)
        · rw [if_pos q]; exact h
        · rw [if_neg q]
          refine List.nodup_append.mpr ⟨h, by simp, fun a ha b hb e => ?_⟩
          rcases List.mem_singleton.mp hb with rfl
          exact q (e ▸ ha)
      rw [List.foldl_cons, ih _ hn, List.length_cons]
      have : ((bump es x).map (·.2)).sum = (es.map (·.2)).sum + 1 := by
        unfold bump
        split
        · rename_i ha
          have hx : ∀ es : List (α × Nat), (es.map (·.1)).Nodup → (es.any fun e => decide (e.1 = x)) = true → ((es.map fun e => if e.1 = x then (e.1, valN es x + 1) else e).map (·.2)).sum = (es.map (·.2)).sum + 1 := by
            intro es
            have gen : ∀ (n : Nat) (es : List (α × Nat)), (es.map (·.1)).Nodup → (∀ e ∈ es, e.1 = x → e.2 = n) → (es.any fun e => decide (e.1 = x)) = true → ((es.map fun e => if e.1 = x then (e.1, n + 1) else e).map (·.2)).sum = (es.map (·.2)).sum + 1 := by
              intro n es
              induction es with
              | nil => intro _ _ h; simp at h
              | cons e es ih =>
                intro h1 h2 h3
                rw [List.map_cons, List.nodup_cons] at h1
                simp only [List.map_cons, List.sum_cons]
                by_cases hk : e.1 = x
                · have ef : es.map (fun e => if e.1 = x then (e.1, n + 1) else e) = es := by
                    conv => rhs; rw [← List.map_id es]
                    refine List.map_congr_left fun y hy => ?_
                    have : ¬ y.1 = x := fun z => h1.1 (List.mem_map.mpr ⟨y, hy, z.trans hk.symm⟩)
                    rw [if_neg this]; rfl
                  rw [ef, if_pos hk, h2 e (by simp) hk]
                  show n + 1 + _ = n + _ + 1
                  omega
                · rw [if_neg hk]
                  have := ih h1.2 (fun y hy => h2 y (by simp [hy])) (by simpa [hk] using h3)
                  omega
            exact fun h1 h3 => gen (valN es x) es h1 (fun e he ek => by rw [← ek, valN_at h1 he]) h3
          exact hx es h ha
        · rw [List.map_append, List.sum_append]; rfl
      omega
  have := key l [] .nil
  unfold tally
  simpa using this
end
end Lw

/-! what rows tell of all starts: how many answers, how often each -/
namespace Lw
open PySem PySem.Spec PyProof.Rows L2 DlP Dl
/-- the rank of rows -/
def rkT (p : Int) (m : Nat) (A : Tab) : Nat := (stairsF p m (A.map fun r => (false, r))).length
def imgR (p : Int) (A : Tab) (b : Row) : Row := A.map fun r => (dot r b).fmod p
theorem img_cols {p : Int} {m : Nat} {A : Tab} {b : Row} (hp : 0 < p) (hA : ∀ r ∈ A, RowOk p m r) (hb : RowOk p m b) : sumOf p A.length b (colsOf A m) = imgR p A b := by
  have hlen : ∀ r ∈ A, r.length = m := fun r hr => (hA r hr).1
  have so := sumOf_ok (p := p) (m := A.length) hp (figs := b) (lines := colsOf A m) (by rw [cols_len, hb.1]) fun c hc => (cols_ok hp hA c hc).1
  refine row_ext (by rw [so.1.1]; simp [imgR]) fun j hj => ?_
  have hj : j < A.length := by rw [so.1.1] at hj; exact hj
  have h := so.2 j
  rw [colAt_cols hlen hj, dot_comm] at h
  have e : (imgR p A b).getD j 0 = (dot A[j] b).fmod p := by unfold imgR; rw [List.getD_eq_getElem?_getD, List.getElem?_map, List.getElem?_eq_getElem hj]; rfl
  rw [e]
  refine small_dvd ?_ (getD_range2 hp so.1 j) (fmod_lt hp)
  have := Int.dvd_sub h (fmod_dvd p (dot A[j] b))
  rwa [show (sumOf p A.length b (colsOf A m)).getD j 0 - dot A[j] b - ((dot A[j] b).fmod p - dot A[j] b) = (sumOf p A.length b (colsOf A m)).getD j 0 - (dot A[j] b).fmod p by omega] at this
theorem img_num {p m : Nat} (hb : Base p) {A : Tab} (hA : ∀ r ∈ A, RowOk p m r) {keys : List Row} (hn : keys.Nodup) (hk : ∀ k, k ∈ keys ↔ ∃ b ∈ allRows p m, imgR p A b = k) : keys.length = p ^ rkT p m A := by
  have hp := hb.pos
  have r := rank_num (p := p) (n := m) (m := A.length) (rs := colsOf A m) hb (cols_len _ _) (cols_ok (by omega) hA) hn fun k => by
    rw [hk]
    constructor
    · rintro ⟨b, hbm, e⟩; exact ⟨b, hbm, by rw [img_cols (by omega) hA (allRows_ok (by omega) b hbm)]; exact e⟩
    · rintro ⟨b, hbm, e⟩; exact ⟨b, hbm, by rw [← img_cols (by omega) hA (allRows_ok (by omega) b hbm)]; exact e⟩
  rw [rank_cols hb hA] at r
  exact r
theorem rank_le {p m : Nat} (hb : Base p) {A : Tab} (hA : ∀ r ∈ A, RowOk p m r) : rkT p m A ≤ m ∧ rkT p m A ≤ A.length := ⟨(ann_stairs hb hA).1, (ties_rank hb hA).1⟩
theorem sol_count {p m : Nat} (hb : Base p) {A : Tab} (hA : ∀ r ∈ A, RowOk p m r) {s : Row} (hs : RowOk p m s) : ((allRows p m).filter fun b => decide (imgR p A b = imgR p A s)).length = p ^ (m - rkT p m A) := by
  have hp := hb.pos
  have hp0 : (0 : Int) < p := by omega
  have hv : RowOk p A.length (imgR p A s) := ⟨by simp [imgR], fun x hx => by obtain ⟨r, _, rfl⟩ := List.mem_map.mp hx; exact fmod_lt hp0⟩
  have e : ((allRows p m).filter fun b => decide (imgR p A b = imgR p A s)) = (allRows p m).filter (solB p A (imgR p A s)) := rfl
  rw [e, box_len hb hA hv]
  rcases box_main hb hA hv with ⟨_, hz⟩ | ⟨b0, L, e, _⟩
  · have : solB p A (imgR p A s) s = true := decide_eq_true rfl
    rw [hz s hs] at this; cases this
  · rw [e]
    show p ^ (sndR L).length = _
    rw [← hom_len (b0 := b0) (T := sndR L) hb hA hv e, (rank_ok hb hA).2, rank_stairs hb hA]
    rfl
end Lw

namespace Lw
open PySem PySem.Spec PyProof.Rows L2 DlP Dl
/-- n positional ones, then the named ones in the order of is -/
def kwI {α : Type} (n : Nat) (is : List Nat) (us ws : List α) : List α := if us.length = n ∧ ws.length = is.length then us ++ is.filterMap fun i => ws[i]? else []
theorem rpA_pick {K : Fg} {G : Hp} {zs : List V} {es : List D} (rz : RpA K G zs es) : ∀ is : List Nat, RpA K G (is.filterMap fun i => zs[i]?) (is.filterMap fun i => es[i]?)
  | [] => .nil
  | i :: is => by
    rw [List.filterMap_cons, List.filterMap_cons]
    by_cases h : i < zs.length
    · obtain ⟨d, hd, r⟩ := rz.getV (List.getElem?_eq_getElem h)
      rw [List.getElem?_eq_getElem h, hd]
      exact .cons r (rpA_pick rz is)
    · rw [List.getElem?_eq_none (by omega), List.getElem?_eq_none (by rw [← rz.length]; omega)]
      exact rpA_pick rz is
theorem kwI_rel {K : Fg} (n : Nat) (is : List Nat) (G : Hp) (vs zs : List V) (ds es : List D) (r : RpA K G vs ds) (rz : RpA K G zs es) : RpA K G (kwI n is vs zs) (kwI n is ds es) := by
  unfold kwI
  rw [r.length, rz.length]
  split
  · exact r.append (rpA_pick rz is)
  · exact .nil
theorem vals_pick {zs : List V} {es : List Value} (rz : Vals zs es) : ∀ is : List Nat, Vals (is.filterMap fun i => zs[i]?) (is.filterMap fun i => es[i]?)
  | [] => .nil
  | i :: is => by
    rw [List.filterMap_cons, List.filterMap_cons]
    by_cases h : i < zs.length
    · obtain ⟨d, hd, r⟩ := rz.get (List.getElem?_eq_getElem h)
      rw [List.getElem?_eq_getElem h, hd]
      exact .cons r (vals_pick rz is)
    · rw [List.getElem?_eq_none (by omega), List.getElem?_eq_none (by rw [← rz.length]; omega)]
      exact vals_pick rz is
theorem kwi {fd : FuncData} {K : Fg} {ps ks : List Str} {n : Nat} {is : List Nat} (h0 : ps.length ≠ 0) (h : ∀ (s : Shared) (us ws : List Value), us.length = n → ws.length = is.length → BindsTo s fd ⟨us, ks.zip ws⟩ (ps.zip (us ++ is.filterMap fun i => ws[i]?))) : KBinds K fd ps ks (kwI n is) (kwI n is) :=
  ⟨fun s us ws _ hl => by
    unfold kwI at hl ⊢
    by_cases c : us.length = n ∧ ws.length = is.length
    · rw [if_pos c]; exact h s us ws c.1 c.2
    · rw [if_neg c] at hl; exact absurd hl.symm h0, fun {vs us zs ws} r rz => by
    unfold kwI
    rw [r.length, rz.length]
    split
    · exact r.append (vals_pick rz is)
    · exact .nil⟩
theorem rel_nat {n : Nat} : ∀ {ds es : List D}, es.length = ds.length → (∀ (i : Nat) (d e : D), ds[i]? = some d → es[i]? = some e → ∃ k : Nat, e = .int k ∧ k ≤ n) →
    ∃ ks : List Nat, es = ks.map (fun (k : Nat) => PyData.int k) ∧ ks.length = ds.length ∧ ∀ k ∈ ks, k ≤ n
  | [], [], _, _ => ⟨[], rfl, rfl, fun _ h => nomatch h⟩
  | [], _ :: _, h, _ => by cases h
  | _ :: _, [], h, _ => by cases h
  | q :: t, e :: es, h, k => by
    obtain ⟨r, e1, e2⟩ := k 0 q e rfl rfl
    obtain ⟨c, h1, h2, h3⟩ := rel_nat (ds := t) (es := es) (by simpa using h) fun i d e hd he => k (i + 1) d e (by simpa using hd) (by simpa using he)
    subst e1
    subst h1
    exact ⟨r :: c, rfl, by simp [h2], fun r' hr' => by
      rcases List.mem_cons.mp hr' with z | z
      · rw [z]; exact e2
      · exact h3 r' z⟩
end Lw

namespace Dl
open PySem PySem.Spec PyProof.Rows L2 DlP
theorem pe_revLK {X : Cx} {K : Fg} (hk : X.K = K) {e : Expr} {te : TE} {k : Nat} {p1 p2 p3 pos : Pos} (he : PE X e te) : PE X (.Subscript e (.Slice none none (some (.UnaryOp .USub (.Constant (.int 1) k p1) p2)) p3) pos) (tRevL K te) := by subst hk; exact pe_revL he
theorem RpA.reverse {K : Fg} {G : Hp} : ∀ {vs : List V} {ds : List D}, RpA K G vs ds → RpA K G vs.reverse ds.reverse
  | _, _, .nil => .nil
  | _, _, .cons r t => by rw [List.reverse_cons, List.reverse_cons]; exact (RpA.reverse t).snoc r
theorem wf_revL {K : Fg} {sa : Option Addr} {δ : List Cell} {te : TE} {P : List D → Prop} (h : WE K sa te δ fun d => ∃ ds, d = .list ds ∧ P ds.reverse) : WF K sa (tRevL K te) δ P := fun m H0 G0 E up σ H A Q q =>
  h m H0 G0 E up σ H A _ fun v d H1 ⟨ds, e, p⟩ ⟨G, a⟩ => by
    subst e
    obtain ⟨b, xs, ev, hb, rx⟩ := a.ex.2.lst_inv
    exact ⟨b, xs, ev, .inl (.inl (a.gd.gh _ _ hb)), fun l hl => wf_new (P := P) up ⟨G, a.same ⟨a.ex.1, RpA.reverse rx⟩⟩ p q hl⟩
end Dl

/-! `xs[i] += e`, xs one's own -/
namespace Dl
open PySem PySem.Spec PyProof.Rows L2
def rGetL (K : PySem.W.Frag) : V → V → Hp → VK → Prop := fun o i H Q => ∃ p xs k v, o = .ref p ∧ i = .int k ∧ 0 ≤ k ∧ SqL K H p xs ∧ xs[k.toNat]? = some v ∧ Q v H
theorem get_list {X : Cx} : PGet X (rGetL X.K) := by
  intro pins s σ H o i ov iv Q I ro ri h
  obtain ⟨p, xs, k, z, rfl, rfl, h0, hq, he, q⟩ := h
  cases ro
  obtain ⟨t, rfl⟩ := ri
  obtain ⟨its, r, pl, hz⟩ := I.list hq
  obtain ⟨w, ew, rw'⟩ := r.get he
  have hl := r.length
  have hn := line63
  have hk : k.toNat < xs.length := (List.getElem?_eq_some_iff.mp he).1
  exact wpAny_getItem_list pl.isList h0 (by omega) (by simpa using ew) ⟨z, H, I, rw', q⟩
theorem get_listK {X : Cx} {K : PySem.W.Frag} (hk : X.K = K) : PGet X (rGetL K) := by subst hk; exact get_list
section
variable {K : Fg} {sa : Option Addr} {δ : List Cell} {nx : List Cell → Prop} {rt : D → Prop} {bk ct : List Cell → Prop} {ti te : TE}
theorem ws_augOwn {i : Nat} {ds : List D} (hd : δ[i]? = some (.own ds)) (h : WE K sa ti δ fun e => ∃ (k : Nat) (a : Int), e = .int k ∧ ds[k]? = some (.int a) ∧ WE K sa te δ fun d => ∃ b : Int, d = .int b ∧ nx (δ.set i (.own (ds.set k (.int (a + b)))))) :
    WS K sa (tAugS (tVar i) ti te (rGetL K) (ipI fun x y => x + y) rSetL) ⟨nx, rt, bk, ct⟩ δ := fun H0 G0 E up σ H Dn ⟨G, A⟩ R => by
  obtain ⟨o, e, p, vs, ep, hp, gp, ne, r, hm⟩ := A.slot hd
  subst ep
  refine ⟨_, e, h true H0 G0 E up σ H ⟨G, A⟩ _ fun w f H1 ⟨k, a, ef, ha, we⟩ ⟨G1, a1⟩ => ?_⟩
  subst ef
  have ew := a1.ex.2.int_inv
  subst ew
  obtain ⟨o1, e1, p1, vs1, ep1, hp1, gp1, ne1, r1, hm1⟩ := a1.slot hd
  rw [e] at e1; cases e1; cases ep1
  have hk : k < ds.length := (List.getElem?_eq_some_iff.mp ha).1
  obtain ⟨z, hz, rz⟩ := r1.get ha
  have ez := rz.int_inv
  subst ez
  refine ⟨p, vs1, k, _, rfl, rfl, by omega, .inl (.inl hp1), by rw [Int.toNat_natCast]; exact hz, ?_⟩
  refine we true H0 G0 _ (up_and up up_rp) σ H1 ⟨G1, a1⟩ _ fun y d H2 ⟨b, ed, pp⟩ ⟨G2, a2⟩ => ?_
  subst ed
  have ey := a2.ex.2.int_inv
  subst ey
  refine ⟨a, b, rfl, rfl, ?_⟩
  obtain ⟨o2, e2, p2, vs2, ep2, hp2, gp2, ne2, r2, hm2⟩ := a2.slot hd
  rw [e] at e2; cases e2; cases ep2
  exact ⟨p, vs2, k, k, rfl, rfl, hp2, by rw [r2.length]; unfold ixN; simp [hk], R.nx _ _ _ pp ⟨G2, (a2.same (E' := E) a2.ex.1.1).mut hd e (RpA.set (.int _) k r2)⟩⟩
end
section
variable {K : Fg} {sa : Option Addr} {δ : List Cell} {P : D → Prop} {ti : TE}
theorem we_ixOwn {i : Nat} {ds : List D} (hd : δ[i]? = some (.own ds)) (h : WE K sa ti δ fun e => ∃ (k : Nat) (d : D), e = .int k ∧ ds[k]? = some d ∧ P d) : WE K sa (tOp (rIx K) (tVar i) ti) δ P := fun m H0 G0 E up σ H ⟨G, A⟩ Q q => by
  obtain ⟨o, e, p, vs, ep, hp, gp, ne, r, hm⟩ := A.slot hd
  subst ep
  refine ⟨_, e, h m H0 G0 E up σ H ⟨G, A⟩ _ fun w f H1 ⟨k, d, ef, ha, pp⟩ ⟨G1, a1⟩ => ?_⟩
  subst ef
  have ew := a1.ex.2.int_inv
  subst ew
  obtain ⟨o1, e1, p1, vs1, ep1, hp1, gp1, ne1, r1, hm1⟩ := a1.slot hd
  rw [e] at e1; cases e1; cases ep1
  obtain ⟨z, hz, rz⟩ := r1.get ha
  refine .inl ⟨p, vs1, k, z, rfl, rfl, .inl (.inl hp1), ?_, q z d H1 pp ⟨G1, a1.same ⟨a1.ex.1, rz⟩⟩⟩
  exact atI_nat hz
end
end Dl

/-! defs as values; a display of one pair -/
namespace L2
open PySem PySem.Spec PyProof.Rows
def tNOne (tk tv : TE) : TE := fun σ H Q => ∀ p, H p = none → tk σ (upd H p (rawN p nObj [])) fun y H1 => tv σ H1 fun v H2 =>
  ∃ b k o, y = .ref b ∧ H2 p = some (rawN p o []) ∧ KyV H2 k (.ref b) ∧ goodK k ∧ ∀ o', Q (.ref p) (upd H2 p (rawN p o' [(k, b, v)]))
section
variable {X : Cx} {ke ve : Expr} {pos : Pos} {tk tv : TE}
theorem pe_none1 (hu : X.A.units + 64 < cLine) (hk : PE X ke tk) (hv : PE X ve tv) : PE X (.Dict [some ke] [ve] pos) (tNOne tk tv) := by
  refine ⟨fun pins s σ H Q I q => ?_⟩
  have hn := I.hok.fresh (Nat.le_refl s.heap.objs.size)
  have I1 := I.laid (a := s.heap.objs.size) (o := rawN s.heap.objs.size nObj []) (h' := s.heap.push nObj) (t' := s.toks) (fun _ _ e => Heap.get?_push_of_some _ e) (Nat.le_refl _)
    (ok_rawN ⟨Nat.zero_le _, beq_eq_false_iff_ne.mpr (Ne.symm (Nat.ne_of_lt I.big)), fun _ hx => (nomatch hx), [], .nil, #[], 0, Heap.get?_push_size _ rfl, ⟨rfl, rfl, rfl⟩, rfl, fun _ _ => rfl, List.nodup_nil⟩)
  rw [arm_eval_Dict, zip_pairTrees [some ke] [ve] X.env pos rfl rfl, dictDisplay_pairs _ (fun z => by cases z) (by rw [pairTrees_length _ _ _ _ rfl rfl]; exact (show 1 < 17 by decide))]
  refine wpAny_bind (wpAny_standAt (wpAny_bind (wpAny_subDictH (knd := nestedKind X.prog X.w) (by show X.A.units + 8 < cLine; omega) (by rw [pairTrees_length _ _ _ _ rfl rfl]; exact (show 1 ≤ 15 by decide)) ?_)))
  refine pairTrees_cons_walk (thn (hk.run pins _ σ _ _ I1 (q _ hn)) fun u s1 ⟨y, H1, I2, ry, q1⟩ => thn (hv.run pins s1 σ H1 _ I2 q1) fun r s2 ⟨v, H2, I3, rv, b, k, o, ey, hp, hky, g, fin⟩ => pairTrees_nil_walk ?_)
  subst ey
  obtain rfl : u = Value.ref b := ry
  obtain ⟨z, hd, gs, xs, rel, dd⟩ := n_of I3.hok hp (fun x hx => nomatch hx)
  cases rel
  refine ⟨[(k, b, r)], ⟨rfl, rfl, n_key I3 hky g, trivial⟩, dd, fun h' tk' dd' hs => wpAny_pure ?_⟩
  have hq : ∃ q, h'.get? s.heap.objs.size = some q := let ⟨q, _, _, hq, _⟩ := dd'; ⟨q, hq⟩
  obtain ⟨o', hr⟩ := n_raw (kvs := [(k, b, v)]) (by rw [sizeLine_eq]; simp) hd (fun x hx => by cases List.mem_singleton.mp hx; exact g) (.cons ⟨rfl, rfl, rv⟩ .nil) dd'
  exact ⟨.ref s.heap.objs.size, _, d_write I3 (by rw [hp]; exact True.intro) hs hq (ok_rawN hr), rfl, fin o'⟩
end
end L2
namespace Dl
open PySem PySem.Spec PyProof.Rows L2 DlP
/-- the def at f -/
def fnR (f : Addr) : Res where
  ok _ _ _ v := v = .ref f
  ft _ _ _ := False
  lv _ _ _ _ _ _ h := h.elim
  mv _ _ _ _ _ _ h _ _ := ⟨h, fun _ f => f⟩
section
variable {X : Cx} {CX : CXT} {k k2 : Nat} {f f2 : Addr} {fd fd2 : FuncData} {ps ps2 : List Str} {sp sp2 : Sp} {dvs : List V} {ds : List Value} {E : XK} {x : Str} {p pos : Pos} {e : Expr} {es : List Expr} {t : TA} {i : Nat}
/-- x(e, ..), x a name of the def that holds the def at f -/
def tCallV (i : Nat) (f : Addr) (tc : TE) : TE := fun σ H Q => σ[i]? = some (some (.ref f)) ∧ tc σ H Q
theorem pe_callV (F : FnG X.prog X.w X.K X.mg X.base CX k f fd ps sp) (hr : Room k X.A) (hgd : X.A.guards = some []) (hk : PySem.W.keepIn X.K (.ref f) = true) (hb : Binds X.K fd ps ds) (hd : Vals dvs ds) (hx : Passes CX X E)
    (hN : X.N[i]? = some x) (hv : Vis X.env.scope x)
    (ha : PA X (e :: es) t) (hdb : (x == ("__debug__" : Str)) = false := by decide) (hcd : (x == ("__classdict__" : Str)) = false := by decide) (he : starEach (e :: es) X.env = (false, eval e X.env) :: starEach es X.env := by rfl) (hpl : (backTo pos (starEach es X.env)).any (·.1) = false := by rfl) :
    PE X (.Call (.Name x p) (e :: es) [] pos) (tCallV i f (tCall sp dvs E t)) := by
  refine ⟨fun pins s σ H Q I ⟨h0, h⟩ => ?_⟩
  refine wpAny_Call_Name_kw (thn ((pe_var (pos := p) (i := i) hN hv hdb hcd).run pins s σ H (fun v H1 => v = .ref f ∧ H1 = H) I ⟨.ref f, h0, rfl, rfl⟩) fun u s1 ⟨v, H1, I1, r1, q1⟩ => ?_)
  obtain ⟨ev, eH⟩ := q1
  subst ev
  subst eH
  obtain rfl : u = Value.ref f := r1
  refine PySem.W.callWith_K (h₀ := X.base) I1.ok.mod.kin hk (thn (ha.run pos pins s1 σ H1 _ I1 h) fun us s2 ⟨vs, H2, I2, r, q⟩ => ⟨I2.kIn, ?_⟩) he hpl
  exact run_fnG F hr hgd hb hd hx I2 r q
/-- .. one of two -/
theorem pe_orE {e : Expr} {t1 t2 : TE} (h1 : PE X e t1) (h2 : PE X e t2) : PE X e (fun σ H Q => t1 σ H Q ∨ t2 σ H Q) := ⟨fun pins s σ H Q I h => h.elim (h1.run pins s σ H Q I) (h2.run pins s σ H Q I)⟩
end
section
variable {K : Fg} {sa : Option Addr} {δ : List Cell} {ta tb te tk tv : TE} {t : TA} {P : D → Prop} {α : Type}
theorem we_orl (h : WE K sa ta δ P) : WE K sa (fun σ H Q => ta σ H Q ∨ tb σ H Q) δ P := fun m H0 G0 E up σ H A Q q => .inl (h m H0 G0 E up σ H A Q q)
theorem we_orr (h : WE K sa tb δ P) : WE K sa (fun σ H Q => ta σ H Q ∨ tb σ H Q) δ P := fun m H0 G0 E up σ H A Q q => .inr (h m H0 G0 E up σ H A Q q)
theorem we_callV {i : Nat} {f : Addr} (hi : δ[i]? = some (.res (fnR f))) (h : WE K sa te δ P) : WE K sa (tCallV i f te) δ P := fun m H0 G0 E up σ H ⟨G, A⟩ Q q => by
  obtain ⟨o, e, v, ev, hv, _⟩ := A.slot hi
  subst ev
  cases hv
  exact ⟨e, h m H0 G0 E up σ H ⟨G, A⟩ Q q⟩
/-- data, and a def behind -/
def spAF (K : Fg) (fa : α → Addr) (enc : α → D) (pre : α → Prop) (post : α → D → Prop) : Sp := fun vs H Q _ => ∃ G a v, vs = [v, .ref (fa a)] ∧ Same G H ∧ Rp K G v (enc a) ∧ pre a ∧
  ∀ H' G' v d, Same H H' → Same G G' → Same G' H' → (∀ b, H b ≠ none → G b = none → G' b = none) → Rp K G' v d → post a d → Q v H'
variable {fa : α → Addr} {enc : α → D} {pre : α → Prop} {post : α → D → Prop}
theorem we_callAF {E0 : XK} {f : Addr} (h : WE K sa te δ fun d => ∃ a, d = enc a ∧ fa a = f ∧ pre a ∧ ∀ d', post a d' → P d') : WE K sa (tCall (spAF K fa enc pre post) [] E0 (tCons te (tCons (tC (.ref f)) tNil))) δ P := fun m H0 G0 E up σ H A Q q =>
  h m H0 G0 E up σ H A _ fun v d H1 ⟨a, e, ef, p, k⟩ ⟨G, A⟩ => by
    subst e
    subst ef
    exact ⟨G, a, v, rfl, A.gd.gh, A.ex.2, p, fun H' G' v d s1 s2 s3 fr r hp => q v d H' (k d hp) ⟨G', A.grow s2 s3 fr (.of s1) (fun z ez => let ⟨c, s, n, e⟩ := (A.gd.sp z ez).1; ⟨c, s, n, s1 _ _ e⟩) ⟨up _ _ s2 A.ex.1, r⟩⟩⟩
end
theorem no_cells {K : Fg} {G H : Hp} {m : Bool} {sa : Option Addr} {d : D} {f : Addr} {v : V} (r : Rp K G v d) (n : Nat) : ∀ (i : Nat) (c : Cell) (o : Option V), (.dat d :: .res (fnR f) :: List.replicate n Cell.no)[i]? = some c → (some v :: some (.ref f) :: List.replicate n none)[i]? = some o → CellOk K m sa H G H o c ∧ ∀ H b, ¬ foot H o c b := fun i c o h1 h2 => by
  match i with
  | 0 => cases h1; cases h2; exact ⟨⟨v, rfl, r⟩, fun _ _ f => f⟩
  | 1 => cases h1; cases h2; exact ⟨⟨_, rfl, rfl, fun _ f => f.elim⟩, fun _ _ ⟨_, _, f⟩ => f⟩
  | i + 2 =>
    have h1 : (List.replicate n Cell.no)[i]? = some c := h1
    rw [List.getElem?_replicate] at h1
    split at h1
    · cases h1; exact ⟨trivial, fun _ _ f => f⟩
    · cases h1
theorem ok_fnAF {P : Program} {w : World} {K : Fg} {mg : Str → Option Value} {base : Heap} {α : Type} {fa : α → Addr} {enc : α → D} {pre : α → Prop} {post : α → D → Prop} {x qual : Str} {st : Stmt} {f : Addr} {fd : FuncData} {N ps : List Str} {k : Nat} (F : Fun K x qual st f fd) (S : FnScope N ps (defScope st)) (len : ps.length = 2)
    (hb : ∀ (cdv : Value) (A : Around) (outer : List Env) (s : Shared) (H : Hp) (E : XK), Room k (A.deeper (envOfC qual (defScope st) s.heap.objs.size f cdv)) → (A.deeper (envOfC qual (defScope st) s.heap.objs.size f cdv)).guards = some [] →
      ∃ t, PSs (cxOf CX0 P w K mg base N qual (defScope st) f cdv A outer s H E).nox (defBody st) t ∧ ∀ a, pre a → WS K none t ⟨fun _ => post a .none, post a, fun _ => False, fun _ => False⟩ (.dat (enc a) :: .res (fnR (fa a)) :: List.replicate (N.length - 2) Cell.no)) :
    FnG P w K mg base CX0 (k + 1) f fd ps (spAF K fa enc pre post) := by
  refine fun_okG F S (fun vs H Q E h => ?_) (fun cdv A outer s H vs Q E hr hgd h => ?_)
  · obtain ⟨G, a, v, e, _⟩ := h
    rw [e, len]; rfl
  · obtain ⟨G, a, v, e, sm, r, p, q⟩ := h
    subst e
    obtain ⟨t, ht, hw⟩ := hb cdv A outer s H E hr hgd
    refine ⟨t, ht.nox, ?_⟩
    show t _ (some v :: some (.ref (fa a)) :: List.replicate (N.length - 2) none) H
    refine hw a p H G (fun _ => True) up_true _ H _ ⟨G, ⟨Same.refl _, sm, fun _ _ h => h, .refl _ _, fun _ e => nomatch e⟩, by simp, fun i c o h1 h2 => (no_cells r _ i c o h1 h2).1, fun i j c c' o o' hij h1 h2 h3 h4 b f1 f2 => (no_cells (sa := none) (m := false) (H := H) r _ i c o h1 h3).2 _ _ f1, trivial⟩ ⟨?_, fun _ _ _ h => h.elim, fun _ _ _ h => h.elim, ?_⟩
    · intro δ σ H' pn ⟨G', a⟩
      exact q H' G' .non .none (fun b o e => a.gd.hh b o (fun z => nomatch z) e) a.gd.g0 a.gd.gh a.gd.fr .non pn
    · intro δ v d σ H' pr ⟨G', a⟩
      exact q H' G' v d (fun b o e => a.gd.hh b o (fun z => nomatch z) e) a.gd.g0 a.gd.gh a.gd.fr a.ex.2 pr
section
variable {α : Type} [DecidableEq α] {κ : KeyE α}
variable {K : Fg} {sa : Option Addr} {δ : List Cell} {tk tv : TE} {P : D → Prop}
/-- {k: v} as data -/
theorem we_none1 (κ : KeyE α) (h : WE K sa tk δ fun d1 => ∃ a, d1 = κ.enc a ∧ WE K sa tv δ fun d2 => P (dixA κ [(a, d2)])) : WE K sa (tNOne tk tv) δ P := fun m H0 G0 E up σ H ⟨G, A⟩ Q q => fun p hp => by
  obtain ⟨gp, h0, hs⟩ := A.gnone hp
  have A1 := A.beside (o := rawN p nObj []) hp
  refine h false _ G E up σ _ ⟨G, A1.base⟩ _ fun y d1 H1 ⟨a, e1, h2⟩ ⟨G1, B1⟩ => ?_
  subst e1
  refine h2 false _ G _ (up_and up up_rp) σ H1 ⟨G1, B1⟩ _ fun v d2 H2 pd ⟨G2, B2⟩ => ?_
  have hp2 : H2 p = some (rawN p nObj []) := B2.gd.hh p _ hs upd_same
  have gp2 : G2 p = none := B2.gd.fr p (by rw [upd_same]; simp) gp
  have hky := Rp.ky (κ.kf a) (κ.good a).1 (by rw [κ.data]; exact B2.ex.1.2)
  obtain ⟨b, ey⟩ := ky_ref hky
  subst ey
  refine ⟨b, κ.kf a, _, rfl, hp2, hky.mono B2.gd.gh, κ.good a, fun o' => ?_⟩
  have C := A1.back B2
  have lone : Lone H2 δ σ p := A1.lone_ex (A.lone_upd hp) B2.gd.hh
  have C2 := C.poke (o := rawN p o' [(κ.kf a, b, v)]) gp2 h0 hs lone
  have lone2 : Lone (upd H2 p (rawN p o' [(κ.kf a, b, v)])) δ σ p := fun j c o hj ho f => by
    have mv := cell_move (H' := upd H2 p (rawN p o' [(κ.kf a, b, v)])) (C.cell j c o hj ho) (Same.refl _) fun x fx => by
      refine ⟨upd_ne fun z => ?_, (foot_live (C.cell j c o hj ho) fx).2.1⟩
      subst z
      exact lone j c o hj ho fx
    exact lone j c o hj ho (mv.2 p f)
  have s1 : Same G2 (upd G2 p (rawN p o' [(κ.kf a, b, v)])) := fun x u q => by rw [upd_ne (ne_of_none q gp2)]; exact q
  have en : EnR K (upd G2 p (rawN p o' [(κ.kf a, b, v)])) κ [(κ.kf a, b, v)] [(a, d2)] := .cons (B2.ex.1.2.mono s1) (B2.ex.2.mono s1) .nil
  refine q _ _ _ pd ⟨_, C2.reground s1 (fun x u qx => ?_) (fun x h1 h2 => ?_) (C2.gd.g0.trans s1) (fun x h1 h2 => ?_) (fun z ez => (C2.gd.sp z ez).2.2) ⟨up _ _ s1 B2.ex.1.1, .dix upd_same en.toE⟩⟩
  · by_cases hx : x = p
    · subst hx; rw [upd_same] at qx ⊢; exact qx
    · rw [upd_ne hx] at qx ⊢; exact B2.gd.gh x u qx
  · by_cases hx : x = p
    · subst hx; exact lone2
    · rw [upd_ne hx] at h1; exact absurd h2 h1
  · by_cases hx : x = p
    · subst hx; exact absurd h0 h1
    · rw [upd_ne hx]; exact C2.gd.fr x h1 h2
end
end Dl

namespace Dl
open PySem PySem.Spec PyProof.Rows L2 DlP
section
variable {K : Fg} {sa : Option Addr} {δ : List Cell} {te : TE} {tt : TT} {α : Type}
theorem fm_filterA {enc f : α → D} {t : α → Bool} {as : List α} {es : List D} (h : FM (fun d o => ∃ a ∈ as, d = enc a ∧ o = if t a = true then some (f a) else none) (as.map enc) es) (hi : ∀ a ∈ as, ∀ b ∈ as, enc a = enc b → a = b) : es = (as.filter t).map f := by
  have last : ∀ {bs : List α} {ds : List D} {d : D}, ds ++ [d] = bs.map enc → ∃ bs' b, bs = bs' ++ [b] ∧ ds = bs'.map enc ∧ d = enc b := fun {bs ds d} e => by
    have hne : bs ≠ [] := fun z => by subst z; simp at e
    refine ⟨bs.dropLast, bs.getLast hne, (List.dropLast_concat_getLast hne).symm, ?_⟩
    rw [← List.dropLast_concat_getLast hne, List.map_append, List.map_cons, List.map_nil] at e
    obtain ⟨e1, e2⟩ := List.append_inj' e rfl
    exact ⟨e1, by simpa using e2⟩
  have key : ∀ (ds es : List D), FM (fun d o => ∃ a ∈ as, d = enc a ∧ o = if t a = true then some (f a) else none) ds es → ∀ bs : List α, (∀ b ∈ bs, b ∈ as) → ds = bs.map enc → es = (bs.filter t).map f := by
    intro ds es h
    induction h with
    | nil => intro bs _ e; cases bs with | nil => rfl | cons _ _ => cases e
    | @yes d e ds es _ r ih =>
      intro bs hb eb
      obtain ⟨a, ha, rfl, e1⟩ := r
      obtain ⟨bs', b, rfl, e2, e3⟩ := last eb
      have hab := hi a ha b (hb b (by simp)) e3
      subst hab
      rw [ih bs' (fun x hx => hb x (by simp [hx])) e2, List.filter_append, List.map_append]
      split at e1
      · rename_i ht
        cases e1
        simp [ht]
      · cases e1
    | @no d ds es _ r ih =>
      intro bs hb eb
      obtain ⟨a, ha, rfl, e1⟩ := r
      obtain ⟨bs', b, rfl, e2, e3⟩ := last eb
      have hab := hi a ha b (hb b (by simp)) e3
      subst hab
      rw [ih bs' (fun x hx => hb x (by simp [hx])) e2, List.filter_append, List.map_append]
      split at e1
      · cases e1
      · rename_i ht
        simp [ht]
  exact key _ _ h as (fun _ h => h) rfl
theorem wf_filterA {wi : TI} {g : TG} {vs : List Nat} {P : List D → Prop} (enc f : α → D) (t : α → Bool) (h : WJ K sa false wi δ fun ds => ∃ as : List α, ds = as.map enc ∧ as.length ≤ sizeLine ∧ (∀ a ∈ as, WGv K sa vs g (wipeC δ vs) (enc a) fun δ2 => WT K sa tt δ2 fun b => b = t a ∧ (b = true → WE K sa te δ2 fun e => e = f a)) ∧ (∀ a ∈ as, ∀ b ∈ as, enc a = enc b → a = b) ∧ P ((as.filter t).map f)) :
    WF K sa (tLc wi g tt te vs) δ P := by
  refine wf_lc (fun m H0 G0 E up σ H A R q => h m H0 G0 E up σ H A R fun J ds H1 G1 Stay ⟨as, e, hz, hb, hi, p⟩ => ?_)
  subst e
  refine q J (as.map enc) H1 G1 Stay ⟨by rw [List.length_map]; exact hz, fun d o => ∃ a ∈ as, d = enc a ∧ o = if t a = true then some (f a) else none, fun i d hd => ?_, fun es fm => by rw [fm_filterA fm hi]; exact p⟩
  obtain ⟨a, ha, rfl⟩ := get_map hd
  have ha := List.mem_of_getElem? ha
  refine fun m H0 G0 E up σ H v A Q q => hb a ha m H0 G0 E up σ H v A Q fun δ2 σ2 w => q δ2 σ2 (w.imp fun b ⟨e, we⟩ => ⟨fun z => (we z).imp fun e2 he => ⟨a, ha, rfl, by rw [← e, if_pos z, he]⟩, fun z => ⟨a, ha, rfl, by rw [← e, z]; rfl⟩⟩)
end
section
variable {K : Fg} {sa : Option Addr} {δ : List Cell} {P : D → Prop} {ti : TE}
theorem we_ixOwnA {i : Nat} {ds : List D} (hd : δ[i]? = some (.own ds)) (h : WE K sa ti δ fun e => ∃ (k : Int) (d : D), e = .int k ∧ atI ds k = some d ∧ P d) : WE K sa (tOp (rIx K) (tVar i) ti) δ P := fun m H0 G0 E up σ H ⟨G, A⟩ Q q => by
  obtain ⟨o, e, p, vs, ep, hp, gp, ne, r, hm⟩ := A.slot hd
  subst ep
  refine ⟨_, e, h m H0 G0 E up σ H ⟨G, A⟩ _ fun w f H1 ⟨k, d, ef, ha, pp⟩ ⟨G1, a1⟩ => ?_⟩
  subst ef
  have ew := a1.ex.2.int_inv
  subst ew
  obtain ⟨o1, e1, p1, vs1, ep1, hp1, gp1, ne1, r1, hm1⟩ := a1.slot hd
  rw [e] at e1; cases e1; cases ep1
  obtain ⟨z, hz, rz⟩ := atI_rp r1 ha
  exact .inl ⟨p, vs1, k, z, rfl, rfl, .inl (.inl hp1), hz, q z d H1 pp ⟨G1, a1.same ⟨a1.ex.1, rz⟩⟩⟩
theorem atI_end {ds : List D} {d : D} : atI (ds ++ [d]) (-1) = some d := by
  have e : ixN (ds ++ [d]).length (-1) = some ds.length := by
    unfold ixN
    rw [if_neg (by omega), if_pos (by simp; omega)]
    simp
    omega
  unfold atI
  rw [e]
  simp
end
theorem putA_new {α : Type} [DecidableEq α] {es : List (α × D)} {k : α} {d : D} (h : k ∉ es.map (·.1)) : putA es k d = es ++ [(k, d)] := by
  unfold putA
  rw [if_neg]
  intro z
  obtain ⟨e, he, e2⟩ := List.any_eq_true.mp z
  exact h (List.mem_map.mpr ⟨e, he, of_decide_eq_true e2⟩)
theorem valA_some {α : Type} [DecidableEq α] {es : List (α × D)} {k : α} : (valA es k).isSome = decide (k ∈ es.map (·.1)) := by
  unfold valA
  rw [Option.isSome_map, Bool.eq_iff_iff, List.find?_isSome, decide_eq_true_iff, List.mem_map]
  exact ⟨fun ⟨x, h, e⟩ => ⟨x, h, of_decide_eq_true e⟩, fun ⟨x, h, e⟩ => ⟨x, h, decide_eq_true e⟩⟩
end Dl

/-! spans: free rows, each with a place -/
namespace Lw
open PySem PySem.Spec PyProof.Rows L2 DlP Dl
abbrev Spn := List (Nat × Row)
def restF (p : Int) (σ : Spn) (r : Row) : Row := σ.foldl (fun r a => clrR p a.2 a.1 r) r
def fstIx (r : Row) : Option Nat := r.findIdx? fun x => decide (x ≠ 0)
def leadP (p : Int) (c : Nat) (r : Row) : Row := mulF p (invF p (r.getD c 0)) r
def widF (p : Int) (σ : Spn) (r : Row) : Spn := match fstIx (restF p σ r) with | none => σ | some c => σ ++ [(c, leadP p c (restF p σ r))]
def spanF (p : Int) (A : Tab) : Spn := A.foldl (widF p) []
structure SpOk (p : Int) (m : Nat) (σ : Spn) (A : Tab) : Prop where
  ok : ∀ a ∈ σ, a.1 < m ∧ RowOk p m a.2 ∧ a.2.getD a.1 0 = 1
  tri : σ.Pairwise fun a b => b.2.getD a.1 0 = 0
  sp : ∀ u, Comb p m (sndR σ) u ↔ Comb p m A u
theorem fstIx_none {r : Row} (h : fstIx r = none) (j : Nat) : r.getD j 0 = 0 := by
  unfold fstIx at h
  rw [List.findIdx?_eq_none_iff] at h
  by_cases hj : j < r.length
  · have := h r[j] (List.getElem_mem hj)
    rw [List.getD_eq_getElem?_getD, List.getElem?_eq_getElem hj]
    simpa using this
  · rw [List.getD_eq_getElem?_getD, List.getElem?_eq_none (by omega)]; rfl
theorem fstIx_some {r : Row} {c : Nat} (h : fstIx r = some c) : c < r.length ∧ r.getD c 0 ≠ 0 ∧ ∀ j, j < c → r.getD j 0 = 0 := by
  unfold fstIx at h
  rw [List.findIdx?_eq_some_iff_getElem] at h
  obtain ⟨hc, h1, h2⟩ := h
  refine ⟨hc, ?_, fun j hj => ?_⟩
  · rw [List.getD_eq_getElem?_getD, List.getElem?_eq_getElem hc]; simpa using h1
  · have := h2 j hj
    rw [List.getD_eq_getElem?_getD, List.getElem?_eq_getElem (by omega)]
    simpa using this
theorem rest_ok {p : Int} {m : Nat} (hp : 0 < p) : ∀ {σ : Spn} {r : Row}, (∀ a ∈ σ, a.2.length = m) → RowOk p m r → RowOk p m (restF p σ r)
  | [], _, _, h => h
  | a :: σ, r, hσ, h => rest_ok (σ := σ) hp (fun b hb => hσ b (by simp [hb])) (clrR_ok hp (hσ a (by simp)) h)
theorem rest_keep {p : Int} {m j : Nat} (hp : 0 < p) : ∀ {σ : Spn} {r : Row}, (∀ a ∈ σ, a.2.length = m ∧ a.2.getD j 0 = 0) → RowOk p m r → r.getD j 0 = 0 → (restF p σ r).getD j 0 = 0
  | [], _, _, _, h => h
  | a :: σ, r, hσ, h, h0 => rest_keep (σ := σ) hp (fun b hb => hσ b (by simp [hb])) (clrR_ok hp (hσ a (by simp)).1 h) (by rw [clr_keep hp h (hσ a (by simp)).1 (hσ a (by simp)).2]; exact h0)
theorem rest_kill {p : Int} {m : Nat} (hp : 0 < p) : ∀ {σ : Spn} {r : Row}, (∀ a ∈ σ, a.2.length = m ∧ a.2.getD a.1 0 = 1) → (σ.Pairwise fun a b => b.2.getD a.1 0 = 0) → RowOk p m r → ∀ a ∈ σ, (restF p σ r).getD a.1 0 = 0
  | [], _, _, _, _, a, ha => nomatch ha
  | b :: σ, r, hσ, ht, h, a, ha => by
    have hb := hσ b (by simp)
    have ht2 := List.pairwise_cons.mp ht
    rcases List.mem_cons.mp ha with e | e
    · subst e
      exact rest_keep (σ := σ) hp (fun c hc => ⟨(hσ c (by simp [hc])).1, ht2.1 c hc⟩) (clrR_ok hp hb.1 h) (clr_kill hp h hb.1 hb.2)
    · exact rest_kill (σ := σ) hp (fun c hc => hσ c (by simp [hc])) ht2.2 (clrR_ok hp hb.1 h) a e
theorem rest_comb {p : Int} {m : Nat} (hp : 0 < p) {T : Tab} : ∀ {σ : Spn} {r : Row}, (∀ a ∈ σ, a.2.length = m ∧ Comb p m T a.2) → RowOk p m r → (Comb p m T (restF p σ r) ↔ Comb p m T r)
  | [], _, _, _ => Iff.rfl
  | a :: σ, r, hσ, h => by
    have ha := hσ a (by simp)
    have ih := rest_comb (σ := σ) (r := clrR p a.2 a.1 r) hp (fun b hb => hσ b (by simp [hb])) (clrR_ok hp ha.1 h)
    refine ih.trans ?_
    have hd : ∀ j, p ∣ (clrR p a.2 a.1 r).getD j 0 - (r.getD j 0 - r.getD a.1 0 * a.2.getD j 0) := fun j => clrR_dvd (by rw [h.1, ha.1]) j
    constructor
    · intro k
      refine comb_mix (a := 1) (b := r.getD a.1 0) k ha.2 fun j _ => ?_
      have e : 1 * (clrR p a.2 a.1 r).getD j 0 + r.getD a.1 0 * a.2.getD j 0 - r.getD j 0 = (clrR p a.2 a.1 r).getD j 0 - (r.getD j 0 - r.getD a.1 0 * a.2.getD j 0) := by omega
      rw [e]; exact hd j
    · intro k
      refine comb_mix (a := 1) (b := -r.getD a.1 0) k ha.2 fun j _ => ?_
      have e : 1 * r.getD j 0 + -r.getD a.1 0 * a.2.getD j 0 - (clrR p a.2 a.1 r).getD j 0 = -((clrR p a.2 a.1 r).getD j 0 - (r.getD j 0 - r.getD a.1 0 * a.2.getD j 0)) := by rw [Int.neg_mul]; omega
      rw [e]; exact Int.dvd_neg.mpr (hd j)
theorem comb_left {p : Int} {m : Nat} {A B : Tab} {u : Row} (h : Comb p m A u) : Comb p m (A ++ B) u := comb_trans (fun r hr => comb_mem (List.mem_append_left _ hr)) h
theorem comb_right {p : Int} {m : Nat} {A B : Tab} {u : Row} (h : Comb p m B u) : Comb p m (A ++ B) u := comb_trans (fun r hr => comb_mem (List.mem_append_right _ hr)) h
theorem SpOk.lead {p : Int} {m : Nat} {σ : Spn} {A : Tab} (h : SpOk p m σ A) : ∀ a ∈ σ, a.2.length = m ∧ Comb p m A a.2 := fun a ha => ⟨(h.ok a ha).2.1.1, (h.sp _).mp (comb_mem (List.mem_map.mpr ⟨a, ha, rfl⟩))⟩
theorem wid_ok {p : Int} {m : Nat} {σ : Spn} {A : Tab} {r : Row} (hb : Base p) (h : SpOk p m σ A) (hr : RowOk p m r) : SpOk p m (widF p σ r) (A ++ [r]) := by
  have hp := hb.pos
  have hp0 : 0 < p := by omega
  have hro := rest_ok (σ := σ) hp0 (fun a ha => (h.ok a ha).2.1.1) hr
  have hin : Comb p m (A ++ [r]) (restF p σ r) := (rest_comb hp0 (fun a ha => ⟨(h.lead a ha).1, comb_left (h.lead a ha).2⟩) hr).mpr (comb_right (comb_mem (by simp)))
  unfold widF
  cases hf : fstIx (restF p σ r) with
  | none =>
    refine ⟨h.ok, h.tri, fun u => ⟨fun k => comb_left ((h.sp u).mp k), fun k => comb_trans (fun q hq => ?_) k⟩⟩
    rcases List.mem_append.mp hq with z | z
    · exact (h.sp q).mpr (comb_mem z)
    · rw [List.mem_singleton.mp z]
      refine (rest_comb hp0 (fun a ha => ⟨(h.lead a ha).1, comb_mem (List.mem_map.mpr ⟨a, ha, rfl⟩)⟩) hr).mp (comb_zero fun j _ => ?_)
      rw [fstIx_none hf j]; exact Int.dvd_zero p
  | some c =>
    obtain ⟨hc, h1, h2⟩ := fstIx_some hf
    rw [hro.1] at hc
    have hfr := getD_range2 hp0 hro c
    have hi := (invF_ok (p := p) (f := (restF p σ r).getD c 0) hb ⟨by omega, hfr.2⟩).1
    have hn : ∀ j, (leadP p c (restF p σ r)).getD j 0 = (invF p ((restF p σ r).getD c 0) * (restF p σ r).getD j 0).fmod p := fun j => mulF_dvd j
    have hno : RowOk p m (leadP p c (restF p σ r)) := mulF_ok hp0 hro.1
    have hn1 : (leadP p c (restF p σ r)).getD c 0 = 1 := by rw [hn, Int.mul_comm]; exact hi.2.2
    refine ⟨fun a ha => ?_, ?_, fun u => ?_⟩
    · rcases List.mem_append.mp ha with z | z
      · exact h.ok a z
      · rw [List.mem_singleton.mp z]; exact ⟨hc, hno, hn1⟩
    · rw [List.pairwise_append]
      refine ⟨h.tri, List.pairwise_singleton _ _, fun a ha b hb' => ?_⟩
      rw [List.mem_singleton.mp hb', hn, rest_kill hp0 (fun a ha => ⟨(h.ok a ha).2.1.1, (h.ok a ha).2.2⟩) h.tri hr a ha, Int.mul_zero]
      exact Int.zero_fmod p
    · have es : sndR (σ ++ [(c, leadP p c (restF p σ r))]) = sndR σ ++ [leadP p c (restF p σ r)] := by unfold sndR; rw [List.map_append]; rfl
      rw [es]
      have hnA : Comb p m (A ++ [r]) (leadP p c (restF p σ r)) := comb_mix (a := invF p ((restF p σ r).getD c 0)) (b := 0) hin hin fun j _ => by
        rw [hn, Int.zero_mul, Int.add_zero]
        have := fmod_dvd p (invF p ((restF p σ r).getD c 0) * (restF p σ r).getD j 0)
        have e : invF p ((restF p σ r).getD c 0) * (restF p σ r).getD j 0 - (invF p ((restF p σ r).getD c 0) * (restF p σ r).getD j 0).fmod p = -((invF p ((restF p σ r).getD c 0) * (restF p σ r).getD j 0).fmod p - invF p ((restF p σ r).getD c 0) * (restF p σ r).getD j 0) := by omega
        rw [e]; exact Int.dvd_neg.mpr this
      constructor
      · refine comb_trans fun q hq => ?_
        rcases List.mem_append.mp hq with z | z
        · exact comb_left ((h.sp q).mp (comb_mem z))
        · rw [List.mem_singleton.mp z]; exact hnA
      · refine comb_trans fun q hq => ?_
        rcases List.mem_append.mp hq with z | z
        · exact comb_left ((h.sp q).mpr (comb_mem z))
        · rw [List.mem_singleton.mp z]
          refine (rest_comb hp0 (fun a ha => ⟨(h.lead a ha).1, comb_left (comb_mem (List.mem_map.mpr ⟨a, ha, rfl⟩))⟩) hr).mp ?_
          have hl : Comb p m (sndR σ ++ [leadP p c (restF p σ r)]) (leadP p c (restF p σ r)) := comb_right (comb_mem (by simp))
          refine comb_mix (a := (restF p σ r).getD c 0) (b := 0) hl hl fun j _ => ?_
          rw [hn, Int.zero_mul, Int.add_zero]
          obtain ⟨k1, e1⟩ := fmod_dvd p (invF p ((restF p σ r).getD c 0) * (restF p σ r).getD j 0)
          obtain ⟨k2, e2⟩ : p ∣ (restF p σ r).getD c 0 * invF p ((restF p σ r).getD c 0) - 1 := by
            have := fmod_dvd p ((restF p σ r).getD c 0 * invF p ((restF p σ r).getD c 0))
            rw [hi.2.2] at this
            have e : (restF p σ r).getD c 0 * invF p ((restF p σ r).getD c 0) - 1 = -(1 - (restF p σ r).getD c 0 * invF p ((restF p σ r).getD c 0)) := by omega
            rw [e]; exact Int.dvd_neg.mpr this
          generalize (restF p σ r).getD c 0 = f at e1 e2 ⊢
          generalize invF p f = g at e1 e2 ⊢
          generalize (restF p σ r).getD j 0 = x at e1 ⊢
          refine ⟨f * k1 + k2 * x, ?_⟩
          have a1 : (g * x).fmod p = p * k1 + g * x := by omega
          have a2 : f * g = p * k2 + 1 := by omega
          rw [a1, Int.mul_add, ← Int.mul_assoc f g x, a2, Int.add_mul, Int.one_mul, Int.mul_add, ← Int.mul_assoc, ← Int.mul_assoc p k2 x, Int.mul_comm f p, Int.mul_assoc p f k1]
          omega
theorem span_ok {p : Int} {m : Nat} (hb : Base p) : ∀ {A : Tab}, (∀ r ∈ A, RowOk p m r) → SpOk p m (spanF p A) A := fun {A} => by
  have key : ∀ (A B : Tab) (σ : Spn), (∀ r ∈ A, RowOk p m r) → SpOk p m σ B → SpOk p m (A.foldl (widF p) σ) (B ++ A) := by
    intro A
    induction A with
    | nil => intro B σ _ h; rw [List.append_nil]; exact h
    | cons r A ih =>
      intro B σ hA h
      have := ih (B ++ [r]) _ (fun q hq => hA q (by simp [hq])) (wid_ok hb h (hA r (by simp)))
      rw [List.append_assoc] at this
      exact this
  intro hA
  exact key A [] [] hA ⟨fun a ha => (nomatch ha), List.Pairwise.nil, fun u => Iff.rfl⟩
theorem span_dual {p : Int} {m : Nat} : ∀ {L : Spn}, (∀ a ∈ L, a.1 < m ∧ RowOk p m a.2 ∧ a.2.getD a.1 0 = 1) → (L.Pairwise fun a b => b.2.getD a.1 0 = 0) → DualL p m (sndR L) (L.map fun a => unitR m a.1)
  | [], _, _ => .nil
  | a :: L, h, ht => by
    have ha := h a (by simp)
    have ht2 := List.pairwise_cons.mp ht
    refine .cons ha.2.1.1 (by simp [unitR]) ?_ (fun v hv => ?_) (span_dual (fun b hb => h b (by simp [hb])) ht2.2)
    · rw [dot_unit ha.2.1.1 ha.1, ha.2.2]; exact ⟨0, by omega⟩
    · obtain ⟨b, hb, rfl⟩ := sndR_mem hv
      rw [dot_unit (h b (by simp [hb])).2.1.1 ha.1, ht2.1 b hb]
      exact Int.dvd_zero p
theorem ann_comb {p m : Nat} (hp : 0 < p) {A B : Tab} (hA : ∀ r ∈ A, RowOk p m r) (hB : ∀ r ∈ B, RowOk p m r) (h : ∀ u, Comb p m A u ↔ Comb p m B u) : (allRows p m).filter (annB p A) = (allRows p m).filter (annB p B) := List.filter_congr fun b hbm => by
  have hbo := allRows_ok (p := p) hp b hbm
  rw [Bool.eq_iff_iff, annB_iff, annB_iff]
  exact ⟨fun k r hr => comb_ann ((h r).mpr (comb_mem hr)) (fun q hq => (hA q hq).1) (hB r hr).1 hbo.1 k, fun k r hr => comb_ann ((h r).mp (comb_mem hr)) (fun q hq => (hB q hq).1) (hA r hr).1 hbo.1 k⟩
/-- rank is of what rows span -/
theorem rank_comb {p m : Nat} (hb : Base p) {A B : Tab} (hA : ∀ r ∈ A, RowOk p m r) (hB : ∀ r ∈ B, RowOk p m r) (h : ∀ u, Comb p m A u ↔ Comb p m B u) : rkT p m A = rkT p m B := by
  have hp := hb.pos
  have a1 := ann_stairs hb hA
  have a2 := ann_stairs hb hB
  have e := ann_comb (by omega) hA hB h
  rw [e, a2.2] at a1
  have := pow_inj2 (by omega) a1.2
  unfold rkT
  omega
theorem SpOk.rank {p m : Nat} {σ : Spn} {A : Tab} (hb : Base p) (hA : ∀ r ∈ A, RowOk p m r) (h : SpOk p m σ A) : σ.length = rkT p m A := by
  have hp := hb.pos
  have a1 := ann_stairs hb hA
  have hcnt := ann_count (p := p) (by omega) (span_dual h.ok h.tri)
  have e := ann_comb (p := p) (m := m) (by omega) (A := sndR σ) (fun r hr => by obtain ⟨a, ha, rfl⟩ := sndR_mem hr; exact (h.ok a ha).2.1) hA h.sp
  rw [e, a1.2] at hcnt
  have := pow_left (by omega) hcnt
  have e2 := pow_inj2 (by omega) this.2
  have el : (sndR σ).length = σ.length := by simp [sndR]
  unfold rkT
  omega
theorem span_rank {p : Int} {m : Nat} {A : Tab} (hb : Base p) (hA : ∀ r ∈ A, RowOk p m r) : (spanF p A).length = rkT p m A := by
  have hp := hb.pos
  obtain ⟨n, rfl⟩ := Int.eq_ofNat_of_zero_le (show 0 ≤ p by omega)
  exact (span_ok hb hA).rank hb hA
theorem wid_len (p : Int) (σ : Spn) (r : Row) : (widF p σ r).length = σ.length + (if fstIx (restF p σ r) = none then 0 else 1) := by
  unfold widF
  cases fstIx (restF p σ r) with
  | none => simp
  | some c => simp
theorem span_snoc (p : Int) (A : Tab) (r : Row) : spanF p (A ++ [r]) = widF p (spanF p A) r := by unfold spanF; rw [List.foldl_append]; rfl
theorem span_app (p : Int) (A B : Tab) : spanF p (A ++ B) = B.foldl (widF p) (spanF p A) := by unfold spanF; rw [List.foldl_append]
theorem span_le (p : Int) (A : Tab) : ∀ B : Tab, (spanF p (A ++ B)).length ≤ (spanF p A).length + B.length := fun B => by
  rw [span_app]
  generalize spanF p A = σ
  induction B generalizing σ with
  | nil => simp
  | cons r B ih =>
    have := ih (widF p σ r)
    have h2 := wid_len p σ r
    rw [List.foldl_cons, List.length_cons]
    split at h2 <;> omega
theorem span_len (p : Int) (A : Tab) : (spanF p A).length ≤ A.length := by
  have := span_le p [] A
  rw [List.nil_append] at this
  have e : (spanF p []).length = 0 := rfl
  omega
/-- what free rows begin with is free -/
theorem free_front {p : Int} {A B : Tab} (h : (spanF p (A ++ B)).length = (A ++ B).length) : (spanF p A).length = A.length := by
  have h1 := span_le p A B
  have h2 := span_len p A
  rw [List.length_append] at h
  omega
end Lw

/-! the spans within depths, those that are free, and the least depths that are not even -/
namespace Lw
open PySem PySem.Spec PyProof.Rows L2 DlP Dl
def rowsX (ts : List Tab) (ks : List Nat) : Tab := (ts.zip ks).flatMap fun q => q.1.take q.2
def goN (p : Int) : Spn → Tab → Nat
  | _, [] => 0
  | σ, r :: t => if (widF p σ r).length = σ.length then 0 else goN p (widF p σ r) t + 1
def preS (p : Int) (σ : Spn) (t : Tab) (j : Nat) : Spn := (t.take j).foldl (widF p) σ
def cntF (b : Bool) (p : Int) (σ : Spn) (t : Tab) : Nat := if b then goN p σ t else t.length
theorem goN_le (p : Int) : ∀ (t : Tab) (σ : Spn), goN p σ t ≤ t.length
  | [], _ => Nat.le_refl _
  | r :: t, σ => by
    unfold goN
    split
    · omega
    · have := goN_le p t (widF p σ r); simp; omega
theorem cntF_le (b : Bool) (p : Int) (σ : Spn) (t : Tab) : cntF b p σ t ≤ t.length := by
  unfold cntF
  split
  · exact goN_le p t σ
  · exact Nat.le_refl _
theorem wid_two (p : Int) (σ : Spn) (r : Row) : (widF p σ r).length = σ.length ∨ (widF p σ r).length = σ.length + 1 := by
  rw [wid_len]; split <;> omega
theorem pre_le (p : Int) : ∀ (t : Tab) (σ : Spn), (t.foldl (widF p) σ).length ≤ σ.length + t.length
  | [], σ => by simp
  | r :: t, σ => by
    have := pre_le p t (widF p σ r)
    have := wid_two p σ r
    rw [List.foldl_cons, List.length_cons]; omega
theorem goN_iff (p : Int) : ∀ (t : Tab) (σ : Spn) (j : Nat), j ≤ t.length → (j ≤ goN p σ t ↔ (preS p σ t j).length = σ.length + j)
  | t, σ, 0, _ => by unfold preS; simp
  | [], σ, j + 1, h => by simp at h
  | r :: t, σ, j + 1, h => by
    have ih := goN_iff p t (widF p σ r) j (by simpa using h)
    have e : preS p σ (r :: t) (j + 1) = preS p (widF p σ r) t j := rfl
    rw [e]
    unfold goN
    rcases wid_two p σ r with w | w
    · rw [if_pos w]
      have := pre_le p (t.take j) (widF p σ r)
      rw [List.length_take] at this
      unfold preS
      constructor
      · intro z; omega
      · intro z; have : min j t.length ≤ j := Nat.min_le_left _ _; omega
    · rw [if_neg (by omega)]
      constructor
      · intro z; rw [ih.mp (by omega), w]; omega
      · intro z; have := ih.mpr (by rw [z, w]; omega); omega
def evStep (b : Bool) (p : Int) (L : List (List Nat × Spn)) (t : Tab) : List (List Nat × Spn) := L.flatMap fun e => (List.range (cntF b p e.2 t + 1)).map fun j => (e.1 ++ [j], preS p e.2 t j)
def evS (b : Bool) (p : Int) (ts : List Tab) : List (List Nat × Spn) := ts.foldl (evStep b p) [([], [])]
theorem evS_snoc (b : Bool) (p : Int) (ts : List Tab) (t : Tab) : evS b p (ts ++ [t]) = evStep b p (evS b p ts) t := by unfold evS; rw [List.foldl_append]; rfl
theorem rowsX_snoc {ts : List Tab} {ks : List Nat} (h : ks.length = ts.length) (t : Tab) (k : Nat) : rowsX (ts ++ [t]) (ks ++ [k]) = rowsX ts ks ++ t.take k := by
  unfold rowsX
  rw [List.zip_append h.symm, List.flatMap_append]
  simp
theorem snoc_ind {α : Type} {P : List α → Prop} (h0 : P []) (h1 : ∀ l a, P l → P (l ++ [a])) : ∀ l, P l := fun l => by
  have key : ∀ n, ∀ l : List α, l.length = n → P l := by
    intro n
    induction n with
    | zero => intro l h; rw [List.length_eq_zero_iff.mp h]; exact h0
    | succ n ih =>
      intro l h
      have hne : l ≠ [] := fun z => by rw [z] at h; simp at h
      rw [← List.dropLast_concat_getLast hne]
      exact h1 _ _ (ih _ (by rw [List.length_dropLast]; omega))
  exact key _ l rfl
theorem row_last {l : List Nat} {n : Nat} (h : l.length = n + 1) : ∃ q k, l = q ++ [k] ∧ q.length = n := by
  have hne : l ≠ [] := fun z => by rw [z] at h; simp at h
  exact ⟨l.dropLast, l.getLast hne, (List.dropLast_concat_getLast hne).symm, by rw [List.length_dropLast]; omega⟩
theorem evS_at {b : Bool} {p : Int} {d : Nat} (ts : List Tab) : (∀ t ∈ ts, t.length = d) → ∀ e ∈ evS b p ts, e.1.length = ts.length ∧ e.2 = spanF p (rowsX ts e.1) ∧ ∀ k ∈ e.1, k ≤ d := by
  refine snoc_ind (P := fun ts => (∀ t ∈ ts, t.length = d) → ∀ e ∈ evS b p ts, e.1.length = ts.length ∧ e.2 = spanF p (rowsX ts e.1) ∧ ∀ k ∈ e.1, k ≤ d) ?_ ?_ ts
  · intro _ e he
    rcases List.mem_singleton.mp he with rfl
    exact ⟨rfl, rfl, fun k hk => nomatch hk⟩
  · intro ts t ih ht e he
    rw [evS_snoc] at he
    obtain ⟨e0, h0, he⟩ := List.mem_flatMap.mp he
    obtain ⟨j, hj, rfl⟩ := List.mem_map.mp he
    obtain ⟨i1, i2, i3⟩ := ih (fun q hq => ht q (by simp [hq])) e0 h0
    have hj := List.mem_range.mp hj
    have hc := cntF_le b p e0.2 t
    have htl := ht t (by simp)
    refine ⟨by simp [i1], ?_, fun k hk => ?_⟩
    · show preS p e0.2 t j = _
      rw [rowsX_snoc i1, span_app, ← i2]
      rfl
    · rcases List.mem_append.mp hk with z | z
      · exact i3 k z
      · rcases List.mem_singleton.mp z with rfl; omega
theorem ev_free {p : Int} {d : Nat} (ts : List Tab) : (∀ t ∈ ts, t.length = d) → ∀ ks, ks ∈ (evS true p ts).map (·.1) ↔ ks.length = ts.length ∧ (∀ k ∈ ks, k ≤ d) ∧ (spanF p (rowsX ts ks)).length = ks.sum := by
  refine snoc_ind (P := fun ts => (∀ t ∈ ts, t.length = d) → ∀ ks, ks ∈ (evS true p ts).map (·.1) ↔ ks.length = ts.length ∧ (∀ k ∈ ks, k ≤ d) ∧ (spanF p (rowsX ts ks)).length = ks.sum) ?_ ?_ ts
  · intro _ ks
    show ks ∈ [[]] ↔ _
    rw [List.mem_singleton]
    constructor
    · rintro rfl; exact ⟨rfl, fun k hk => (nomatch hk), rfl⟩
    · intro h; exact List.length_eq_zero_iff.mp h.1
  · intro ts t ih ht ks
    have ht0 := fun q (hq : q ∈ ts) => ht q (by simp [hq])
    have htl := ht t (by simp)
    have ih := ih ht0
    rw [evS_snoc]
    constructor
    · intro h
      obtain ⟨e, he, rfl⟩ := List.mem_map.mp h
      obtain ⟨e0, h0, he⟩ := List.mem_flatMap.mp he
      obtain ⟨j, hj, rfl⟩ := List.mem_map.mp he
      obtain ⟨a1, a2, a3⟩ := evS_at (b := true) ts ht0 e0 h0
      obtain ⟨i1, i2, i3⟩ := (ih e0.1).mp (List.mem_map.mpr ⟨e0, h0, rfl⟩)
      have hj := List.mem_range.mp hj
      have hc : cntF true p e0.2 t = goN p e0.2 t := rfl
      have hcl := goN_le p t e0.2
      have hgo := (goN_iff p t e0.2 j (by omega)).mp (by omega)
      dsimp only
      refine ⟨by simp [i1], fun k hk => ?_, ?_⟩
      · rcases List.mem_append.mp hk with z | z
        · exact i2 k z
        · rcases List.mem_singleton.mp z with rfl; omega
      · rw [rowsX_snoc i1, span_app, ← a2, List.sum_append]
        show (preS p e0.2 t j).length = _
        rw [hgo, a2, i3]; simp
    · rintro ⟨h1, h2, h3⟩
      obtain ⟨q, k, rfl, hq⟩ := row_last (n := ts.length) (by rw [h1]; simp)
      have hk := h2 k (by simp)
      have hrl : ∀ (ts : List Tab) (q : List Nat), (∀ t ∈ ts, t.length = d) → q.length = ts.length → (∀ k ∈ q, k ≤ d) → (rowsX ts q).length = q.sum := by
        intro ts
        induction ts with
        | nil => intro q _ hq _; rw [List.length_eq_zero_iff.mp hq]; rfl
        | cons t ts ih2 =>
          intro q h1 h2 h3
          cases q with
          | nil => simp at h2
          | cons k q =>
            have := ih2 q (fun u hu => h1 u (by simp [hu])) (by simpa using h2) fun u hu => h3 u (by simp [hu])
            have hk := h3 k (by simp)
            have htt := h1 t (by simp)
            unfold rowsX at this ⊢
            rw [List.zip_cons_cons, List.flatMap_cons, List.length_append, this, List.length_take, List.sum_cons]
            dsimp only
            omega
      have e1 := hrl ts q ht0 hq fun u hu => h2 u (by simp [hu])
      rw [rowsX_snoc hq, List.sum_append] at h3
      have e2 : (rowsX ts q ++ t.take k).length = q.sum + k := by rw [List.length_append, e1, List.length_take]; omega
      have hf : (spanF p (rowsX ts q)).length = q.sum := by rw [free_front (p := p) (A := rowsX ts q) (B := t.take k) (by rw [h3, e2]; simp), e1]
      obtain ⟨e, he, heq⟩ := List.mem_map.mp ((ih q).mpr ⟨hq, fun u hu => h2 u (by simp [hu]), hf⟩)
      obtain ⟨a1, a2, a3⟩ := evS_at (b := true) ts ht0 e he
      subst heq
      have hgo : k ≤ goN p e.2 t := (goN_iff p t e.2 k (by omega)).mpr (by
        unfold preS
        rw [a2, ← span_app, h3, hf]; simp)
      exact List.mem_map.mpr ⟨_, List.mem_flatMap.mpr ⟨e, he, List.mem_map.mpr ⟨k, List.mem_range.mpr (by show k < goN p e.2 t + 1; omega), rfl⟩⟩, rfl⟩
theorem nodup_map2 {α β : Type} {f : α → β} : ∀ {l : List α}, l.Nodup → (∀ a ∈ l, ∀ b ∈ l, f a = f b → a = b) → (l.map f).Nodup
  | [], _, _ => List.nodup_nil
  | a :: l, h, i => by
    rw [List.nodup_cons] at h
    rw [List.map_cons, List.nodup_cons]
    refine ⟨fun z => ?_, nodup_map2 h.2 fun x hx y hy => i x (by simp [hx]) y (by simp [hy])⟩
    obtain ⟨b, hb, e⟩ := List.mem_map.mp z
    have := i b (by simp [hb]) a (by simp) e
    subst this
    exact h.1 hb
theorem step_keys (b : Bool) (p : Int) (L : List (List Nat × Spn)) (t : Tab) (h : (L.map (·.1)).Nodup) : ((evStep b p L t).map (·.1)).Nodup := by
  unfold evStep
  induction L with
  | nil => exact List.nodup_nil
  | cons e0 L ih =>
    rw [List.map_cons, List.nodup_cons] at h
    rw [List.flatMap_cons, List.map_append, List.nodup_append]
    refine ⟨?_, ih h.2, fun x hx y hy => ?_⟩
    · rw [List.map_map]
      refine nodup_map2 List.nodup_range fun i _ j _ e => ?_
      have e : e0.1 ++ [i] = e0.1 ++ [j] := e
      exact (List.cons.inj (List.append_cancel_left e)).1
    · rintro rfl
      obtain ⟨u, hu, rfl⟩ := List.mem_map.mp hx
      obtain ⟨j, _, rfl⟩ := List.mem_map.mp hu
      obtain ⟨v, hv, e1⟩ := List.mem_map.mp hy
      obtain ⟨e2, h2, hv⟩ := List.mem_flatMap.mp hv
      obtain ⟨j2, _, rfl⟩ := List.mem_map.mp hv
      have := (List.append_inj' e1 rfl).1
      exact h.1 (List.mem_map.mpr ⟨e2, h2, this⟩)
theorem evS_keys (b : Bool) (p : Int) : ∀ ts, ((evS b p ts).map (·.1)).Nodup := snoc_ind (by show [[]].Nodup; simp) fun ts t ih => by rw [evS_snoc]; exact step_keys b p _ t ih
theorem step_len {b : Bool} {p : Int} {d : Nat} {t : Tab} (ht : t.length ≤ d) (L : List (List Nat × Spn)) : (evStep b p L t).length ≤ L.length * (d + 1) := by
  unfold evStep
  induction L with
  | nil => simp
  | cons e L ih =>
    have := cntF_le b p e.2 t
    rw [List.flatMap_cons, List.length_append, List.length_map, List.length_range, List.length_cons, Nat.succ_mul]
    omega
theorem evS_len {b : Bool} {p : Int} {d : Nat} : ∀ ts : List Tab, (∀ t ∈ ts, t.length ≤ d) → (evS b p ts).length ≤ (d + 1) ^ ts.length := snoc_ind (fun _ => Nat.le_refl _) fun ts t ih h => by
  rw [evS_snoc, List.length_append, List.length_singleton, Nat.pow_succ]
  exact Nat.le_trans (step_len (h t (by simp)) _) (Nat.mul_le_mul_right _ (ih fun u hu => h u (by simp [hu])))
/-! deeper ones -/
def deepK (d : Nat) (ks : List Nat) : List (List Nat) := (ks.zipIdx.filter fun q => decide (q.1 < d)).map fun q => ks.take q.2 ++ [q.1 + 1] ++ ks.drop (q.2 + 1)
theorem deep_mem {d : Nat} {ks l : List Nat} : l ∈ deepK d ks ↔ ∃ i k, ks[i]? = some k ∧ k < d ∧ l = ks.take i ++ [k + 1] ++ ks.drop (i + 1) := by
  unfold deepK
  rw [List.mem_map]
  constructor
  · rintro ⟨⟨k, i⟩, h, rfl⟩
    obtain ⟨h1, h2⟩ := List.mem_filter.mp h
    exact ⟨i, k, List.mk_mem_zipIdx_iff_getElem?.mp h1, of_decide_eq_true h2, rfl⟩
  · rintro ⟨i, k, h1, h2, rfl⟩
    exact ⟨(k, i), List.mem_filter.mpr ⟨List.mk_mem_zipIdx_iff_getElem?.mpr h1, decide_eq_true h2⟩, rfl⟩
theorem split_at {ks : List Nat} {i k : Nat} (h : ks[i]? = some k) : ks = ks.take i ++ [k] ++ ks.drop (i + 1) ∧ (ks.take i).length = i := by
  obtain ⟨hi, e⟩ := List.getElem?_eq_some_iff.mp h
  refine ⟨?_, by rw [List.length_take]; omega⟩
  rw [List.append_assoc, List.singleton_append, ← e, List.getElem_cons_drop hi, List.take_append_drop]
theorem deep_valid {d : Nat} {ks l : List Nat} (h : l ∈ deepK d ks) (hk : ∀ k ∈ ks, k ≤ d) : l.length = ks.length ∧ (∀ k ∈ l, k ≤ d) ∧ l.sum = ks.sum + 1 := by
  obtain ⟨i, k, h1, h2, rfl⟩ := deep_mem.mp h
  obtain ⟨e, hl⟩ := split_at h1
  refine ⟨?_, fun u hu => ?_, ?_⟩
  · conv => rhs; rw [e]
    simp
  · rw [List.append_assoc, List.mem_append] at hu
    rcases hu with z | z
    · exact hk u (List.mem_of_mem_take z)
    · rw [List.singleton_append, List.mem_cons] at z
      rcases z with z | z
      · omega
      · exact hk u (List.mem_of_mem_drop z)
  · conv => rhs; rw [e]
    simp only [List.sum_append, List.sum_cons, List.sum_nil]
    omega
theorem deep_back {d : Nat} {ks : List Nat} (hk : ∀ k ∈ ks, k ≤ d) (h0 : ks.sum ≠ 0) : ∃ l, ks ∈ deepK d l ∧ l.length = ks.length ∧ (∀ k ∈ l, k ≤ d) ∧ ks.sum = l.sum + 1 := by
  have : ∃ i k : Nat, ks[i]? = some (k + 1) := by
    clear hk
    induction ks with
    | nil => simp at h0
    | cons a ks ih =>
      cases a with
      | zero =>
        obtain ⟨i, k, h⟩ := ih (by simpa using h0)
        exact ⟨i + 1, k, by simpa using h⟩
      | succ a => exact ⟨0, a, rfl⟩
  obtain ⟨i, k, h⟩ := this
  obtain ⟨e, hl⟩ := split_at h
  have hkd := hk _ (List.mem_of_getElem? h)
  have hm : ks ∈ deepK d (ks.take i ++ [k] ++ ks.drop (i + 1)) := deep_mem.mpr ⟨i, k, by
    rw [List.append_assoc, List.getElem?_append_right (by omega), hl, Nat.sub_self]; rfl, by omega, by
    have t1 : (ks.take i ++ [k] ++ ks.drop (i + 1)).take i = ks.take i := by rw [List.append_assoc, List.take_left' hl]
    have t2 : (ks.take i ++ [k] ++ ks.drop (i + 1)).drop (i + 1) = ks.drop (i + 1) := List.drop_left' (by simp [hl])
    rw [t1, t2]; exact e⟩
  have hv : ∀ u ∈ ks.take i ++ [k] ++ ks.drop (i + 1), u ≤ d := fun u hu => by
    rw [List.append_assoc, List.mem_append] at hu
    rcases hu with z | z
    · exact hk u (List.mem_of_mem_take z)
    · rw [List.singleton_append, List.mem_cons] at z
      rcases z with z | z
      · omega
      · exact hk u (List.mem_of_mem_drop z)
  have := deep_valid hm hv
  exact ⟨_, hm, this.1.symm, hv, this.2.2⟩
def leastK (l : List (List Nat)) : Option (List Nat) := l.foldl (fun o k => match o with | none => some k | some q => if k.sum < q.sum then some k else some q) none
theorem leastK_snoc (l : List (List Nat)) (k : List Nat) : leastK (l ++ [k]) = match leastK l with | none => some k | some q => if k.sum < q.sum then some k else some q := by unfold leastK; rw [List.foldl_append]; rfl
theorem leastK_is : ∀ l : List (List Nat), match leastK l with | none => l = [] | some q => q ∈ l ∧ ∀ k ∈ l, q.sum ≤ k.sum := snoc_ind rfl fun l k ih => by
  rw [leastK_snoc]
  cases h : leastK l with
  | none =>
    rw [h] at ih
    have ih : l = [] := ih
    subst ih
    exact ⟨by simp, fun u hu => by rcases List.mem_singleton.mp hu with rfl; omega⟩
  | some q =>
    rw [h] at ih
    obtain ⟨i1, i2⟩ := (ih : q ∈ l ∧ ∀ k ∈ l, q.sum ≤ k.sum)
    dsimp only
    split
    · rename_i z
      split at z
      · cases z
      · cases z
    · rename_i u z
      split at z
      · rename_i lt
        cases z
        refine ⟨by simp, fun v hv => ?_⟩
        rcases List.mem_append.mp hv with w | w
        · have := i2 v w; omega
        · rcases List.mem_singleton.mp w with rfl; omega
      · rename_i lt
        cases z
        refine ⟨by simp [i1], fun v hv => ?_⟩
        rcases List.mem_append.mp hv with w | w
        · exact i2 v w
        · rcases List.mem_singleton.mp w with rfl; omega
/-- all that are deeper by one than even ones, and not even -/
def unevenL (d : Nat) (keys : List (List Nat)) : List (List Nat) := (keys.flatMap (deepK d)).filter fun l => !decide (l ∈ keys)
/-- the least of them is the least of all -/
theorem uneven_least {d s : Nat} {keys : List (List Nat)} {even : List Nat → Prop} (hk : ∀ ks, ks ∈ keys ↔ ks.length = s ∧ (∀ k ∈ ks, k ≤ d) ∧ even ks) (h0 : ∀ ks, ks.sum = 0 → ks.length = s → even ks) :
    match leastK (unevenL d keys) with
    | none => ∀ ks : List Nat, ks.length = s → (∀ k ∈ ks, k ≤ d) → even ks
    | some q => (q.length = s ∧ (∀ k ∈ q, k ≤ d) ∧ ¬ even q) ∧ ∀ ks : List Nat, ks.length = s → (∀ k ∈ ks, k ≤ d) → ¬ even ks → q.sum ≤ ks.sum := by
  have key : ∀ n, ∀ ks : List Nat, ks.sum ≤ n → ks.length = s → (∀ k ∈ ks, k ≤ d) → ¬ even ks → ∃ l ∈ unevenL d keys, l.sum ≤ ks.sum := by
    intro n
    induction n with
    | zero => intro ks h1 h2 _ h4; exact absurd (h0 ks (by omega) h2) h4
    | succ n ih =>
      intro ks h1 h2 h3 h4
      have hs : ks.sum ≠ 0 := fun z => h4 (h0 ks z h2)
      obtain ⟨l, m1, m2, m3, m4⟩ := deep_back h3 hs
      by_cases hev : even l
      · refine ⟨ks, ?_, Nat.le_refl _⟩
        unfold unevenL
        refine List.mem_filter.mpr ⟨List.mem_flatMap.mpr ⟨l, (hk l).mpr ⟨by omega, m3, hev⟩, m1⟩, ?_⟩
        rw [decide_eq_false fun z => h4 ((hk ks).mp z).2.2]; rfl
      · obtain ⟨l2, a, b⟩ := ih l (by omega) (by omega) m3 hev
        exact ⟨l2, a, by omega⟩
  have hl := leastK_is (unevenL d keys)
  cases h : leastK (unevenL d keys) with
  | none =>
    rw [h] at hl
    intro ks h1 h2
    by_cases hev : even ks
    · exact hev
    · obtain ⟨l, a, _⟩ := key _ ks (Nat.le_refl _) h1 h2 hev
      rw [(show unevenL d keys = [] from hl)] at a
      cases a
  | some q =>
    rw [h] at hl
    obtain ⟨i1, i2⟩ := (hl : q ∈ unevenL d keys ∧ ∀ k ∈ unevenL d keys, q.sum ≤ k.sum)
    obtain ⟨j1, j2⟩ := List.mem_filter.mp i1
    obtain ⟨l, j3, j4⟩ := List.mem_flatMap.mp j1
    obtain ⟨l1, l2, l3⟩ := (hk l).mp j3
    obtain ⟨v1, v2, v3⟩ := deep_valid j4 l2
    refine ⟨⟨by omega, v2, fun hev => ?_⟩, fun ks a1 a2 a3 => ?_⟩
    · have : q ∈ keys := (hk q).mpr ⟨by omega, v2, hev⟩
      rw [decide_eq_true this] at j2; cases j2
    · obtain ⟨l2, b1, b2⟩ := key _ ks (Nat.le_refl _) a1 a2 a3
      have := i2 l2 b1
      omega
end Lw

/-! a tuple turned round: t[::-1] -/
namespace L2
open PySem PySem.Spec PyProof.Rows PySem.Calls
theorem turnAdjust (n : Nat) : Builtin.Slice.sliceAdjust none none (-1) (n : Int) = ((n : Int) - 1, -1) := by
  unfold Builtin.Slice.sliceAdjust
  simp
theorem turnPlaces (n : Nat) : Builtin.Slice.slicePlaces ((n : Int) - 1) (-1) (-1) = n := by
  unfold Builtin.Slice.slicePlaces
  have h : ¬ ((-1 : Int) > 0) := by decide
  rw [if_neg h]
  by_cases z : (n : Int) - 1 > -1
  · rw [if_pos z, show (- (-1 : Int)) = 1 by decide, Int.ediv_one]; omega
  · rw [if_neg z]; omega
theorem turnPick (xs : Array Value) : ((List.range xs.size).filterMap fun (k : Nat) => xs[((xs.size : Int) - 1 + (k : Int) * (-1)).toNat]?).toArray = xs.toList.reverse.toArray := by
  have e : (fun (k : Nat) => xs[((xs.size : Int) - 1 + (k : Int) * (-1)).toNat]?) = fun k => xs[xs.size - 1 - k]? := by
    funext k
    have : ((xs.size : Int) - 1 + (k : Int) * (-1)).toNat = xs.size - 1 - k := by omega
    rw [this]
  rw [e]
  have h := PySem.W.krv_all xs
  have h2 : (List.range xs.size).filterMap (fun k => xs[xs.size - 1 - k]?) = ((List.range xs.size).map fun k => xs.size - 1 - k).filterMap (xs[·]?) := by rw [List.filterMap_map]; rfl
  rw [h2, PySem.W.krv_range, List.filterMap_reverse, h]
section
variable {prog : Program} {w : World} {A : Around} {E : Value → Shared → Prop} {s : Shared}
theorem turnTup {t sl : Addr} {items : Array Value} {c : Value} {Q : Value → Shared → Prop} (ht : IsTup s.heap t items) (hs : s.heap.IsSliceOf sl .none .none c) (pc : IsPart c (some (-1))) (hsz : items.size ≤ sizeLine)
    (h : Q (.ref s.heap.objs.size) { s with heap := s.heap.push { cls := .type "tuple", data := .seq items.toList.reverse.toArray } }) : wpAny (model prog w) A (getItem (.ref t) (.ref sl)) Q E s := by
  obtain ⟨ob, k1, k2, k3⟩ := id hs
  have kT : s.TypeIs (.ref sl) "slice" := ⟨ob, k1, k2⟩
  have fit : sizeOk (.seq items.toList.reverse.toArray) := by
    show items.toList.reverse.toArray.size ≤ sizeLine
    simp
    exact hsz
  unfold getItem
  try with_reducible refine wpAny_holding ?_
  refine wpAny_bind (wpAny_sequenceKey ht.typeIs (by decide) (wpAny_bind (wpAny_callSpecial?_slot (name := Str.ofString "__getitem__") ht.typeIs PyProof.Rows.slot_tuple_getitem (wpAny_call_entry PyProof.Rows.slot_tuple_getitem ht.typeIs entry_tuple_getitem ?_ (args_tuple_getitem _ _)))))
  show wpAny _ _ (Builtin.Tuple.tupleItemsOf (.ref t) >>= _) _ _ s
  refine wpAny_bind (tupleItemsOf_ ht (wpAny_bind (wpAny_typeOf kT ?_)))
  rw [if_pos (by decide)]
  have app : ∀ {R : Int × Int × Nat → Shared → Prop}, R ((items.size : Int) - 1, -1, items.size) s → wpAny (model prog w) A.in1 (Builtin.Slice.sliceApplied (.ref sl) (pure ((items.size : Nat) : Int))) R E s := fun {R} r => by
    unfold Builtin.Slice.sliceApplied Builtin.Slice.sliceFields
    refine wpAny_bind (wpAny_bind (wpAny_field k1 k3 (x := Value.none) rfl (wpAny_bind (wpAny_field k1 k3 (x := Value.none) rfl (wpAny_bind (wpAny_field k1 k3 (x := c) rfl (wpAny_pure ?_)))))))
    refine wpAny_bind (HT.slicePart_ pc ?_)
    show wpAny _ _ (if ((-1 : Int) == 0) = true then _ else _) _ _ s
    rw [if_neg (by decide)]
    refine wpAny_bind (slicePart_none (wpAny_bind (slicePart_none (wpAny_bind (wpAny_pure ?_)))))
    show wpAny _ _ (match Builtin.Slice.sliceAdjust none none (-1) (items.size : Int) with | (lo, hi) => pure (lo, (-1 : Int), Builtin.Slice.slicePlaces lo hi (-1))) _ _ s
    rw [turnAdjust]
    show wpAny _ _ (pure ((items.size : Int) - 1, (-1 : Int), Builtin.Slice.slicePlaces ((items.size : Int) - 1) (-1) (-1))) _ _ s
    rw [turnPlaces]
    exact wpAny_pure r
  first
    | refine wpAny_bind (app ?_)
    | skip
  have no : ¬ ((((items.size : Int) - 1) == 0 && (-1 : Int) == 1 && items.size == items.size) = true) := by
    rw [show ((-1 : Int) == 1) = false by decide, Bool.and_false, Bool.false_and]
    exact Bool.false_ne_true
  show wpAny _ _ (if (((items.size : Int) - 1) == 0 && (-1 : Int) == 1 && items.size == items.size) = true then _ else _) _ _ s
  rw [if_neg no, turnPick]
  first
    | exact wpAny_bind (m := Builtin.Tuple.tupleExact _) (wpAny_newObj_type (wpAny_pure ⟨_, rfl, wpAny_pure h⟩) fit)
    | exact wpAny_bind (m := Builtin.Tuple.tupleExact _) (wpAny_newObj_type (wpAny_bind (wpAny_pure (wpAny_pure ⟨_, rfl, wpAny_pure h⟩))) fit)
    | exact wpAny_bind (wpAny_bind (m := Builtin.Tuple.tupleExact _) (wpAny_newObj_type (wpAny_pure (wpAny_pure ⟨_, rfl, wpAny_pure h⟩)) fit))
    | exact wpAny_bind (wpAny_bind (m := Builtin.Tuple.tupleExact _) (wpAny_newObj_type (wpAny_pure ⟨_, rfl, wpAny_pure h⟩) fit))
end
def tRevT (K : PySem.W.Frag) (te : TE) : TE := fun σ H Q => te σ H fun x H1 => ∃ a xs, x = .ref a ∧ SqT K H1 a xs ∧ ∀ p, H1 p = none → Q (.ref p) (upd H1 p (.tup xs.reverse))
section
variable {X : Cx}
theorem pe_revT {e : Expr} {te : TE} {k : Nat} {p1 p2 p3 pos : Pos} (he : PE X e te) : PE X (.Subscript e (.Slice none none (some (.UnaryOp .USub (.Constant (.int 1) k p1) p2)) p3) pos) (tRevT X.K te) := by
  have step : PO X (some (.UnaryOp .USub (.Constant (.int 1) k p1) p2)) (tPart (tUn (rU fun i => .int (-i)) (tC (.int 1)))) := po_some (pe_un un_neg pe_int)
  refine ⟨fun pins s σ H Q I h => Subscript_ (thn (he.run pins s σ H _ I h) fun v s1 ⟨x, H1, I1, r1, a, xs, ex, hx, q⟩ => ?_)⟩
  subst ex
  obtain rfl : v = Value.ref a := r1
  refine wpAny_Slice (thn (po_none.run pins s1 σ H1 (fun o H2 => o = none ∧ H2 = H1) I1 ⟨rfl, rfl⟩) fun vl s2 ⟨l, H2, I2, pl, el, e2⟩ => ?_)
  subst el; subst e2
  refine thn (po_none.run pins s2 σ H2 (fun o H3 => o = none ∧ H3 = H2) I2 ⟨rfl, rfl⟩) fun vu s3 ⟨u, H3, I3, pu, eu, e3⟩ => ?_
  subst eu; subst e3
  refine thn (step.run pins s3 σ H3 (fun o H4 => o = some (-1) ∧ H4 = H3) I3 ⟨1, rfl, -1, rfl, rfl, rfl⟩) fun vs s4 ⟨o, H4, I4, pv, eo, e4⟩ => ?_
  subst eo; subst e4
  cases pl; cases pu
  have I5 : Inv X pins σ H4 { s4 with heap := s4.heap.push { cls := .type "slice", data := .fields #[Value.none, Value.none, vs] } } := I4.kept (t' := s4.toks) fun b ob q => Heap.get?_push_of_some _ q
  obtain ⟨its, r, ht, hz⟩ := I5.tuple hx
  have hl : its.toArray.size = xs.length := by rw [List.size_toArray]; exact r.length.symm
  show wpAny (model X.prog X.w) X.A (subscriptTail e (.Slice none none (some (.UnaryOp .USub (.Constant (.int 1) k p1) p2)) p3) (.ref a) (.ref s4.heap.objs.size)) (EP X pins σ Q) X.xe { s4 with heap := s4.heap.push { cls := .type "slice", data := .fields #[Value.none, Value.none, vs] } }
  refine tail_any (ops := [.ref a, .ref s4.heap.objs.size]) ht.typeIs (PyProof.Rows.slot_tuple_getitem.lookup) ?_ (by with_unfolding_all rfl)
  refine turnTup ht (Heap.IsSliceOf.new _ Value.none Value.none vs) pv (by rw [hl]; exact hz) ?_
  refine ⟨.ref _, _, I5.laid (t' := s4.toks) (o := .tup xs.reverse) (fun b ob q => Heap.get?_push_of_some _ q) (Nat.le_refl _) ?_, rfl, q _ (I5.hok.fresh (Nat.le_refl _))⟩
  exact ⟨by rw [List.length_reverse]; exact hz, _, r.reverse, IsTup.new _ _⟩
theorem pe_revTK {K : PySem.W.Frag} (hk : X.K = K) {e : Expr} {te : TE} {k : Nat} {p1 p2 p3 pos : Pos} (he : PE X e te) : PE X (.Subscript e (.Slice none none (some (.UnaryOp .USub (.Constant (.int 1) k p1) p2)) p3) pos) (tRevT K te) := by subst hk; exact pe_revT he
end
end L2
namespace Dl
open PySem PySem.Spec PyProof.Rows L2 DlP
theorem we_revT {K : Fg} {sa : Option Addr} {δ : List Cell} {te : TE} {P : D → Prop} (h : WE K sa te δ fun d => ∃ ds, d = .tuple ds ∧ P (.tuple ds.reverse)) : WE K sa (tRevT K te) δ P := fun m H0 G0 E up σ H A Q q =>
  h m H0 G0 E up σ H A _ fun v d H1 ⟨ds, e, p⟩ ⟨G, a⟩ => by
    subst e
    obtain ⟨b, xs, ev, hb, rx⟩ := a.ex.2.tup_is
    exact ⟨b, xs, ev, .inl (.inl (a.gd.gh _ _ hb)), fun l hl => at_newTup up ⟨G, a.same ⟨a.ex.1, RpA.reverse rx⟩⟩ p q hl⟩
end Dl

namespace Lw
open PySem PySem.Spec PyProof.Rows L2 DlP Dl
theorem Shw.lst2 {ds : List D} {k b n : Nat} (h : ∀ d ∈ ds, Shw d k b) (hn : ds.length ≤ n) : Shw (.list ds) (k + 1) (n * (b + 2) + 3) := by
  refine ⟨?_, ?_, ?_, ?_⟩
  · simp only [PyData.showable]; exact showableAll_of fun d hd => (h d hd).1
  · simp only [PyData.hasDict]; exact noDictAll_of fun d hd => (h d hd).2.1
  · simp only [PyData.depth]; exact Nat.succ_le_succ (depthAll_of fun d hd => (h d hd).2.2.1)
  · have e : (PyData.list ds).shown = listText (PyData.shownAll ds) := by simp only [PyData.shown]
    rw [e, shownAll_map]
    have h1 := listText_len_le (ds.map PyData.shown)
    have h2 : ∀ l : List D, (∀ d ∈ l, d.shown.length ≤ b) → ((l.map PyData.shown).map (·.length)).sum ≤ l.length * b := by
      intro l
      induction l with
      | nil => intro _; simp
      | cons d l ih =>
        intro hd
        have i1 := hd d (by simp)
        have i2 := ih fun z hz => hd z (by simp [hz])
        rw [List.map_cons, List.map_cons, List.sum_cons, List.length_cons, Nat.succ_mul]
        omega
    have h3 := h2 ds fun d hd => (h d hd).2.2.2
    rw [List.length_map] at h1
    have h4 : ds.length * b + 2 * ds.length ≤ n * (b + 2) := by
      have := Nat.mul_le_mul_right (b + 2) hn
      rw [Nat.mul_add] at this
      omega
    omega
theorem shown_ints {ns : List Int} (h : ∀ x ∈ ns, 0 ≤ x ∧ x < 2 ^ 62) (hl : ns.length ≤ 12) : ShowD (.list (ns.map .int)) :=
  (Shw.lst2 (k := 0) (b := 1921) (n := 12) (fun d hd => by
    obtain ⟨x, hx, rfl⟩ := List.mem_map.mp hd
    exact Shw.int (h x hx).1 (h x hx).2) (by rw [List.length_map]; exact hl)).showD (by omega) (by omega)
end Lw

namespace Lw
open PySem PySem.Spec PyProof.Rows L2 DlP Dl
theorem free_sub {p : Int} {m : Nat} {A B : Tab} (hb : Base p) (hB : ∀ r ∈ B, RowOk p m r) (hs : A.Sublist B) (hf : (spanF p B).length = B.length) : (spanF p A).length = A.length := by
  obtain ⟨C, hp⟩ := hs.exists_perm_append
  have hpos := hb.pos
  have hAC : ∀ r ∈ A ++ C, RowOk p m r := fun r hr => hB r (hp.mem_iff.mpr hr)
  have e : (spanF p B).length = (spanF p (A ++ C)).length := by
    rw [span_rank hb hB, span_rank hb hAC]
    obtain ⟨n, rfl⟩ := Int.eq_ofNat_of_zero_le (show 0 ≤ p by omega)
    exact rank_comb hb hB hAC fun u => ⟨comb_trans fun r hr => comb_mem (hp.mem_iff.mp hr), comb_trans fun r hr => comb_mem (hp.mem_iff.mpr hr)⟩
  exact free_front (p := p) (A := A) (B := C) (by rw [← e, hf, hp.length_eq])
def withinB (ks ls : List Nat) : Bool := (ks.zip ls).all fun q => decide (q.1 ≤ q.2)
theorem within_cons {k l : Nat} {ks ls : List Nat} : withinB (k :: ks) (l :: ls) = true ↔ k ≤ l ∧ withinB ks ls = true := by
  unfold withinB
  rw [List.zip_cons_cons, List.all_cons, Bool.and_eq_true, decide_eq_true_iff]
theorem rowsX_le : ∀ {ts : List Tab} {ks ls : List Nat}, ks.length = ls.length → withinB ks ls = true → (rowsX ts ks).Sublist (rowsX ts ls)
  | [], ks, ls, _, _ => by unfold rowsX; rw [List.zip_nil_left, List.zip_nil_left]; exact List.Sublist.refl _
  | t :: ts, [], [], _, _ => List.Sublist.refl _
  | t :: ts, k :: ks, l :: ls, h, hw => by
    obtain ⟨h1, h2⟩ := within_cons.mp hw
    have ih := rowsX_le (ts := ts) (by simpa using h) h2
    unfold rowsX at ih ⊢
    rw [List.zip_cons_cons, List.zip_cons_cons, List.flatMap_cons, List.flatMap_cons]
    refine List.Sublist.append ?_ ih
    have e : t.take k = (t.take l).take k := by rw [List.take_take, Nat.min_eq_left h1]
    dsimp only
    rw [e]
    exact List.take_sublist _ _
  | t :: ts, [], _ :: _, h, _ => by simp at h
  | t :: ts, _ :: _, [], h, _ => by simp at h
theorem within_refl : ∀ ks : List Nat, withinB ks ks = true
  | [] => rfl
  | k :: ks => within_cons.mpr ⟨Nat.le_refl k, within_refl ks⟩
theorem deep_cons {d k : Nat} {ks l : List Nat} (h : l ∈ deepK d ks) : k :: l ∈ deepK d (k :: ks) := by
  obtain ⟨i, q, h1, h2, rfl⟩ := deep_mem.mp h
  exact deep_mem.mpr ⟨i + 1, q, by simpa using h1, h2, rfl⟩
theorem deep_head {d k : Nat} {ks : List Nat} (h : k < d) : (k + 1) :: ks ∈ deepK d (k :: ks) := deep_mem.mpr ⟨0, k, rfl, h, rfl⟩
theorem deep_between {d : Nat} : ∀ {ks ls : List Nat}, ks.length = ls.length → withinB ks ls = true → (∀ k ∈ ls, k ≤ d) → ks ≠ ls → ∃ l ∈ deepK d ks, withinB l ls = true
  | [], [], _, _, _, hne => absurd rfl hne
  | k :: ks, l :: ls, h, hw, hd, hne => by
    obtain ⟨h1, h2⟩ := within_cons.mp hw
    have hl := hd l (by simp)
    rcases Nat.lt_or_ge k l with z | z
    · exact ⟨_, deep_head (by omega), within_cons.mpr ⟨by omega, h2⟩⟩
    · have e : k = l := by omega
      subst e
      obtain ⟨q, q1, q2⟩ := deep_between (d := d) (by simpa using h) h2 (fun u hu => hd u (by simp [hu])) fun z => hne (by rw [z])
      exact ⟨k :: q, deep_cons q1, within_cons.mpr ⟨Nat.le_refl k, q2⟩⟩
  | [], _ :: _, h, _, _, _ => by simp at h
  | _ :: _, [], h, _, _, _ => by simp at h
theorem deep_over {d : Nat} {ks l : List Nat} (h : l ∈ deepK d ks) : withinB ks l = true ∧ ks ≠ l := by
  obtain ⟨i, k, h1, h2, rfl⟩ := deep_mem.mp h
  refine ⟨?_, fun e => ?_⟩
  · clear h2 h
    induction ks generalizing i with
    | nil => simp at h1
    | cons a ks ih =>
      cases i with
      | zero =>
        simp at h1
        subst h1
        exact within_cons.mpr ⟨by omega, by simpa using within_refl ks⟩
      | succ i => exact within_cons.mpr ⟨Nat.le_refl a, ih i (by simpa using h1)⟩
  · have h3 := congrArg List.sum e
    obtain ⟨e1, _⟩ := split_at h1
    rw [e1] at h3
    have h4 : (ks.take i ++ [k] ++ ks.drop (i + 1)).take i = ks.take i := by rw [List.append_assoc]; exact List.take_left' (split_at h1).2
    have h5 : (ks.take i ++ [k] ++ ks.drop (i + 1)).drop (i + 1) = ks.drop (i + 1) := List.drop_left' (by simp [(split_at h1).2])
    rw [h4, h5] at h3
    simp only [List.sum_append, List.sum_cons, List.sum_nil] at h3
    omega
theorem one_of {α : Type} [DecidableEq α] {l : List α} {t : α → Bool} {a : α} (hn : l.Nodup) (ha : a ∈ l) (ht : t a = true) : (l.filter t).length = 1 ↔ ∀ b ∈ l, t b = true → b = a := by
  constructor
  · intro h b hb htb
    obtain ⟨c, hc⟩ := List.length_eq_one_iff.mp h
    have h1 : a ∈ l.filter t := List.mem_filter.mpr ⟨ha, ht⟩
    have h2 : b ∈ l.filter t := List.mem_filter.mpr ⟨hb, htb⟩
    rw [hc] at h1 h2
    rw [List.mem_singleton.mp h1, List.mem_singleton.mp h2]
  · intro h
    have e : l.filter t = l.filter fun b => decide (b = a) := List.filter_congr fun b hb => by
      rw [Bool.eq_iff_iff, decide_eq_true_iff]
      exact ⟨h b hb, fun z => by rw [z]; exact ht⟩
    rw [e]
    have : (l.filter fun b => decide (b = a)).length = l.count a := by
      rw [List.count_eq_countP, List.countP_eq_length_filter]
      rfl
    rw [this]
    have h1 := List.nodup_iff_count.mp hn a
    have h2 := List.count_pos_iff.mpr ha
    omega
/-- a top: no deeper one is even, or: it is within no other even one -/
theorem top_iff {p : Int} {d m : Nat} {ts : List Tab} (hb : Base p) (hts : ∀ t ∈ ts, t.length = d) (hok : ∀ ls, ∀ r ∈ rowsX ts ls, RowOk p m r) (hrl : ∀ ls : List Nat, ls.length = ts.length → (∀ k ∈ ls, k ≤ d) → (rowsX ts ls).length = ls.sum) {ks : List Nat} (hk : ks ∈ (evS true p ts).map (·.1)) :
    (∀ l ∈ deepK d ks, l ∉ (evS true p ts).map (·.1)) ↔ (((evS true p ts).map (·.1)).filter (withinB ks)).length = 1 := by
  rw [one_of (evS_keys true p ts) hk (within_refl ks)]
  obtain ⟨k1, k2, k3⟩ := (ev_free ts hts ks).mp hk
  constructor
  · intro h ls hl hw
    obtain ⟨l1, l2, l3⟩ := (ev_free ts hts ls).mp hl
    refine Decidable.byContradiction fun hne => ?_
    obtain ⟨l, h1, h2⟩ := deep_between (d := d) (by omega) hw l2 fun z => hne z.symm
    have hv := deep_valid h1 k2
    refine h l h1 ((ev_free ts hts l).mpr ⟨by omega, hv.2.1, ?_⟩)
    rw [← hrl l (by omega) hv.2.1]
    exact free_sub hb (hok ls) (rowsX_le (by omega) h2) (by rw [l3, hrl ls l1 l2])
  · intro h l hl hin
    obtain ⟨h1, h2⟩ := deep_over hl
    exact h2 (h l hin h1).symm
def sidesX (d : Nat) : Nat → List (List Nat)
  | 0 => [[]]
  | s + 1 => (sidesX d s).flatMap fun ks => (List.range (d + 1)).map fun k => ks ++ [k]
theorem flat_congr {α β : Type} {l : List α} {f g : α → List β} (h : ∀ a ∈ l, f a = g a) : l.flatMap f = l.flatMap g := by
  induction l with
  | nil => rfl
  | cons a l ih => rw [List.flatMap_cons, List.flatMap_cons, h a (by simp), ih fun b hb => h b (by simp [hb])]
theorem flat_filter {α β : Type} (l : List α) (f : α → List β) (t : β → Bool) : (l.flatMap f).filter t = l.flatMap fun a => (f a).filter t := by
  induction l with
  | nil => rfl
  | cons a l ih => rw [List.flatMap_cons, List.filter_append, ih, List.flatMap_cons]
theorem filter_flat {α β : Type} (l : List α) (t : α → Bool) (f g : α → List β) (h1 : ∀ a ∈ l, t a = true → f a = g a) (h2 : ∀ a ∈ l, t a = false → g a = []) : (l.filter t).flatMap f = l.flatMap g := by
  induction l with
  | nil => rfl
  | cons a l ih =>
    have ih := ih (fun b hb => h1 b (by simp [hb])) fun b hb => h2 b (by simp [hb])
    rw [List.flatMap_cons, ← ih]
    cases h : t a with
    | true => rw [List.filter_cons_of_pos h, List.flatMap_cons, h1 a (by simp) h]
    | false => rw [List.filter_cons_of_neg (by rw [h]; exact Bool.false_ne_true), h2 a (by simp) h, List.nil_append]
theorem range_filter (n g : Nat) (t : Nat → Bool) (h : ∀ j, j ≤ n → (t j = true ↔ j ≤ g)) (hg : g ≤ n) : (List.range (n + 1)).filter t = List.range (g + 1) := by
  obtain ⟨c, rfl⟩ := Nat.le.dest hg
  have e : List.range (g + c + 1) = List.range (g + 1) ++ (List.range c).map (fun j => g + 1 + j) := by rw [show g + c + 1 = g + 1 + c by omega, List.range_add]
  rw [e, List.filter_append]
  have a1 : (List.range (g + 1)).filter t = List.range (g + 1) := List.filter_eq_self.mpr fun j hj => by
    have := List.mem_range.mp hj
    exact (h j (by omega)).mpr (by omega)
  have a2 : ((List.range c).map (fun j => g + 1 + j)).filter t = [] := List.filter_eq_nil_iff.mpr fun j hj => by
    obtain ⟨q, hq, rfl⟩ := List.mem_map.mp hj
    have := List.mem_range.mp hq
    intro z
    have := (h _ (by omega)).mp z
    omega
  rw [a1, a2, List.append_nil]
/-- the even ones, in order -/
theorem ev_order {p : Int} {d : Nat} (ts : List Tab) : (∀ t ∈ ts, t.length = d) → (evS true p ts).map (·.1) = (sidesX d ts.length).filter fun ks => decide ((spanF p (rowsX ts ks)).length = ks.sum) := by
  refine snoc_ind (P := fun ts => (∀ t ∈ ts, t.length = d) → (evS true p ts).map (·.1) = (sidesX d ts.length).filter fun ks => decide ((spanF p (rowsX ts ks)).length = ks.sum)) ?_ ?_ ts
  · intro _; rfl
  · intro ts t ih ht
    have ht0 := fun q (hq : q ∈ ts) => ht q (by simp [hq])
    have htl := ht t (by simp)
    have ih := ih ht0
    have hside : ∀ (n : Nat) (ks : List Nat), ks ∈ sidesX d n → ks.length = n ∧ ∀ k ∈ ks, k ≤ d := by
      intro n
      induction n with
      | zero => intro ks h; rw [List.mem_singleton.mp h]; exact ⟨rfl, fun k hk => nomatch hk⟩
      | succ n ih2 =>
        intro ks h
        obtain ⟨q, hq, h⟩ := List.mem_flatMap.mp h
        obtain ⟨k, hk, rfl⟩ := List.mem_map.mp h
        obtain ⟨a, b⟩ := ih2 q hq
        have := List.mem_range.mp hk
        refine ⟨by simp [a], fun u hu => ?_⟩
        rcases List.mem_append.mp hu with z | z
        · exact b u z
        · rw [List.mem_singleton.mp z]; omega
    have hrl : ∀ (ts : List Tab) (q : List Nat), (∀ t ∈ ts, t.length = d) → q.length = ts.length → (∀ k ∈ q, k ≤ d) → (rowsX ts q).length = q.sum := by
      intro ts
      induction ts with
      | nil => intro q _ hq _; rw [List.length_eq_zero_iff.mp hq]; rfl
      | cons t ts ih2 =>
        intro q h1 h2 h3
        cases q with
        | nil => simp at h2
        | cons k q =>
          have := ih2 q (fun u hu => h1 u (by simp [hu])) (by simpa using h2) fun u hu => h3 u (by simp [hu])
          have hk := h3 k (by simp)
          have htt := h1 t (by simp)
          unfold rowsX at this ⊢
          rw [List.zip_cons_cons, List.flatMap_cons, List.length_append, this, List.length_take, List.sum_cons]
          dsimp only
          omega
    have e1 : (evS true p (ts ++ [t])).map (·.1) = ((evS true p ts).map (·.1)).flatMap fun ks => (List.range (goN p (spanF p (rowsX ts ks)) t + 1)).map fun j => ks ++ [j] := by
      rw [evS_snoc]
      unfold evStep
      rw [List.map_flatMap, List.flatMap_map]
      refine flat_congr fun e he => ?_
      have := (evS_at (b := true) ts ht0 e he).2.1
      rw [List.map_map, this]
      rfl
    rw [e1, ih, List.length_append, List.length_singleton]
    show _ = ((sidesX d ts.length).flatMap fun ks => (List.range (d + 1)).map fun k => ks ++ [k]).filter _
    rw [flat_filter]
    refine filter_flat _ _ _ _ (fun ks hks h => ?_) fun ks hks h => ?_
    · have h := of_decide_eq_true h
      obtain ⟨a, b⟩ := hside _ _ hks
      rw [List.filter_map]
      congr 1
      refine (range_filter d (goN p (spanF p (rowsX ts ks)) t) _ (fun j hj => ?_) (by have := goN_le p t (spanF p (rowsX ts ks)); omega)).symm
      show decide _ = true ↔ _
      rw [decide_eq_true_iff, rowsX_snoc a, goN_iff p t _ j (by omega), span_app, h, List.sum_append]
      unfold preS
      simp
    · have h := of_decide_eq_false h
      obtain ⟨a, b⟩ := hside _ _ hks
      refine List.filter_eq_nil_iff.mpr fun l hl => ?_
      obtain ⟨j, hj, rfl⟩ := List.mem_map.mp hl
      have hj := List.mem_range.mp hj
      intro z
      have z := of_decide_eq_true z
      rw [rowsX_snoc a, List.sum_append] at z
      apply h
      have hl := hrl ts ks ht0 a b
      rw [← hl]
      refine free_front (p := p) (A := rowsX ts ks) (B := t.take j) ?_
      rw [z, List.length_append, hl, List.length_take]
      simp
      omega
end Lw

namespace Lw
open PySem PySem.Spec PyProof.Rows L2 DlP Dl
def topS (i : Nat) : Stmt := PySem.Challenge.pw_evennets_k14_whole_tops_of_even_depths.main.body.getD i (.Pass ⟨0, 0, 0, 0⟩)
abbrev s_inverse : Stmt := topS 4
theorem sc_inverse : FnScope ["base", "figure", "other"] ["base", "figure"] (defScope s_inverse) := ⟨rfl, rfl, rfl, by decide +kernel, rfl, by decide +kernel, by decide +kernel⟩
abbrev s_multiple : Stmt := topS 5
theorem sc_multiple : FnScope ["base", "figure", "row", "one"] ["base", "figure", "row"] (defScope s_multiple) := ⟨rfl, rfl, rfl, by decide +kernel, rfl, by decide +kernel, by decide +kernel⟩
abbrev s_cleared : Stmt := topS 6
theorem sc_cleared : FnScope ["base", "row", "lead", "place", "figure", "one", "less"] ["base", "row", "lead", "place"] (defScope s_cleared) := ⟨rfl, rfl, rfl, by decide +kernel, rfl, by decide +kernel, by decide +kernel⟩
abbrev s_first_place : Stmt := topS 7
theorem sc_first_place : FnScope ["row", "place", "figure"] ["row"] (defScope s_first_place) := ⟨rfl, rfl, rfl, by decide +kernel, rfl, by decide +kernel, by decide +kernel⟩
abbrev s_rest : Stmt := topS 8
theorem sc_rest : FnScope ["base", "span", "row", "place", "lead"] ["base", "span", "row"] (defScope s_rest) := ⟨rfl, rfl, rfl, by decide +kernel, rfl, by decide +kernel, by decide +kernel⟩
abbrev s_widened : Stmt := topS 9
theorem sc_widened : FnScope ["base", "span", "row", "left", "place"] ["base", "span", "row"] (defScope s_widened) := ⟨rfl, rfl, rfl, by decide +kernel, rfl, by decide +kernel, by decide +kernel⟩
abbrev s_is_whole : Stmt := topS 11
theorem sc_is_whole : FnScope ["value"] ["value"] (defScope s_is_whole) := ⟨rfl, rfl, rfl, by decide +kernel, rfl, by decide +kernel, by decide +kernel⟩
abbrev s_is_base : Stmt := topS 14
theorem sc_is_base : FnScope ["value"] ["value"] (defScope s_is_base) := ⟨rfl, rfl, rfl, by decide +kernel, rfl, by decide +kernel, by decide +kernel⟩
abbrev s_is_figure : Stmt := topS 15
theorem sc_is_figure : FnScope ["base", "value"] ["base", "value"] (defScope s_is_figure) := ⟨rfl, rfl, rfl, by decide +kernel, rfl, by decide +kernel, by decide +kernel⟩
abbrev s_is_row : Stmt := topS 16
theorem sc_is_row : FnScope ["base", "value", "least", "most", "one"] ["base", "value", "least", "most"] (defScope s_is_row) := ⟨rfl, rfl, rfl, by decide +kernel, rfl, by decide +kernel, by decide +kernel⟩
abbrev s_are_rows : Stmt := topS 17
theorem sc_are_rows : FnScope ["base", "value", "most_rows", "most_figures", "row"] ["base", "value", "most_rows", "most_figures"] (defScope s_are_rows) := ⟨rfl, rfl, rfl, by decide +kernel, rfl, by decide +kernel, by decide +kernel⟩
abbrev s_is_table : Stmt := topS 22
theorem sc_is_table : FnScope ["base", "value"] ["base", "value"] (defScope s_is_table) := ⟨rfl, rfl, rfl, by decide +kernel, rfl, by decide +kernel, by decide +kernel⟩
abbrev s_is_of_size : Stmt := topS 23
theorem sc_is_of_size : FnScope ["table", "depth", "width"] ["table", "depth", "width"] (defScope s_is_of_size) := ⟨rfl, rfl, rfl, by decide +kernel, rfl, by decide +kernel, by decide +kernel⟩
abbrev s_are_tables : Stmt := topS 24
theorem sc_are_tables : FnScope ["base", "value", "depth", "width", "table"] ["base", "value"] (defScope s_are_tables) := ⟨rfl, rfl, rfl, by decide +kernel, rfl, by decide +kernel, by decide +kernel⟩
abbrev s_is_net : Stmt := topS 25
theorem sc_is_net : FnScope ["value", "base", "tables"] ["value"] (defScope s_is_net) := ⟨rfl, rfl, rfl, by decide +kernel, rfl, by decide +kernel, by decide +kernel⟩
abbrev s_check_net : Stmt := topS 26
theorem sc_check_net : FnScope ["net"] ["net"] (defScope s_check_net) := ⟨rfl, rfl, rfl, by decide +kernel, rfl, by decide +kernel, by decide +kernel⟩
abbrev s_depth_of : Stmt := topS 27
theorem sc_depth_of : FnScope ["net"] ["net"] (defScope s_depth_of) := ⟨rfl, rfl, rfl, by decide +kernel, rfl, by decide +kernel, by decide +kernel⟩
abbrev s_free_spans_over : Stmt := topS 29
theorem sc_free_spans_over : FnScope ["base", "span", "table", "found", "row", "wider"] ["base", "span", "table"] (defScope s_free_spans_over) := ⟨rfl, rfl, rfl, by decide +kernel, rfl, by decide +kernel, by decide +kernel⟩
abbrev s_spans_by_depths : Stmt := topS 30
theorem sc_spans_by_depths : FnScope ["net", "spans_of_table", "found", "table", "base", "tables", "longer", "depths", "span", "many", "wider"] ["net", "spans_of_table"] (defScope s_spans_by_depths) := ⟨rfl, rfl, rfl, by decide +kernel, rfl, by decide +kernel, by decide +kernel⟩
abbrev s_even_depths : Stmt := topS 31
theorem sc_even_depths : FnScope ["net"] ["net"] (defScope s_even_depths) := ⟨rfl, rfl, rfl, by decide +kernel, rfl, by decide +kernel, by decide +kernel⟩
abbrev s_deeper_ones : Stmt := topS 32
theorem sc_deeper_ones : FnScope ["net", "depths", "depth", "at", "one"] ["net", "depths"] (defScope s_deeper_ones) := ⟨rfl, rfl, rfl, by decide +kernel, rfl, by decide +kernel, by decide +kernel⟩
abbrev s_even_tops : Stmt := topS 34
theorem sc_even_tops : FnScope ["net", "even", "depths", "deeper"] ["net"] (defScope s_even_tops) := ⟨rfl, rfl, rfl, by decide +kernel, rfl, by decide +kernel, by decide +kernel⟩
abbrev s__law_spring : Stmt := topS 36
theorem sc__law_spring : FnScope ["script", "turn", "salt", "seed", "each", "cell"] ["script", "turn", "salt"] (defScope s__law_spring) := ⟨rfl, rfl, rfl, by decide +kernel, rfl, by decide +kernel, by decide +kernel⟩
abbrev s__law_draw : Stmt := topS 37
theorem sc__law_draw : FnScope ["spring", "many", "digit"] ["spring", "many"] (defScope s__law_draw) := ⟨rfl, rfl, rfl, by decide +kernel, rfl, by decide +kernel, by decide +kernel⟩
abbrev s__law_pick : Stmt := topS 38
theorem sc__law_pick : FnScope ["spring", "some"] ["spring", "some"] (defScope s__law_pick) := ⟨rfl, rfl, rfl, by decide +kernel, rfl, by decide +kernel, by decide +kernel⟩
abbrev s__law_power : Stmt := topS 39
theorem sc__law_power : FnScope ["p", "many", "worth", "turn"] ["p", "many"] (defScope s__law_power) := ⟨rfl, rfl, rfl, by decide +kernel, rfl, by decide +kernel, by decide +kernel⟩
abbrev s__law_most : Stmt := topS 40
theorem sc__law_most : FnScope ["p", "top", "turn", "many", "worth"] ["p", "top"] (defScope s__law_most) := ⟨rfl, rfl, rfl, by decide +kernel, rfl, by decide +kernel, by decide +kernel⟩
abbrev s__law_times : Stmt := topS 41
theorem sc__law_times : FnScope ["p", "left", "right", "x", "y"] ["p", "left", "right"] (defScope s__law_times) := ⟨rfl, rfl, rfl, by decide +kernel, rfl, by decide +kernel, by decide +kernel⟩
abbrev s__law_starts : Stmt := topS 42
theorem sc__law_starts : FnScope ["p", "m", "rows", "turn", "later", "fig", "row"] ["p", "m"] (defScope s__law_starts) := ⟨rfl, rfl, rfl, by decide +kernel, rfl, by decide +kernel, by decide +kernel⟩
abbrev s__law_line : Stmt := topS 43
theorem sc__law_line : FnScope ["spring", "p", "m", "turn"] ["spring", "p", "m"] (defScope s__law_line) := ⟨rfl, rfl, rfl, by decide +kernel, rfl, by decide +kernel, by decide +kernel⟩
abbrev s__law_table : Stmt := topS 44
theorem sc__law_table : FnScope ["spring", "p", "deep", "m", "few", "j", "way", "rows", "c"] ["spring", "p", "deep", "m"] (defScope s__law_table) := ⟨rfl, rfl, rfl, by decide +kernel, rfl, by decide +kernel, by decide +kernel⟩
abbrev s__law_net : Stmt := topS 45
theorem sc__law_net : FnScope ["spring", "top", "walk", "p", "deep", "many", "m", "room", "turn"] ["spring", "top", "walk"] (defScope s__law_net) := ⟨rfl, rfl, rfl, by decide +kernel, rfl, by decide +kernel, by decide +kernel⟩
abbrev s__law_point : Stmt := topS 46
theorem sc__law_point : FnScope ["web", "begin", "found", "table", "row"] ["web", "begin"] (defScope s__law_point) := ⟨rfl, rfl, rfl, by decide +kernel, rfl, by decide +kernel, by decide +kernel⟩
abbrev s__law_points : Stmt := topS 47
theorem sc__law_points : FnScope ["web", "begin"] ["web"] (defScope s__law_points) := ⟨rfl, rfl, rfl, by decide +kernel, rfl, by decide +kernel, by decide +kernel⟩
abbrev s__law_all_sides : Stmt := topS 48
theorem sc__law_all_sides : FnScope ["many", "deep", "rows", "turn", "later", "row", "k"] ["many", "deep"] (defScope s__law_all_sides) := ⟨rfl, rfl, rfl, by decide +kernel, rfl, by decide +kernel, by decide +kernel⟩
abbrev s__law_fronts : Stmt := topS 49
theorem sc__law_fronts : FnScope ["points", "sides", "found", "point", "front", "part", "k"] ["points", "sides"] (defScope s__law_fronts) := ⟨rfl, rfl, rfl, by decide +kernel, rfl, by decide +kernel, by decide +kernel⟩
abbrev s__law_evenly : Stmt := topS 50
theorem sc__law_evenly : FnScope ["p", "points", "sides", "counts"] ["p", "points", "sides"] (defScope s__law_evenly) := ⟨rfl, rfl, rfl, by decide +kernel, rfl, by decide +kernel, by decide +kernel⟩
abbrev s__law_within : Stmt := topS 51
theorem sc__law_within : FnScope ["sides", "others", "k", "most"] ["sides", "others"] (defScope s__law_within) := ⟨rfl, rfl, rfl, by decide +kernel, rfl, by decide +kernel, by decide +kernel⟩
abbrev s_law : Stmt := topS 52
theorem sc_law : FnScope ["script", "turn", "spring", "web", "sides", "points", "evenly", "tops", "others"] ["script"] (defScope s_law) := ⟨rfl, rfl, rfl, by decide +kernel, rfl, by decide +kernel, by decide +kernel⟩
structure Bi (K : Fg) (mg : Str → Option Value) : Prop where
  z_abs : mg "abs" = none
  z_all : mg "all" = none
  z_any : mg "any" = none
  z_bool : mg "bool" = none
  z_enumerate : mg "enumerate" = none
  z_int : mg "int" = none
  z_isinstance : mg "isinstance" = none
  z_len : mg "len" = none
  z_list : mg "list" = none
  z_max : mg "max" = none
  z_min : mg "min" = none
  z_range : mg "range" = none
  z_repr : mg "repr" = none
  z_sum : mg "sum" = none
  z_tuple : mg "tuple" = none
  z_zip : mg "zip" = none
  c_BASES : ∃ a : Addr, mg "BASES" = some (.ref a) ∧ SqT K (fun _ => none) a [.int 2, .int 3, .int 5, .int 7]
  c_MOST_DIMENSIONS : ∃ t : Tok, mg "MOST_DIMENSIONS" = some (.int 6 t)
  c_MOST_DEPTH : ∃ t : Tok, mg "MOST_DEPTH" = some (.int 12 t)
  c_MOST_WIDTH : ∃ t : Tok, mg "MOST_WIDTH" = some (.int 12 t)
structure Df (P : Program) (w : World) (K : Fg) (mg : Str → Option Value) (base : Heap) (k : Nat) (x : Str) (f : Addr) (fd : FuncData) (ps : List Str) (sp : Sp) : Prop where
  g : mg x = some (.ref f)
  kp : PySem.W.keepIn K (.ref f) = true
  b : Binds K fd ps []
  ok : FnG P w K mg base CX0 k f fd ps sp
end Lw

namespace Lw
open PySem PySem.Spec PyProof.Rows L2 DlP Dl
local macro_rules | `(tactic| walk_at "dl") => `(tactic| first
  | with_reducible refine ws_next ?_
  | with_reducible refine ws_seq ?_
  | with_reducible refine ws_if ?_
  | with_reducible refine wt_not ?_
  | with_reducible refine wt_and ?_
  | with_reducible refine wt_or ?_
  | with_reducible refine wt_chainI ?_
  | with_reducible refine wt_test ?_
  | with_reducible refine wt_B ?_
  | with_reducible refine ws_ret ?_
  | with_reducible refine ws_cont ?_
  | with_reducible refine ws_break ?_
  | with_reducible refine wa_cons ?_
  | with_reducible refine wa_nil ?_
  | ((with_reducible refine we_var (d := ?dd) ?hv ?_); (case hv => exact rfl))
  | with_reducible refine we_int ?_
  | with_reducible refine we_bl ?_
  | with_reducible refine we_non ?_
  | with_reducible refine we_str ?_
  | with_reducible refine we_neg ?_
  | ((with_reducible refine we_spr ?hv ?hw (fun z => ?_)); (case hv => exact rfl); (case hw => decide))
  | ((with_reducible refine ws_spr ?hv ?hw ?_); (case hv => exact rfl); (case hw => decide))
  | with_reducible refine ws_set ?_
  | with_reducible refine ws_asgG ?_
  | with_reducible refine wg_two ?_
  | with_reducible refine wg_name ?_
  | with_reducible refine we_andV ?_
  | with_reducible refine we_orV ?_
  | with_reducible refine we_notV ?_
  | with_reducible refine we_if ?_
  | with_reducible refine we_chainI ?_
  | with_reducible refine we_isN ?_
  | with_reducible refine we_notN ?_
  | with_reducible refine we_repL ?_
  | with_reducible refine we_catLc ?_
  | with_reducible refine we_op ?_
  | with_reducible refine we_isInt ?_
  | with_reducible refine we_isBool ?_
  | with_reducible refine we_isTup ?_
  | with_reducible refine we_cb ?_
  | with_reducible refine we_tup2 ?_
  | with_reducible refine we_tup1 ?_
  | with_reducible refine we_tup ?_
  | with_reducible refine ow_addI ?_
  | with_reducible refine ow_I0b ?_
  | with_reducible refine ow_eqUI ?_
  | with_reducible refine ow_neUI ?_
  | ((with_reducible refine ow_mulI ?hc ?_); (case hc => first | exact cmul_right (by decide) | exact cmul_left (by decide) | exact cmul_right (by omega) | exact cmul_left (by omega)))
  | ((with_reducible refine ow_modN ?hc ?_); (case hc => omega))
  | ((with_reducible refine ow_fdivL ?hc ?_); (case hc => (exact cdivL (by omega) (by omega))))
  | ((with_reducible refine ow_pow ?hc ?_); (case hc => exact ⟨by decide, by decide, by decide⟩))
  | with_reducible refine ow_I0i ?_
  | with_reducible refine cw_int ?_
  | with_reducible refine cw_intB ?_
  | with_reducible refine cw_abs ?_
  | with_reducible refine cw_max2U ?_
  | with_reducible refine cw_min2U ?_
  | with_reducible refine cw_allT ?_
  | with_reducible refine cw_tupleL ?_
  | with_reducible refine cw_tupleT ?_
  | with_reducible refine cw_lenL ?_
  | with_reducible refine cw_lenT ?_
  | with_reducible refine cw_lenScr ?_
  | with_reducible refine ex_int ?_
  | with_reducible refine ex_two ?_
  | with_reducible refine ex_bool ?_
  | with_reducible refine ex_list ?_
  | with_reducible refine ex_tuple ?_
  | with_reducible refine ex_seqL ?_
  | with_reducible refine ex_seqT ?_
  | with_reducible refine and_cases (fun hb => ?_) (fun hb => ?_)
  | with_reducible refine or_cases (fun hb => ?_) (fun hb => ?_))


section
variable {P : Program} {w : World} {K : Fg} {mg : Str → Option Value} {base : Heap}
def preDraw (ds : List D) : Prop := ∃ m : Int, ds = [.int m] ∧ 0 < m ∧ m < 1000000000
def postDraw (ds : List D) (d : D) : Prop := ∃ m r : Int, ds = [.int m] ∧ d = .int r ∧ 0 ≤ r ∧ r < m
theorem ok__law_draw {f : Addr} {fd : FuncData} (F : Fun K "_law_draw" "_law_draw" s__law_draw f fd) (B : Bi K mg) : FnG P w K mg base CX0 1 f fd ["spring", "many"] (spS K preDraw postDraw) := by
  refine ok_fnS F sc__law_draw (fun ds ⟨m, e, _⟩ => by rw [e]; rfl) (fun cdv A outer s H E hr hgd => ?_)
  refine ⟨_, (pss_cons (ps_if (pt_cmpR op_gt (pe_ix (ix_seqK (K := K) rfl) (pv 0) pe_int (fun _ _ => rfl)) pe_int (nomark _))
      (pss_cons (ps_set (i := 2) sc__law_draw.nd rfl (by first | exact Or.inl rfl | exact Or.inr rfl) (pe_op op_modN (pe_callTy call_int1 (by rfl) B.z_int (by decide +kernel) (pa_cons (pe_ix (ix_seqK (K := K) rfl) (pv 0) pe_int (fun _ _ => rfl)) pa_nil)) (pv 1)))
      (pss_cons (ps_asg (pe_op op_fdivL (pe_ix (ix_seqK (K := K) rfl) (pv 0) pe_int (fun _ _ => rfl)) (pv 1)) (pg_sub (pv 0) pe_int set_list))
      (pss_one (ps_ret (pv 2)))))
      pss_nil)
      (pss_cons (ps_asg (pe_op (op_addUK (K := K) rfl) (pe_ix (ix_seqK (K := K) rfl) (pv 0) pe_int (fun _ _ => rfl)) pe_int) (pg_sub (pv 0) pe_int set_list))
      (pss_cons (ps_asg (pe_op op_modN (pe_callTy call_int1 (by rfl) B.z_int (by decide +kernel) (pa_cons (pe_op (op_addUK (K := K) rfl) (pe_op (op_addUK (K := K) rfl) (pe_op (op_mulUK (K := K) rfl) (pe_ix (ix_seqK (K := K) rfl) (pv 0) pe_int (fun _ _ => rfl)) pe_int) (pe_op (op_mulUK (K := K) rfl) (pe_ix (ix_seqK (K := K) rfl) (pv 0) pe_int (fun _ _ => rfl)) pe_int)) pe_int) pa_nil)) pe_int) (pg_sub (pv 0) pe_int set_list))
      (pss_one (ps_ret (pe_op op_modN (pe_callTy call_int1 (by rfl) B.z_int (by decide +kernel) (pa_cons (pe_op op_fdivL (pe_ix (ix_seqK (K := K) rfl) (pv 0) pe_int (fun _ _ => rfl)) pe_int) pa_nil)) (pv 1))))))), ?_⟩
  rintro a ds ⟨m, rfl, h0, h1⟩
  show WS _ (some a) _ _ [.spr, .dat (.int m), .no]
  repeat' walk_at "dl"
  all_goals exact ⟨m, _, rfl, rfl, fmod_lt h0⟩
def prePick (ds : List D) : Prop := ∃ es : List D, (ds = [.list es] ∨ ds = [.tuple es]) ∧ 0 < es.length ∧ es.length < 1000000000
def postPick (ds : List D) (d : D) : Prop := ∀ es : List D, (ds = [.list es] ∨ ds = [.tuple es]) → d ∈ es
theorem ok__law_pick {f fD : Addr} {fd fdD : FuncData} (F : Fun K "_law_pick" "_law_pick" s__law_pick f fd) (B : Bi K mg) (d__law_draw : Df P w K mg base 1 "_law_draw" fD fdD ["spring", "many"] (spS K preDraw postDraw)) : FnG P w K mg base CX0 2 f fd ["spring", "some"] (spS K prePick postPick) := by
  refine ok_fnS F sc__law_pick (fun ds ⟨m, e, _⟩ => by rcases e with e | e <;> (rw [e]; rfl)) (fun cdv A outer s H E hr hgd => ?_)
  refine ⟨_, (pss_one (ps_ret (pe_ix (ix_seqK (K := K) rfl) (pv 1) (pe_callG d__law_draw.ok (hr.mono (by decide)) hgd (by rfl) d__law_draw.g d__law_draw.kp d__law_draw.b .nil pass0 (pa_cons (pv 0) (pa_cons (pe_callB (call_lenK (K := K) rfl) (by rfl) B.z_len (by decide +kernel) (pa_cons (pv 1) pa_nil)) pa_nil))) (fun _ _ => rfl)))), ?_⟩
  rintro a ds ⟨es, e, h0, h1⟩
  rcases e with rfl | rfl
  · show WS _ (some a) _ _ [.spr, .dat (.list es)]
    walk_at "dl"
    walk_at "dl"
    walk_at "dl"
    refine we_callS rfl ?_
    repeat' walk_at "dl"
    refine ⟨⟨_, rfl, by omega, by omega⟩, ?_⟩
    rintro d ⟨m, r, e, rfl, h2, h3⟩
    cases e
    obtain ⟨j, rfl⟩ := Int.eq_ofNat_of_zero_le h2
    have hj : j < es.length := by omega
    refine ow_ixL' (x := es[j]) (atI_nat (by simp [hj])) ?_
    intro fs hf
    rcases hf with hf | hf
    · cases hf; exact List.getElem_mem hj
    · cases hf
  · show WS _ (some a) _ _ [.spr, .dat (.tuple es)]
    walk_at "dl"
    walk_at "dl"
    walk_at "dl"
    refine we_callS rfl ?_
    repeat' walk_at "dl"
    refine ⟨⟨_, rfl, by omega, by omega⟩, ?_⟩
    rintro d ⟨m, r, e, rfl, h2, h3⟩
    cases e
    obtain ⟨j, rfl⟩ := Int.eq_ofNat_of_zero_le h2
    have hj : j < es.length := by omega
    refine ow_ixT' (x := es[j]) (atI_nat (by simp [hj])) ?_
    intro fs hf
    rcases hf with hf | hf
    · cases hf
    · cases hf; exact List.getElem_mem hj
/-- the seed: some whole number; the spring: three of them -/
def preSpr (ds : List D) : Prop := ∃ (ns : List Int) (t s : Int), ds = [scrD ns, .int t, .int s] ∧ ns.length ≤ 63 ∧ 0 ≤ t
def postSpr (_ : List D) (d : D) : Prop := ∃ c s n : Int, d = .list [.int c, .int s, .int n]
theorem ok__law_spring {f : Addr} {fd : FuncData} (F : Fun K "_law_spring" "_law_spring" s__law_spring f fd) (B : Bi K mg) : FnG P w K mg base CX0 1 f fd ["script", "turn", "salt"] (spF K preSpr postSpr) := by
  refine ok_fn F sc__law_spring (fun ds ⟨ns, t, s, e, _⟩ => by rw [e]; rfl) (fun cdv A outer s H E hr hgd => ?_)
  refine ⟨_, (pss_cons (ps_set (i := 3) sc__law_spring.nd rfl (by first | exact Or.inl rfl | exact Or.inr rfl) (pe_op (op_addUK (K := K) rfl) (pv 2) (pe_op (op_mulUK (K := K) rfl) pe_int (pv 1))))
      (pss_cons (ps_for PassesOwn.never (by rfl) (pi_seqK (K := K) rfl (pe_slice (sl_anyK (K := K) rfl) (pv 0) po_none (po_some pe_int))) (pg_name (i := 4) sc__law_spring.nd rfl (by first | exact Or.inl rfl | exact Or.inr rfl))
      (pss_one (ps_set (i := 3) sc__law_spring.nd rfl (by first | exact Or.inl rfl | exact Or.inr rfl) (pe_op op_modN (pe_callTy call_int1 (by rfl) B.z_int (by decide +kernel) (pa_cons (pe_op (op_addUK (K := K) rfl) (pe_op (op_addUK (K := K) rfl) (pe_op (op_mulUK (K := K) rfl) (pv 3) pe_int) (pe_op op_modN (pe_callTy call_int1 (by rfl) B.z_int (by decide +kernel) (pa_cons (pv 4) pa_nil)) pe_int)) pe_int) pa_nil)) pe_int))))
      (pss_cons (ps_set (i := 5) sc__law_spring.nd rfl (by first | exact Or.inl rfl | exact Or.inr rfl) (pe_ifExp (pt_cmpR op_lt (pv 1) (pe_callB (call_lenK (K := K) rfl) (by rfl) B.z_len (by decide +kernel) (pa_cons (pv 0) pa_nil)) (nomark _)) (pe_callTy call_int1 (by rfl) B.z_int (by decide +kernel) (pa_cons (pe_ix (ix_seqK (K := K) rfl) (pv 0) (pv 1) (fun _ _ => rfl)) pa_nil)) pe_int))
      (pss_one (ps_ret (pe_lst (pa_cons (pe_ifExp (pt_cmpR op_ge (pe_callB call_abs (by rfl) B.z_abs (by decide +kernel) (pa_cons (pv 5) pa_nil)) (pe_op op_pow pe_int pe_int) (nomark _)) (pe_callB call_abs (by rfl) B.z_abs (by decide +kernel) (pa_cons (pv 5) pa_nil)) pe_int) (pa_cons (pv 3) (pa_cons pe_int pa_nil))))))))), ?_⟩
  rintro ds ⟨ns, t, s, rfl, hl, ht⟩
  show WS _ none _ _ [.dat (scrD ns), .dat (.int t), .dat (.int s), .no, .no, .no]
  repeat' walk_at "dl"
  refine ws_for (wj_seq (we_fresh (wf_slScrU (we_var rfl ⟨rfl, wo_none (wo_some (we_int ⟨_, rfl, ⟨_, .inl rfl, ?_⟩⟩))⟩))))
  refine ⟨fun _ δ => ∃ (z : Int) (c : Cell), δ = [.dat (scrD ns), .dat (.int t), .dat (.int s), .dat (.int z), c, .no], ⟨_, _, rfl⟩, fun i d δ' hd ⟨z, c, e⟩ => ?_, fun δ' ⟨z, c, e⟩ => ?_⟩
  · subst e
    have hm := List.mem_of_getElem? hd
    have hm := List.mem_of_mem_drop (List.mem_of_mem_take hm)
    obtain ⟨x, _, rfl⟩ := List.mem_map.mp hm
    refine wg_name ?_
    repeat' walk_at "dl"
    exact ⟨_, _, rfl⟩
  · subst e
    repeat' walk_at "dl"
    · obtain ⟨j, rfl⟩ := Int.eq_ofNat_of_zero_le ht
      rename_i hb
      have hj : j < ns.length := by simpa using hb
      refine ow_ixScr (x := ns[j]) (atI_nat (by simp [hj])) ?_
      repeat' walk_at "dl"
      all_goals
        refine we_fresh (wf_lst ?_)
        repeat' walk_at "dl"
        all_goals exact ⟨szl (by simp), ⟨_, _, _, rfl⟩⟩
    · refine we_fresh (wf_lst ?_)
      repeat' walk_at "dl"
      all_goals exact ⟨szl (by simp), ⟨_, _, _, rfl⟩⟩
end

end Lw

namespace Lw
open PySem PySem.Spec PyProof.Rows L2 DlP Dl
local macro_rules | `(tactic| walk_at "dl") => `(tactic| first
  | with_reducible refine ws_next ?_
  | with_reducible refine ws_seq ?_
  | with_reducible refine ws_if ?_
  | with_reducible refine wt_not ?_
  | with_reducible refine wt_and ?_
  | with_reducible refine wt_or ?_
  | with_reducible refine wt_chainI ?_
  | with_reducible refine wt_test ?_
  | with_reducible refine wt_B ?_
  | with_reducible refine ws_ret ?_
  | with_reducible refine ws_cont ?_
  | with_reducible refine ws_break ?_
  | with_reducible refine wa_cons ?_
  | with_reducible refine wa_nil ?_
  | ((with_reducible refine we_var (d := ?dd) ?hv ?_); (case hv => exact rfl))
  | with_reducible refine we_int ?_
  | with_reducible refine we_bl ?_
  | with_reducible refine we_non ?_
  | with_reducible refine we_str ?_
  | with_reducible refine we_neg ?_
  | ((with_reducible refine we_spr ?hv ?hw (fun z => ?_)); (case hv => exact rfl); (case hw => decide))
  | ((with_reducible refine ws_spr ?hv ?hw ?_); (case hv => exact rfl); (case hw => decide))
  | with_reducible refine ws_set ?_
  | with_reducible refine ws_asgG ?_
  | with_reducible refine wg_two ?_
  | with_reducible refine wg_name ?_
  | with_reducible refine we_andV ?_
  | with_reducible refine we_orV ?_
  | with_reducible refine we_notV ?_
  | with_reducible refine we_if ?_
  | with_reducible refine we_chainI ?_
  | with_reducible refine we_isN ?_
  | with_reducible refine we_notN ?_
  | with_reducible refine we_repL ?_
  | with_reducible refine we_catLc ?_
  | with_reducible refine we_op ?_
  | with_reducible refine we_isInt ?_
  | with_reducible refine we_isBool ?_
  | with_reducible refine we_isTup ?_
  | with_reducible refine we_cb ?_
  | with_reducible refine we_tup2 ?_
  | with_reducible refine we_tup1 ?_
  | with_reducible refine we_tup ?_
  | with_reducible refine ow_addI ?_
  | with_reducible refine ow_I0b ?_
  | with_reducible refine ow_eqUI ?_
  | with_reducible refine ow_neUI ?_
  | ((with_reducible refine ow_mulI ?hc ?_); (case hc => first | exact cmul_right (by decide) | exact cmul_left (by decide) | exact cmul_right (by omega) | exact cmul_left (by omega)))
  | ((with_reducible refine ow_modN ?hc ?_); (case hc => omega))
  | ((with_reducible refine ow_fdivL ?hc ?_); (case hc => (exact cdivL (by omega) (by omega))))
  | ((with_reducible refine ow_pow ?hc ?_); (case hc => exact ⟨by decide, by decide, by decide⟩))
  | with_reducible refine ow_I0i ?_
  | with_reducible refine cw_int ?_
  | with_reducible refine cw_intB ?_
  | with_reducible refine cw_abs ?_
  | with_reducible refine cw_max2U ?_
  | with_reducible refine cw_min2U ?_
  | with_reducible refine cw_allT ?_
  | with_reducible refine cw_tupleL ?_
  | with_reducible refine cw_tupleT ?_
  | with_reducible refine cw_lenL ?_
  | with_reducible refine cw_lenT ?_
  | with_reducible refine cw_lenScr ?_
  | with_reducible refine ex_int ?_
  | with_reducible refine ex_two ?_
  | with_reducible refine ex_bool ?_
  | with_reducible refine ex_list ?_
  | with_reducible refine ex_tuple ?_
  | with_reducible refine ex_seqL ?_
  | with_reducible refine ex_seqT ?_
  | with_reducible refine and_cases (fun hb => ?_) (fun hb => ?_)
  | with_reducible refine or_cases (fun hb => ?_) (fun hb => ?_))

section
variable {P : Program} {w : World} {K : Fg} {mg : Str → Option Value} {base : Heap}
def prePow (ds : List D) : Prop := ∃ (p : Int) (n : Nat), ds = [.int p, .int n] ∧ (0 < p ∧ p < 1000) ∧ n < 1000000000
def postPow (ds : List D) (d : D) : Prop := ∀ (p : Int) (n : Nat), ds = [.int p, .int n] → d = .int (p ^ n)
theorem ok__law_power {f : Addr} {fd : FuncData} (F : Fun K "_law_power" "_law_power" s__law_power f fd) (B : Bi K mg) : FnG P w K mg base CX0 1 f fd ["p", "many"] (spF K prePow postPow) := by
  refine ok_fn F sc__law_power (fun ds ⟨p, n, e, _⟩ => by rw [e]; rfl) (fun cdv A outer s H E hr hgd => ?_)
  refine ⟨_, (pss_cons (ps_set (i := 2) sc__law_power.nd rfl (by first | exact Or.inl rfl | exact Or.inr rfl) pe_int)
      (pss_cons (ps_for PassesOwn.never (by rfl) (pi_range1 (by rfl) B.z_range (pa_cons (pv 1) pa_nil)) (pg_name (i := 3) sc__law_power.nd rfl (by first | exact Or.inl rfl | exact Or.inr rfl))
      (pss_one (ps_set (i := 2) sc__law_power.nd rfl (by first | exact Or.inl rfl | exact Or.inr rfl) (pe_op (op_mulUK (K := K) rfl) (pv 2) (pv 0)))))
      (pss_one (ps_ret (pv 2))))), ?_⟩
  rintro ds ⟨p, n, rfl, h0, h1⟩
  show WS _ none _ _ [.dat (.int p), .dat (.int n), .no, .no]
  repeat' walk_at "dl"
  refine ws_for (wj_rng1 ?_)
  repeat' walk_at "dl"
  refine ⟨_, rfl, by omega, fun i δ => ∃ c, δ = [.dat (.int p), .dat (.int n), .dat (.int (p ^ i)), c], ⟨.no, by rw [Int.pow_zero]; rfl⟩, fun i d δ' hd ⟨c, e⟩ => ?_, fun δ' ⟨c, e⟩ => ?_⟩
  · subst e
    obtain ⟨hi, rfl⟩ := rngD_inv hd
    refine wg_name ?_
    repeat' walk_at "dl"
    exact ⟨_, by rw [Int.pow_succ]; rfl⟩
  · subst e
    repeat' walk_at "dl"
    intro p' n' e
    cases e
    rw [rngD_len, Int.toNat_natCast]
def preMost (ds : List D) : Prop := ∃ (p t : Int), ds = [.int p, .int t] ∧ Base p ∧ p ≤ t
def postMost (ds : List D) (d : D) : Prop := ∀ (p t : Int), ds = [.int p, .int t] → ∃ k : Nat, d = .int k ∧ (1 ≤ k ∧ k ≤ 12) ∧ p ^ k ≤ t
theorem ok__law_most {f : Addr} {fd : FuncData} (F : Fun K "_law_most" "_law_most" s__law_most f fd) (B : Bi K mg) : FnG P w K mg base CX0 1 f fd ["p", "top"] (spF K preMost postMost) := by
  refine ok_fn F sc__law_most (fun ds ⟨p, n, e, _⟩ => by rw [e]; rfl) (fun cdv A outer s H E hr hgd => ?_)
  refine ⟨_, (pss_cons (ps_par (i := 3) (j := 4) (by rfl) sc__law_most.nd rfl rfl (by decide) rfl rfl (pa_cons pe_int (pa_cons (pv 0) pa_nil)) (by rfl))
      (pss_cons (ps_for PassesOwn.never (by rfl) (pi_range1 (by rfl) B.z_range (pa_cons pe_int pa_nil)) (pg_name (i := 2) sc__law_most.nd rfl (by first | exact Or.inl rfl | exact Or.inr rfl))
      (pss_cons (ps_if (pt_cmpR op_gt (pv 4) (pv 1) (nomark _))
      (pss_one ps_break)
      pss_nil)
      (pss_one (ps_par (i := 3) (j := 4) (by rfl) sc__law_most.nd rfl rfl (by decide) rfl rfl (pa_cons (pe_op (op_addUK (K := K) rfl) (pv 3) pe_int) (pa_cons (pe_op (op_mulUK (K := K) rfl) (pv 4) (pv 0)) pa_nil)) (by rfl)))))
      (pss_one (ps_ret (pv 3))))), ?_⟩
  rintro ds ⟨p, t, rfl, hb, ht⟩
  have hp := hb.pos
  show WS _ none _ _ [.dat (.int p), .dat (.int t), .no, .no, .no]
  repeat' walk_at "dl"
  refine ws_par ?_
  repeat' walk_at "dl"
  refine ws_for (wj_rng1 ?_)
  repeat' walk_at "dl"
  refine ⟨_, rfl, by omega, fun i δ => ∃ c, δ = [.dat (.int p), .dat (.int t), c, .dat (.int i), .dat (.int (p ^ (i + 1)))] ∧ p ^ i ≤ t, ⟨_, by rw [Int.pow_succ, Int.pow_zero, Int.one_mul]; rfl, by rw [Int.pow_zero]; omega⟩, fun i d δ' hd ⟨c, e, hle⟩ => ?_, fun δ' ⟨c, e, hle⟩ => ?_⟩
  · subst e
    obtain ⟨hi, rfl⟩ := rngD_inv hd
    refine wg_name ?_
    repeat' walk_at "dl"
    · rename_i h
      intro p' t' e
      cases e
      refine ⟨i, rfl, ⟨?_, by simp at hi; omega⟩, hle⟩
      cases i with
      | zero => simp [Int.pow_succ] at h; omega
      | succ i => omega
    · rename_i h
      refine ws_par ?_
      repeat' walk_at "dl"
      exact ⟨_, by rw [Int.pow_succ p (i + 1)]; rfl, by simpa using h⟩
  · subst e
    repeat' walk_at "dl"
    intro p' t' e
    cases e
    refine ⟨_, rfl, ?_, hle⟩
    rw [rngD_len]
    decide
def postDot (ds : List D) (d : D) : Prop := ∀ (p : Int) (l r : Row), ds = [.int p, rowD l, rowD r] → d = .int ((dot l r).fmod p)
def preDot (ds : List D) : Prop := ∃ (p : Int) (l r : Row), ds = [.int p, rowD l, rowD r] ∧ 0 < p ∧ l.length ≤ 1000 ∧ ∀ x ∈ l, 0 ≤ x ∧ x < 1000
theorem ok__law_times {f : Addr} {fd : FuncData} (F : Fun K "_law_times" "_law_times" s__law_times f fd) (B : Bi K mg) : FnG P w K mg base CX0 1 f fd ["p", "left", "right"] (spF K preDot postDot) := by
  refine ok_fn F sc__law_times (fun ds ⟨p, l, r, e, _⟩ => by rw [e]; rfl) (fun cdv A outer s H E hr hgd => ?_)
  refine ⟨_, (pss_one (ps_ret (pe_op op_modN (pe_callTy call_int1 (by rfl) B.z_int (by decide +kernel) (pa_cons (pe_callB (cr_sumK (K := K) rfl (by rfl)) (by rfl) B.z_sum (by decide +kernel) (pa_cons (pe_lc (own := [("x", 3), ("y", 4)]) (g := (gTup K 2 (gCons (gName 3) (gCons (gName 4) gNil)))) (tt := tYes) (by rfl) sc__law_times.nd (pi_zipUK (K := K) rfl (by rfl) B.z_zip (pa_cons (pv 1) (pa_cons (pv 2) pa_nil))) (blkOk_by (own := [("x", 3), ("y", 4)]) (N := ["p", "left", "right", "x", "y"]) (sc := defScope s__law_times) (by decide +kernel)) (fun _ _ _ _ _ => (pg_tupK (K := K) (n := 2) rfl (by rfl) (pgs_cons (pg_name (i := 3) sc__law_times.nd rfl (by first | exact Or.inl rfl | exact Or.inr rfl)) (pgs_cons (pg_name (i := 4) sc__law_times.nd rfl (by first | exact Or.inl rfl | exact Or.inr rfl)) pgs_nil)))) (fun _ _ _ _ _ => pts_nil) (fun _ _ _ _ _ => (pe_op (op_mulUK (K := K) rfl) (pv 3) (pv 4)))) pa_nil)) pa_nil)) (pv 0)))), ?_⟩
  rintro ds ⟨p, l, r, rfl, hp, hl, hx⟩
  show WS _ none _ _ [.dat (.int p), .dat (rowD l), .dat (rowD r), .no, .no]
  repeat' walk_at "dl"
  refine we_fresh (wf_map mulD (wj_zip ?_))
  repeat' walk_at "dl"
  refine ⟨_, _, _, _, rfl, .inr rfl, .inr rfl, szl (by rw [zipD_len, List.length_map]; omega), fun i d hd => ?_, ?_⟩
  · obtain ⟨a, b, ha, hb, rfl⟩ := zipD_inv hd
    obtain ⟨x, hm, rfl⟩ := mem_ints ha
    obtain ⟨y, _, rfl⟩ := mem_ints hb
    have := hx x hm
    refine wgv_two (by simp) (by simp) ?_
    repeat' walk_at "dl"
    rfl
  · rw [zip_mul]
    refine wa_nil (cw_sum ?_)
    repeat' walk_at "dl"
    intro p' l' r' e
    injection e with e1 e
    injection e with e2 e
    injection e with e3 e
    injection e1 with e1
    subst e1
    rw [← rowD_inj e2, ← rowD_inj e3]
    rfl
end

end Lw

namespace Lw
open PySem PySem.Spec PyProof.Rows L2 DlP Dl
local macro_rules | `(tactic| walk_at "dl") => `(tactic| first
  | with_reducible refine ws_next ?_
  | with_reducible refine ws_seq ?_
  | with_reducible refine ws_if ?_
  | with_reducible refine wt_not ?_
  | with_reducible refine wt_and ?_
  | with_reducible refine wt_or ?_
  | with_reducible refine wt_chainI ?_
  | with_reducible refine wt_test ?_
  | with_reducible refine wt_B ?_
  | with_reducible refine ws_ret ?_
  | with_reducible refine ws_cont ?_
  | with_reducible refine ws_break ?_
  | with_reducible refine wa_cons ?_
  | with_reducible refine wa_nil ?_
  | ((with_reducible refine we_var (d := ?dd) ?hv ?_); (case hv => exact rfl))
  | with_reducible refine we_int ?_
  | with_reducible refine we_bl ?_
  | with_reducible refine we_non ?_
  | with_reducible refine we_str ?_
  | with_reducible refine we_neg ?_
  | ((with_reducible refine we_spr ?hv ?hw (fun z => ?_)); (case hv => exact rfl); (case hw => decide))
  | ((with_reducible refine ws_spr ?hv ?hw ?_); (case hv => exact rfl); (case hw => decide))
  | with_reducible refine ws_set ?_
  | with_reducible refine ws_asgG ?_
  | with_reducible refine wg_two ?_
  | with_reducible refine wg_name ?_
  | with_reducible refine we_andV ?_
  | with_reducible refine we_orV ?_
  | with_reducible refine we_notV ?_
  | with_reducible refine we_if ?_
  | with_reducible refine we_chainI ?_
  | with_reducible refine we_isN ?_
  | with_reducible refine we_notN ?_
  | with_reducible refine we_repL ?_
  | with_reducible refine we_catLc ?_
  | with_reducible refine we_op ?_
  | with_reducible refine we_isInt ?_
  | with_reducible refine we_isBool ?_
  | with_reducible refine we_isTup ?_
  | with_reducible refine we_cb ?_
  | with_reducible refine we_tup2 ?_
  | with_reducible refine we_tup1 ?_
  | with_reducible refine we_tup ?_
  | with_reducible refine ow_addI ?_
  | with_reducible refine ow_I0b ?_
  | with_reducible refine ow_eqUI ?_
  | with_reducible refine ow_neUI ?_
  | ((with_reducible refine ow_mulI ?hc ?_); (case hc => first | exact cmul_right (by decide) | exact cmul_left (by decide) | exact cmul_right (by omega) | exact cmul_left (by omega)))
  | ((with_reducible refine ow_modN ?hc ?_); (case hc => omega))
  | ((with_reducible refine ow_fdivL ?hc ?_); (case hc => (exact cdivL (by omega) (by omega))))
  | ((with_reducible refine ow_pow ?hc ?_); (case hc => exact ⟨by decide, by decide, by decide⟩))
  | with_reducible refine ow_I0i ?_
  | with_reducible refine cw_int ?_
  | with_reducible refine cw_intB ?_
  | with_reducible refine cw_abs ?_
  | with_reducible refine cw_max2U ?_
  | with_reducible refine cw_min2U ?_
  | with_reducible refine cw_allT ?_
  | with_reducible refine cw_tupleL ?_
  | with_reducible refine cw_tupleT ?_
  | with_reducible refine cw_lenL ?_
  | with_reducible refine cw_lenT ?_
  | with_reducible refine cw_lenScr ?_
  | with_reducible refine ex_int ?_
  | with_reducible refine ex_two ?_
  | with_reducible refine ex_bool ?_
  | with_reducible refine ex_list ?_
  | with_reducible refine ex_tuple ?_
  | with_reducible refine ex_seqL ?_
  | with_reducible refine ex_seqT ?_
  | with_reducible refine and_cases (fun hb => ?_) (fun hb => ?_)
  | with_reducible refine or_cases (fun hb => ?_) (fun hb => ?_))

section
variable {P : Program} {w : World} {K : Fg} {mg : Str → Option Value} {base : Heap}
def preLine (ds : List D) : Prop := ∃ (p : Int) (n : Nat), ds = [.int p, .int n] ∧ (0 < p ∧ p < 1000) ∧ n < 1000
def postLine (ds : List D) (d : D) : Prop := ∀ (p : Int) (n : Nat), ds = [.int p, .int n] → ∃ r, d = rowD r ∧ RowOk p n r
theorem ok__law_line {f fD : Addr} {fd fdD : FuncData} (F : Fun K "_law_line" "_law_line" s__law_line f fd) (B : Bi K mg) (d__law_draw : Df P w K mg base 1 "_law_draw" fD fdD ["spring", "many"] (spS K preDraw postDraw)) : FnG P w K mg base CX0 2 f fd ["spring", "p", "m"] (spS K preLine postLine) := by
  refine ok_fnS F sc__law_line (fun ds ⟨p, n, e, _⟩ => by rw [e]; rfl) (fun cdv A outer s H E hr hgd => ?_)
  refine ⟨_, (pss_one (ps_ret (pe_callTy (call_tuple_ofK (K := K) rfl) (by rfl) B.z_tuple (by decide +kernel) (pa_cons (pe_lc (own := [("turn", 3)]) (g := (gName 3)) (tt := tYes) (by rfl) sc__law_line.nd (pi_range1 (by rfl) B.z_range (pa_cons (pv 2) pa_nil)) (blkOk_by (own := [("turn", 3)]) (N := ["spring", "p", "m", "turn"]) (sc := defScope s__law_line) (by decide +kernel)) (fun _ _ _ _ _ => (pg_name (i := 3) sc__law_line.nd rfl (by first | exact Or.inl rfl | exact Or.inr rfl))) (fun _ _ _ _ _ => pts_nil) (fun _ _ _ _ _ => (pe_callG d__law_draw.ok (hr.mono (by decide)) hgd (by rfl) d__law_draw.g d__law_draw.kp d__law_draw.b .nil pass0 (pa_cons (pv 0) (pa_cons (pv 1) pa_nil))))) pa_nil)))), ?_⟩
  rintro a ds ⟨p, n, rfl, hp, hn⟩
  show WS _ (some a) _ _ [.spr, .dat (.int p), .dat (.int n), .no]
  repeat' walk_at "dl"
  refine we_fresh (wf_rel (wj_rng1 ?_))
  repeat' walk_at "dl"
  refine ⟨_, rfl, by omega, szl (by rw [rngD_len]; omega), fun _ e => ∃ x, e = .int x ∧ (0 ≤ x ∧ x < p), fun i d hd => ?_, fun es hl hr => ?_⟩
  · refine wgv_name (by simp) ?_
    refine we_callS rfl ?_
    repeat' walk_at "dl"
    refine ⟨⟨p, rfl, by omega, by omega⟩, fun d ⟨m, r, e, hd, h0, h1⟩ => ?_⟩
    cases e
    exact ⟨r, hd, h0, h1⟩
  · obtain ⟨r, rfl, hl, hq⟩ := of_rel hl hr
    refine wa_nil (cw_tupleL ?_)
    intro p' n' e
    cases e
    exact ⟨r, rfl, by rw [hl, rngD_len]; omega, hq⟩
def preTab (ds : List D) : Prop := ∃ (p : Int) (d m : Nat), ds = [.int p, .int d, .int m] ∧ Base p ∧ (1 ≤ d ∧ d ≤ 12) ∧ (1 ≤ m ∧ m ≤ 12)
def postTab (ds : List D) (e : D) : Prop := ∀ (p : Int) (d m : Nat), ds = [.int p, .int d, .int m] → ∃ t, e = tabD t ∧ TabOk p d m t
theorem ok__law_table {f fD fL fP : Addr} {fd fdD fdL fdP : FuncData} (F : Fun K "_law_table" "_law_table" s__law_table f fd) (B : Bi K mg) (d__law_draw : Df P w K mg base 1 "_law_draw" fD fdD ["spring", "many"] (spS K preDraw postDraw))
    (d__law_line : Df P w K mg base 2 "_law_line" fL fdL ["spring", "p", "m"] (spS K preLine postLine)) (d__law_pick : Df P w K mg base 2 "_law_pick" fP fdP ["spring", "some"] (spS K prePick postPick)) :
    FnG P w K mg base CX0 3 f fd ["spring", "p", "deep", "m"] (spS K preTab postTab) := by
  refine ok_fnS F sc__law_table (fun ds ⟨p, d, m, e, _⟩ => by rw [e]; rfl) (fun cdv A outer s H E hr hgd => ?_)
  refine ⟨_, (pss_cons (ps_par (i := 6) (j := 7) (by rfl) sc__law_table.nd rfl rfl (by decide) rfl rfl (pa_cons (pe_callG d__law_draw.ok (hr.mono (by decide)) hgd (by rfl) d__law_draw.g d__law_draw.kp d__law_draw.b .nil pass0 (pa_cons (pv 0) (pa_cons pe_int pa_nil))) (pa_cons (pe_lst pa_nil) pa_nil)) (by rfl))
      (pss_cons (ps_set (i := 4) sc__law_table.nd rfl (by first | exact Or.inl rfl | exact Or.inr rfl) (pe_lst (pa_cons (pe_callG d__law_line.ok (hr.mono (by decide)) hgd (by rfl) d__law_line.g d__law_line.kp d__law_line.b .nil pass0 (pa_cons (pv 0) (pa_cons (pv 1) (pa_cons (pv 3) pa_nil)))) (pa_cons (pe_callG d__law_line.ok (hr.mono (by decide)) hgd (by rfl) d__law_line.g d__law_line.kp d__law_line.b .nil pass0 (pa_cons (pv 0) (pa_cons (pv 1) (pa_cons (pv 3) pa_nil)))) (pa_cons (pe_callTy (call_tuple_ofK (K := K) rfl) (by rfl) B.z_tuple (by decide +kernel) (pa_cons (pe_op (op_mulUK (K := K) rfl) (pe_lst (pa_cons pe_int pa_nil)) (pv 3)) pa_nil)) pa_nil)))))
      (pss_cons (ps_for PassesOwn.never (by rfl) (pi_range1 (by rfl) B.z_range (pa_cons (pv 2) pa_nil)) (pg_name (i := 5) sc__law_table.nd rfl (by first | exact Or.inl rfl | exact Or.inr rfl))
      (pss_one (ps_if (PW.pt (pw_and (pt_cmpR (op_eqUK (K := K) rfl hr.units) (pv 6) pe_int (nomark _)) (pw_and1 (pt_cmpR op_lt (pv 5) (pv 3) (nomark _)))))
      (pss_one (ps_expr (pe_bm PySem.F.plainAttrs_list PySem.F.slot_list_append PySem.F.type_list_append mt_append (pv 7) (pa_cons (pe_callTy (call_tuple_ofK (K := K) rfl) (by rfl) B.z_tuple (by decide +kernel) (pa_cons (pe_lc (own := [("c", 8)]) (g := (gName 8)) (tt := tYes) (by rfl) sc__law_table.nd (pi_range1 (by rfl) B.z_range (pa_cons (pv 3) pa_nil)) (blkOk_by (own := [("c", 8)]) (N := ["spring", "p", "deep", "m", "few", "j", "way", "rows", "c"]) (sc := defScope s__law_table) (by decide +kernel)) (fun _ _ _ _ _ => (pg_name (i := 8) sc__law_table.nd rfl (by first | exact Or.inl rfl | exact Or.inr rfl))) (fun _ _ _ _ _ => pts_nil) (fun _ _ _ _ _ => (pe_callTy call_int1 (by rfl) B.z_int (by decide +kernel) (pa_cons (pe_cmpR (op_eqUK (K := K) rfl hr.units) (pv 8) (pv 5) (nomark _)) pa_nil)))) pa_nil)) pa_nil))))
      (pss_one (ps_if (pt_cmpR (op_eqUK (K := K) rfl hr.units) (pv 6) pe_int (nomark _))
      (pss_one (ps_expr (pe_bm PySem.F.plainAttrs_list PySem.F.slot_list_append PySem.F.type_list_append mt_append (pv 7) (pa_cons (pe_callTy (call_tuple_ofK (K := K) rfl) (by rfl) B.z_tuple (by decide +kernel) (pa_cons (pe_lc (own := [("c", 8)]) (g := (gName 8)) (tt := tYes) (by rfl) sc__law_table.nd (pi_range1 (by rfl) B.z_range (pa_cons (pv 3) pa_nil)) (blkOk_by (own := [("c", 8)]) (N := ["spring", "p", "deep", "m", "few", "j", "way", "rows", "c"]) (sc := defScope s__law_table) (by decide +kernel)) (fun _ _ _ _ _ => (pg_name (i := 8) sc__law_table.nd rfl (by first | exact Or.inl rfl | exact Or.inr rfl))) (fun _ _ _ _ _ => pts_nil) (fun _ _ _ _ _ => (pe_callTy call_int1 (by rfl) B.z_int (by decide +kernel) (pa_cons (pe_cmpR (op_eqUK (K := K) rfl hr.units) (pv 8) (pe_op op_sub (pe_op op_sub (pv 3) pe_int) (pv 5)) (nomark _)) pa_nil)))) pa_nil)) pa_nil))))
      (pss_one (ps_if (pt_cmpR (op_eqUK (K := K) rfl hr.units) (pv 6) pe_int (nomark _))
      (pss_one (ps_expr (pe_bm PySem.F.plainAttrs_list PySem.F.slot_list_append PySem.F.type_list_append mt_append (pv 7) (pa_cons (pe_callG d__law_pick.ok (hr.mono (by decide)) hgd (by rfl) d__law_pick.g d__law_pick.kp d__law_pick.b .nil pass0 (pa_cons (pv 0) (pa_cons (pv 4) pa_nil))) pa_nil))))
      (pss_one (ps_if (PW.pt (pw_and (pt_cmpR (op_eqUK (K := K) rfl hr.units) (pv 6) pe_int (nomark _)) (pw_and1 (pt_cmpR op_lt (pv 5) (pv 3) (nomark _)))))
      (pss_one (ps_expr (pe_bm PySem.F.plainAttrs_list PySem.F.slot_list_append PySem.F.type_list_append mt_append (pv 7) (pa_cons (pe_op (op_addUK (K := K) rfl) (pe_op (op_addUK (K := K) rfl) (pe_callG d__law_line.ok (hr.mono (by decide)) hgd (by rfl) d__law_line.g d__law_line.kp d__law_line.b .nil pass0 (pa_cons (pv 0) (pa_cons (pv 1) (pa_cons (pv 5) pa_nil)))) (pe_tup (pa_cons pe_int pa_nil))) (pe_callTy (call_tuple_ofK (K := K) rfl) (by rfl) B.z_tuple (by decide +kernel) (pa_cons (pe_op (op_mulUK (K := K) rfl) (pe_lst (pa_cons pe_int pa_nil)) (pe_op op_sub (pe_op op_sub (pv 3) pe_int) (pv 5))) pa_nil))) pa_nil))))
      (pss_one (ps_expr (pe_bm PySem.F.plainAttrs_list PySem.F.slot_list_append PySem.F.type_list_append mt_append (pv 7) (pa_cons (pe_callG d__law_line.ok (hr.mono (by decide)) hgd (by rfl) d__law_line.g d__law_line.kp d__law_line.b .nil pass0 (pa_cons (pv 0) (pa_cons (pv 1) (pa_cons (pv 3) pa_nil)))) pa_nil)))))))))))))
      (pss_one (ps_ret (pe_callTy (call_tuple_ofK (K := K) rfl) (by rfl) B.z_tuple (by decide +kernel) (pa_cons (pv 7) pa_nil))))))), ?_⟩
  rintro a ds ⟨p, d, m, rfl, hb, hd, hm⟩
  have hp := hb.pos
  show WS _ (some a) _ _ [.spr, .dat (.int p), .dat (.int d), .dat (.int m), .no, .no, .no, .no, .no]
  have line : ∀ (k : Nat) (δ : List Cell) (P : D → Prop), k ≤ 12 → (∀ r, RowOk p k r → P (rowD r)) → ∀ dd, postLine [.int p, .int k] dd → P dd := fun k δ P hk h dd hdd => by
    obtain ⟨r, rfl, hr⟩ := hdd p k rfl
    exact h r hr
  walk_at "dl"
  refine ws_parF (we_callS rfl ?_) (by decide) (by simp)
  repeat' walk_at "dl"
  refine ⟨⟨6, rfl, by omega, by omega⟩, fun dd ⟨_, way, e, hway, _⟩ => wf_lst ?_⟩
  subst hway
  repeat' walk_at "dl"
  refine ⟨szl (by simp), ?_⟩
  repeat' walk_at "dl"
  refine we_lst ?_
  repeat' walk_at "dl"
  refine we_callS rfl ?_
  repeat' walk_at "dl"
  refine ⟨⟨p, m, rfl, by omega, by omega⟩, line m [] _ (by omega) fun r1 hr1 => ?_⟩
  repeat' walk_at "dl"
  refine we_callS rfl ?_
  repeat' walk_at "dl"
  refine ⟨⟨p, m, rfl, by omega, by omega⟩, line m [] _ (by omega) fun r2 hr2 => ?_⟩
  repeat' walk_at "dl"
  refine ⟨szl (by simp), ?_⟩
  repeat' walk_at "dl"
  refine ⟨by omega, szl (by simp; omega), ?_⟩
  rw [replI]
  repeat' walk_at "dl"
  refine ⟨szl (by simp), ?_⟩
  repeat' walk_at "dl"
  have hr3 : RowOk p m (List.replicate m 0) := ⟨List.length_replicate .., fun x hx => by rw [List.eq_of_mem_replicate hx]; omega⟩
  have e3 : PyData.tuple (List.replicate (Int.toNat m) (PyData.int 0)) = rowD (List.replicate m 0) := by unfold rowD; rw [List.map_replicate]; rfl
  rw [e3]
  refine ws_for (wj_rng1 ?_)
  repeat' walk_at "dl"
  refine ⟨_, rfl, by omega, fun i δ => ∃ (c1 : Cell) (t : Tab), δ = [.spr, .dat (.int p), .dat (.int d), .dat (.int m), .dat (.list [rowD r1, rowD r2, rowD (List.replicate m 0)]), c1, .dat (.int way), .own (t.map rowD), .no] ∧ TabOk p i m t, ⟨.no, [], rfl, rfl, fun _ h => nomatch h⟩, fun i dd δ' hi ⟨c1, t, e, ht⟩ => ?_, fun δ' ⟨c1, t, e, ht⟩ => ?_⟩
  · subst e
    obtain ⟨hi, rfl⟩ := rngD_inv hi
    have hi : i < d := by omega
    have hi2 : (0 : Int) + (i : Nat) = (i : Nat) := by omega
    rw [hi2]
    have put : ∀ r : Row, RowOk p m r → ∃ (c1 : Cell) (t' : Tab), ([.spr, .dat (.int p), .dat (.int d), .dat (.int m), .dat (.list [rowD r1, rowD r2, rowD (List.replicate m 0)]), .dat (.int (i : Nat)), .dat (.int way), .own (t.map rowD), .no] : List Cell).set 7 (.own (t.map rowD ++ [rowD r])) = [.spr, .dat (.int p), .dat (.int d), .dat (.int m), .dat (.list [rowD r1, rowD r2, rowD (List.replicate m 0)]), c1, .dat (.int way), .own (t'.map rowD), .no] ∧ TabOk p (i + 1) m t' := fun r hr =>
      ⟨_, t ++ [r], by rw [List.map_append]; rfl, by rw [List.length_append, ht.1]; rfl, fun x hx => by
        rcases List.mem_append.mp hx with z | z
        · exact ht.2 x z
        · rw [List.mem_singleton.mp z]; exact hr⟩
    have hz : (t.map rowD).length < sizeLine := szlt (by rw [List.length_map, ht.1]; omega)
    refine wg_name ?_
    repeat' walk_at "dl"
    all_goals refine ws_append rfl hz ?_
    all_goals repeat' walk_at "dl"
    all_goals first
      | (refine we_fresh (wf_rel (wj_rng1 ?_))
         repeat' walk_at "dl"
         refine ⟨_, rfl, by omega, szl (by rw [rngD_len]; omega), fun _ e => ∃ x, e = .int x ∧ (0 ≤ x ∧ x < p), fun i2 d2 hd2 => ?_, fun es hl hr => ?_⟩
         · obtain ⟨h2, rfl⟩ := rngD_inv hd2
           refine wgv_name (by simp) ?_
           repeat' walk_at "dl"
           split <;> omega
         · obtain ⟨r, rfl, hl, hq⟩ := of_rel hl hr
           refine wa_nil (cw_tupleL ?_)
           exact put r ⟨by rw [hl, rngD_len]; omega, hq⟩)
      | (refine we_callS rfl ?_
         repeat' walk_at "dl"
         refine ⟨⟨_, .inl rfl, by simp, by simp⟩, fun x hx => ?_⟩
         have hx := hx _ (.inl rfl)
         simp only [List.mem_cons, List.not_mem_nil, or_false] at hx
         rcases hx with rfl | rfl | rfl
         · exact put r1 hr1
         · exact put r2 hr2
         · exact put _ hr3)
      | (refine we_callS rfl ?_
         repeat' walk_at "dl"
         refine ⟨⟨p, m, rfl, by omega, by omega⟩, line m [] _ (by omega) fun r hr => put r hr⟩)
      | (rename_i hjm
         have hjm : i < m := by simpa using hjm
         refine we_callS rfl ?_
         repeat' walk_at "dl"
         refine ⟨⟨p, i, rfl, by omega, by omega⟩, line i [] _ (by omega) fun r hr => ?_⟩
         repeat' walk_at "dl"
         refine ow_addT (szl (by simp [hr.1]; omega)) ?_
         repeat' walk_at "dl"
         refine ⟨szl (by simp), ?_⟩
         repeat' walk_at "dl"
         refine ⟨by omega, szl (by simp; omega), ?_⟩
         rw [replI]
         repeat' walk_at "dl"
         refine ow_addT (szl (by simp [hr.1]; omega)) ?_
         have e4 : (PyData.tuple (List.map PyData.int r ++ [PyData.int 1] ++ List.replicate (Int.toNat (↑m - 1 - ↑i)) (PyData.int 0))) = rowD (r ++ [1] ++ List.replicate (m - 1 - i) 0) := by
           unfold rowD
           rw [List.map_append, List.map_append, List.map_replicate]
           have e5 : Int.toNat (↑m - 1 - ↑i) = m - 1 - i := by omega
           rw [e5]
           rfl
         rw [e4]
         refine put _ ⟨by simp [hr.1]; omega, fun x hx => ?_⟩
         rcases List.mem_append.mp hx with z | z
         · rcases List.mem_append.mp z with z | z
           · exact hr.2 x z
           · rw [List.mem_singleton.mp z]; omega
         · rw [List.eq_of_mem_replicate z]; omega)
  · subst e
    refine ws_ret (we_tupOwn rfl ?_)
    intro p' d' m' e
    cases e
    exact ⟨t, rfl, by rw [ht.1, rngD_len]; omega, ht.2⟩
end

end Lw

namespace Lw
open PySem PySem.Spec PyProof.Rows L2 DlP Dl
local macro_rules | `(tactic| walk_at "dl") => `(tactic| first
  | with_reducible refine ws_next ?_
  | with_reducible refine ws_seq ?_
  | with_reducible refine ws_if ?_
  | with_reducible refine wt_not ?_
  | with_reducible refine wt_and ?_
  | with_reducible refine wt_or ?_
  | with_reducible refine wt_chainI ?_
  | with_reducible refine wt_test ?_
  | with_reducible refine wt_B ?_
  | with_reducible refine ws_ret ?_
  | with_reducible refine ws_cont ?_
  | with_reducible refine ws_break ?_
  | with_reducible refine wa_cons ?_
  | with_reducible refine wa_nil ?_
  | ((with_reducible refine we_var (d := ?dd) ?hv ?_); (case hv => exact rfl))
  | with_reducible refine we_int ?_
  | with_reducible refine we_bl ?_
  | with_reducible refine we_non ?_
  | with_reducible refine we_str ?_
  | with_reducible refine we_neg ?_
  | ((with_reducible refine we_spr ?hv ?hw (fun z => ?_)); (case hv => exact rfl); (case hw => decide))
  | ((with_reducible refine ws_spr ?hv ?hw ?_); (case hv => exact rfl); (case hw => decide))
  | with_reducible refine ws_set ?_
  | with_reducible refine ws_asgG ?_
  | with_reducible refine wg_two ?_
  | with_reducible refine wg_name ?_
  | with_reducible refine we_andV ?_
  | with_reducible refine we_orV ?_
  | with_reducible refine we_notV ?_
  | with_reducible refine we_if ?_
  | with_reducible refine we_chainI ?_
  | with_reducible refine we_isN ?_
  | with_reducible refine we_notN ?_
  | with_reducible refine we_repL ?_
  | with_reducible refine we_catLc ?_
  | with_reducible refine we_op ?_
  | with_reducible refine we_isInt ?_
  | with_reducible refine we_isBool ?_
  | with_reducible refine we_isTup ?_
  | with_reducible refine we_cb ?_
  | with_reducible refine we_tup2 ?_
  | with_reducible refine we_tup1 ?_
  | with_reducible refine we_tup ?_
  | with_reducible refine ow_addI ?_
  | with_reducible refine ow_I0b ?_
  | with_reducible refine ow_eqUI ?_
  | with_reducible refine ow_neUI ?_
  | ((with_reducible refine ow_mulI ?hc ?_); (case hc => first | exact cmul_right (by decide) | exact cmul_left (by decide) | exact cmul_right (by omega) | exact cmul_left (by omega)))
  | ((with_reducible refine ow_modN ?hc ?_); (case hc => omega))
  | ((with_reducible refine ow_fdivL ?hc ?_); (case hc => (exact cdivL (by omega) (by omega))))
  | ((with_reducible refine ow_pow ?hc ?_); (case hc => exact ⟨by decide, by decide, by decide⟩))
  | with_reducible refine ow_I0i ?_
  | with_reducible refine cw_int ?_
  | with_reducible refine cw_intB ?_
  | with_reducible refine cw_abs ?_
  | with_reducible refine cw_max2U ?_
  | with_reducible refine cw_min2U ?_
  | with_reducible refine cw_allT ?_
  | with_reducible refine cw_tupleL ?_
  | with_reducible refine cw_tupleT ?_
  | with_reducible refine cw_lenL ?_
  | with_reducible refine cw_lenT ?_
  | with_reducible refine cw_lenScr ?_
  | with_reducible refine ex_int ?_
  | with_reducible refine ex_two ?_
  | with_reducible refine ex_bool ?_
  | with_reducible refine ex_list ?_
  | with_reducible refine ex_tuple ?_
  | with_reducible refine ex_seqL ?_
  | with_reducible refine ex_seqT ?_
  | with_reducible refine and_cases (fun hb => ?_) (fun hb => ?_)
  | with_reducible refine or_cases (fun hb => ?_) (fun hb => ?_))

section
variable {P : Program} {w : World} {K : Fg} {mg : Str → Option Value} {base : Heap}
theorem line_of {p : Int} {n : Nat} {P : D → Prop} (h : ∀ r, RowOk p n r → P (rowD r)) : ∀ d, postLine [.int p, .int n] d → P d := fun d hd => by
  obtain ⟨r, rfl, hr⟩ := hd p n rfl
  exact h r hr
theorem tab_of {p : Int} {n m : Nat} {P : D → Prop} (h : ∀ t, TabOk p n m t → P (tabD t)) : ∀ d, postTab [.int p, .int n, .int m] d → P d := fun d hd => by
  obtain ⟨r, rfl, hr⟩ := hd p n m rfl
  exact h r hr
theorem draw_of {m : Nat} {P : D → Prop} (h : ∀ r : Nat, r < m → P (.int r)) : ∀ d, postDraw [.int m] d → P d := fun d ⟨m', r, e, hd, h0, h1⟩ => by
  cases e
  obtain ⟨j, rfl⟩ := Int.eq_ofNat_of_zero_le h0
  rw [hd]
  exact h j (by omega)
theorem tabs_of {p : Int} {d m : Nat} {n : Nat} {es : List D} (hl : es.length = (rngD 0 n).length) (hr : ∀ (i : Nat) (d' e : D), (rngD 0 n)[i]? = some d' → es[i]? = some e → ∃ t, e = tabD t ∧ TabOk p d m t) : ∃ ts : List Tab, es = ts.map tabD ∧ ts.length = n ∧ ∀ t ∈ ts, TabOk p d m t := by
  obtain ⟨ts, e, h, q⟩ := of_rel hl hr
  exact ⟨ts, e, by rw [h, rngD_len], q⟩
def preNet (ds : List D) : Prop := ∃ t w : Int, ds = [.int t, .int w] ∧ 7 ≤ t ∧ 7 ≤ w
def postNet (ds : List D) (e : D) : Prop := ∀ t w : Int, ds = [.int t, .int w] → ∃ p ts s d m, e = netD p ts ∧ NetOk p s d m ts ∧ p ^ m ≤ t ∧ p ^ (s * d) ≤ w
def postLarge (_ : List D) (e : D) : Prop := ∃ p ts s d m, e = netD p ts ∧ NetOk p s d m ts
theorem ok__law_net {f fD fP fT fM : Addr} {fd fdD fdP fdT fdM : FuncData} (F : Fun K "_law_net" "_law_net" s__law_net f fd) (B : Bi K mg) (d__law_draw : Df P w K mg base 1 "_law_draw" fD fdD ["spring", "many"] (spS K preDraw postDraw))
    (d__law_pick : Df P w K mg base 2 "_law_pick" fP fdP ["spring", "some"] (spS K prePick postPick)) (d__law_table : Df P w K mg base 3 "_law_table" fT fdT ["spring", "p", "deep", "m"] (spS K preTab postTab))
    (d__law_most : Df P w K mg base 1 "_law_most" fM fdM ["p", "top"] (spF K preMost postMost)) :
    FnG P w K mg base CX0 4 f fd ["spring", "top", "walk"] (spS K preNet postNet) := by
  refine ok_fnS F sc__law_net (fun ds ⟨_, _, e, _⟩ => by rw [e]; rfl) (fun cdv A outer s H E hr hgd => ?_)
  refine ⟨_, (pss_cons (ps_set (i := 3) sc__law_net.nd rfl (by first | exact Or.inl rfl | exact Or.inr rfl) (pe_callG d__law_pick.ok (hr.mono (by decide)) hgd (by rfl) d__law_pick.g d__law_pick.kp d__law_pick.b .nil pass0 (pa_cons (pv 0) (pa_cons (pe_lst (pa_cons pe_int (pa_cons pe_int (pa_cons pe_int (pa_cons pe_int (pa_cons pe_int (pa_cons pe_int (pa_cons pe_int pa_nil)))))))) pa_nil))))
      (pss_cons (ps_asg (pe_tup (pa_cons (pe_op (op_addUK (K := K) rfl) pe_int (pe_callG d__law_draw.ok (hr.mono (by decide)) hgd (by rfl) d__law_draw.g d__law_draw.kp d__law_draw.b .nil pass0 (pa_cons (pv 0) (pa_cons (pe_callG d__law_most.ok (hr.mono (by decide)) hgd (by rfl) d__law_most.g d__law_most.kp d__law_most.b .nil pass0 (pa_cons (pv 3) (pa_cons (pv 1) pa_nil))) pa_nil)))) (pa_cons (pe_callG d__law_most.ok (hr.mono (by decide)) hgd (by rfl) d__law_most.g d__law_most.kp d__law_most.b .nil pass0 (pa_cons (pv 3) (pa_cons (pv 2) pa_nil))) pa_nil))) (pg_tupK (K := K) (n := 2) rfl (by rfl) (pgs_cons (pg_name (i := 6) sc__law_net.nd rfl (by first | exact Or.inl rfl | exact Or.inr rfl)) (pgs_cons (pg_name (i := 7) sc__law_net.nd rfl (by first | exact Or.inl rfl | exact Or.inr rfl)) pgs_nil))))
      (pss_cons (ps_set (i := 4) sc__law_net.nd rfl (by first | exact Or.inl rfl | exact Or.inr rfl) (pe_op (op_addUK (K := K) rfl) pe_int (pe_callG d__law_draw.ok (hr.mono (by decide)) hgd (by rfl) d__law_draw.g d__law_draw.kp d__law_draw.b .nil pass0 (pa_cons (pv 0) (pa_cons (pe_callB (call_minUK (K := K) rfl (by rfl) hr.units) (by rfl) B.z_min (by decide +kernel) (pa_cons (pv 7) (pa_cons pe_int pa_nil))) pa_nil)))))
      (pss_cons (ps_set (i := 5) sc__law_net.nd rfl (by first | exact Or.inl rfl | exact Or.inr rfl) (pe_op (op_addUK (K := K) rfl) pe_int (pe_callG d__law_draw.ok (hr.mono (by decide)) hgd (by rfl) d__law_draw.g d__law_draw.kp d__law_draw.b .nil pass0 (pa_cons (pv 0) (pa_cons (pe_callB (call_minUK (K := K) rfl (by rfl) hr.units) (by rfl) B.z_min (by decide +kernel) (pa_cons (pe_op op_fdivL (pv 7) (pv 4)) (pa_cons pe_int pa_nil))) pa_nil)))))
      (pss_cons (ps_if (pt_cmpR (op_eqUK (K := K) rfl hr.units) (pv 5) pe_int (nomark _))
      (pss_one (ps_set (i := 5) sc__law_net.nd rfl (by first | exact Or.inl rfl | exact Or.inr rfl) (pe_op (op_addUK (K := K) rfl) pe_int (pe_callG d__law_draw.ok (hr.mono (by decide)) hgd (by rfl) d__law_draw.g d__law_draw.kp d__law_draw.b .nil pass0 (pa_cons (pv 0) (pa_cons (pe_callB (call_minUK (K := K) rfl (by rfl) hr.units) (by rfl) B.z_min (by decide +kernel) (pa_cons (pe_op op_fdivL (pv 7) (pv 4)) (pa_cons pe_int pa_nil))) pa_nil))))))
      pss_nil)
      (pss_one (ps_ret (pe_tup (pa_cons (pv 3) (pa_cons (pe_callTy (call_tuple_ofK (K := K) rfl) (by rfl) B.z_tuple (by decide +kernel) (pa_cons (pe_lc (own := [("turn", 8)]) (g := (gName 8)) (tt := tYes) (by rfl) sc__law_net.nd (pi_range1 (by rfl) B.z_range (pa_cons (pv 5) pa_nil)) (blkOk_by (own := [("turn", 8)]) (N := ["spring", "top", "walk", "p", "deep", "many", "m", "room", "turn"]) (sc := defScope s__law_net) (by decide +kernel)) (fun _ _ _ _ _ => (pg_name (i := 8) sc__law_net.nd rfl (by first | exact Or.inl rfl | exact Or.inr rfl))) (fun _ _ _ _ _ => pts_nil) (fun _ _ _ _ _ => (pe_callG d__law_table.ok (hr.mono (by decide)) hgd (by rfl) d__law_table.g d__law_table.kp d__law_table.b .nil pass0 (pa_cons (pv 0) (pa_cons (pv 3) (pa_cons (pv 4) (pa_cons (pv 6) pa_nil))))))) pa_nil)) pa_nil)))))))))), ?_⟩
  rintro a ds ⟨t, wk, rfl, ht, hw⟩
  show WS _ (some a) _ _ [.spr, .dat (.int t), .dat (.int wk), .no, .no, .no, .no, .no, .no]
  walk_at "dl"
  walk_at "dl"
  refine we_callS rfl ?_
  walk_at "dl"
  refine we_lst ?_
  repeat' walk_at "dl"
  refine ⟨szl (by simp), ?_⟩
  repeat' walk_at "dl"
  refine ⟨⟨_, .inl rfl, by simp, by simp⟩, fun pd hpd => ?_⟩
  have hpd := hpd _ (.inl rfl)
  have hp : ∃ p, pd = .int p ∧ Base p := by
    simp only [List.mem_cons, List.not_mem_nil, or_false] at hpd
    rcases hpd with rfl | rfl | rfl | rfl | rfl | rfl | rfl
    all_goals exact ⟨_, rfl, by unfold Base; omega⟩
  obtain ⟨p, rfl, hb⟩ := hp
  have hpp := hb.pos
  repeat' walk_at "dl"
  refine we_callS rfl ?_
  repeat' walk_at "dl"
  refine we_call ?_
  repeat' walk_at "dl"
  refine ⟨⟨p, t, rfl, hb, by omega⟩, fun dd hdd => ?_⟩
  obtain ⟨k, rfl, hk, hkt⟩ := hdd p t rfl
  repeat' walk_at "dl"
  refine ⟨⟨k, rfl, by omega, by omega⟩, draw_of fun m hm => ?_⟩
  repeat' walk_at "dl"
  refine we_call ?_
  repeat' walk_at "dl"
  refine ⟨⟨p, wk, rfl, hb, by omega⟩, fun dd hdd => ?_⟩
  obtain ⟨room, rfl, hroom, hkw⟩ := hdd p wk rfl
  repeat' walk_at "dl"
  refine we_callS rfl ?_
  repeat' walk_at "dl"
  have e1 : (if (4 : Int) < (room : Nat) then (4 : Int) else (room : Nat)) = ((min room 4 : Nat) : Int) := by split <;> omega
  rw [e1]
  refine ⟨⟨_, rfl, by omega, by omega⟩, draw_of fun d hd => ?_⟩
  repeat' walk_at "dl"
  have e2 : ((room : Nat) : Int).fdiv (1 + (d : Nat)) = ((room / (d + 1) : Nat) : Int) := by
    rw [Int.fdiv_eq_ediv_of_nonneg _ (by omega), Int.natCast_ediv]
    congr 1
    omega
  have hq : 1 ≤ room / (d + 1) := (Nat.le_div_iff_mul_le (by omega)).mpr (by omega)
  have hqm := Nat.div_mul_le_self room (d + 1)
  generalize room / (d + 1) = q at e2 hq hqm
  have hwk : ∀ s : Nat, s < min q 6 → p ^ ((s + 1) * (d + 1)) ≤ wk := fun s hs => by
    refine Int.le_trans ?_ hkw
    refine pow_mono (by omega) (Nat.le_trans (Nat.mul_le_mul_right _ (show s + 1 ≤ q by omega)) hqm)
  have e3 : (if (6 : Int) < (q : Nat) then (6 : Int) else (q : Nat)) = ((min q 6 : Nat) : Int) := by split <;> omega
  have em : (1 : Int) + (m : Nat) = ((m + 1 : Nat) : Int) := by omega
  have ed : (1 : Int) + (d : Nat) = ((d + 1 : Nat) : Int) := by omega
  have hmk : p ^ (m + 1) ≤ t := by
    refine Int.le_trans ?_ hkt
    exact pow_mono (by omega) (by omega)
  refine we_callS rfl ?_
  repeat' walk_at "dl"
  rw [e2, e3]
  refine ⟨⟨_, rfl, by omega, by omega⟩, draw_of fun s hs => ?_⟩
  repeat' walk_at "dl"
  · refine we_callS rfl ?_
    repeat' walk_at "dl"
    rw [e2, e3]
    refine ⟨⟨_, rfl, by omega, by omega⟩, draw_of fun s hs => ?_⟩
    repeat' walk_at "dl"
    refine we_fresh (wf_rel (wj_rng1 ?_))
    repeat' walk_at "dl"
    refine ⟨_, rfl, by omega, szl (by rw [rngD_len]; omega), fun _ e => ∃ t, e = tabD t ∧ TabOk p (d + 1) (m + 1) t, fun i dd hd => ?_, fun es hl hr => ?_⟩
    · refine wgv_name (by simp) ?_
      refine we_callS rfl ?_
      repeat' walk_at "dl"
      rw [em, ed]
      exact ⟨⟨p, d + 1, m + 1, rfl, hb, by omega, by omega⟩, tab_of fun t ht => ⟨t, rfl, ht⟩⟩
    · obtain ⟨ts, rfl, hl, hq⟩ := tabs_of hl hr
      repeat' walk_at "dl"
      intro t' wk' e
      cases e
      exact ⟨p, ts, s + 1, d + 1, m + 1, rfl, ⟨hb, by omega, by omega, by omega, by omega, hq⟩, hmk, hwk s hs⟩
  · refine we_fresh (wf_rel (wj_rng1 ?_))
    repeat' walk_at "dl"
    refine ⟨_, rfl, by omega, szl (by rw [rngD_len]; omega), fun _ e => ∃ t, e = tabD t ∧ TabOk p (d + 1) (m + 1) t, fun i dd hd => ?_, fun es hl hr => ?_⟩
    · refine wgv_name (by simp) ?_
      refine we_callS rfl ?_
      repeat' walk_at "dl"
      rw [em, ed]
      exact ⟨⟨p, d + 1, m + 1, rfl, hb, by omega, by omega⟩, tab_of fun t ht => ⟨t, rfl, ht⟩⟩
    · obtain ⟨ts, rfl, hl, hq⟩ := tabs_of hl hr
      repeat' walk_at "dl"
      intro t' wk' e
      cases e
      exact ⟨p, ts, s + 1, d + 1, m + 1, rfl, ⟨hb, by omega, by omega, by omega, by omega, hq⟩, hmk, hwk s hs⟩
end

end Lw

namespace Lw
open PySem PySem.Spec PyProof.Rows L2 DlP Dl
local macro_rules | `(tactic| walk_at "dl") => `(tactic| first
  | with_reducible refine ws_next ?_
  | with_reducible refine ws_seq ?_
  | with_reducible refine ws_if ?_
  | with_reducible refine wt_not ?_
  | with_reducible refine wt_and ?_
  | with_reducible refine wt_or ?_
  | with_reducible refine wt_chainI ?_
  | with_reducible refine wt_test ?_
  | with_reducible refine wt_B ?_
  | with_reducible refine ws_ret ?_
  | with_reducible refine ws_cont ?_
  | with_reducible refine ws_break ?_
  | with_reducible refine wa_cons ?_
  | with_reducible refine wa_nil ?_
  | ((with_reducible refine we_var (d := ?dd) ?hv ?_); (case hv => exact rfl))
  | with_reducible refine we_int ?_
  | with_reducible refine we_bl ?_
  | with_reducible refine we_non ?_
  | with_reducible refine we_str ?_
  | with_reducible refine we_neg ?_
  | ((with_reducible refine we_spr ?hv ?hw (fun z => ?_)); (case hv => exact rfl); (case hw => decide))
  | ((with_reducible refine ws_spr ?hv ?hw ?_); (case hv => exact rfl); (case hw => decide))
  | with_reducible refine ws_set ?_
  | with_reducible refine ws_asgG ?_
  | with_reducible refine wg_two ?_
  | with_reducible refine wg_name ?_
  | with_reducible refine we_andV ?_
  | with_reducible refine we_orV ?_
  | with_reducible refine we_notV ?_
  | with_reducible refine we_if ?_
  | with_reducible refine we_chainI ?_
  | with_reducible refine we_isN ?_
  | with_reducible refine we_notN ?_
  | with_reducible refine we_repL ?_
  | with_reducible refine we_catLc ?_
  | with_reducible refine we_op ?_
  | with_reducible refine we_isInt ?_
  | with_reducible refine we_isBool ?_
  | with_reducible refine we_isTup ?_
  | with_reducible refine we_cb ?_
  | with_reducible refine we_tup2 ?_
  | with_reducible refine we_tup1 ?_
  | with_reducible refine we_tup ?_
  | with_reducible refine ow_addI ?_
  | with_reducible refine ow_I0b ?_
  | with_reducible refine ow_eqUI ?_
  | with_reducible refine ow_neUI ?_
  | ((with_reducible refine ow_mulI ?hc ?_); (case hc => first | exact cmul_right (by decide) | exact cmul_left (by decide) | exact cmul_right (by omega) | exact cmul_left (by omega)))
  | ((with_reducible refine ow_modN ?hc ?_); (case hc => omega))
  | ((with_reducible refine ow_fdivL ?hc ?_); (case hc => (exact cdivL (by omega) (by omega))))
  | ((with_reducible refine ow_pow ?hc ?_); (case hc => exact ⟨by decide, by decide, by decide⟩))
  | with_reducible refine ow_I0i ?_
  | with_reducible refine cw_int ?_
  | with_reducible refine cw_intB ?_
  | with_reducible refine cw_abs ?_
  | with_reducible refine cw_max2U ?_
  | with_reducible refine cw_min2U ?_
  | with_reducible refine cw_allT ?_
  | with_reducible refine cw_tupleL ?_
  | with_reducible refine cw_tupleT ?_
  | with_reducible refine cw_lenL ?_
  | with_reducible refine cw_lenT ?_
  | with_reducible refine cw_lenScr ?_
  | with_reducible refine ex_int ?_
  | with_reducible refine ex_two ?_
  | with_reducible refine ex_bool ?_
  | with_reducible refine ex_list ?_
  | with_reducible refine ex_tuple ?_
  | with_reducible refine ex_seqL ?_
  | with_reducible refine ex_seqT ?_
  | with_reducible refine and_cases (fun hb => ?_) (fun hb => ?_)
  | with_reducible refine or_cases (fun hb => ?_) (fun hb => ?_))

local macro_rules | `(tactic| walk_at "dl") => `(tactic| first
  | with_reducible refine cw_lenRow ?_
  | with_reducible refine cw_lenTab ?_
  | with_reducible refine ow_net0 ?_
  | with_reducible refine ow_net1 ?_
  | with_reducible refine ow_tabs0 ?_
  | with_reducible refine ow_tab0 ?_
  | with_reducible refine ex_seqRow ?_
  | with_reducible refine ex_seqTab ?_)

section
variable {P : Program} {w : World} {K : Fg} {mg : Str → Option Value} {base : Heap}
def preAny (ds : List D) : Prop := ∃ d : D, ds = [d] ∧ clean d = true
def postWhole (ds : List D) (e : D) : Prop := ∀ d : D, ds = [d] → e = .bool (isIntD d && !isBoolD d)
theorem ok_is_whole {f : Addr} {fd : FuncData} (F : Fun K "is_whole" "is_whole" s_is_whole f fd) (B : Bi K mg) : FnG P w K mg base CX0 1 f fd ["value"] (spF K preAny postWhole) := by
  refine ok_fn F sc_is_whole (fun ds ⟨_, e, _⟩ => by rw [e]; rfl) (fun cdv A outer s H E hr hgd => ?_)
  refine ⟨_, (pss_one (ps_ret (pe_and (pe_callB (call_isiK (K := K) rfl) (by rfl) B.z_isinstance (by decide +kernel) (pa_cons (pv 0) (pa_cons (pe_bltn (v := .ty "int") (by rfl) B.z_int (by decide +kernel) rfl) pa_nil))) (pe_one (pe_not (pe_callB (call_isiK (K := K) rfl) (by rfl) B.z_isinstance (by decide +kernel) (pa_cons (pv 0) (pa_cons (pe_bltn (v := .ty "bool") (by rfl) B.z_bool (by decide +kernel) rfl) pa_nil)))))))), ?_⟩
  rintro ds ⟨d, rfl, hd⟩
  show WS _ none _ _ [.dat d]
  repeat' walk_at "dl"
  refine ⟨hd, ?_⟩
  repeat' walk_at "dl"
  · refine ⟨hd, ?_⟩
    repeat' walk_at "dl"
    rename_i h
    intro d' e
    cases e
    rw [h, Bool.true_and]
  · rename_i h
    intro d' e
    cases e
    rw [h, Bool.false_and]
def postBase (ds : List D) (e : D) : Prop := ∀ d : D, ds = [d] → e = .bool (baseB d)
theorem ok_is_base {f fW : Addr} {fd fdW : FuncData} (F : Fun K "is_base" "is_base" s_is_base f fd) (B : Bi K mg) (d_is_whole : Df P w K mg base 1 "is_whole" fW fdW ["value"] (spF K preAny postWhole)) : FnG P w K mg base CX0 2 f fd ["value"] (spF K preAny postBase) := by
  refine ok_fn F sc_is_base (fun ds ⟨_, e, _⟩ => by rw [e]; rfl) (fun cdv A outer s H E hr hgd => ?_)
  refine ⟨_, (pss_one (ps_ret (pe_and (pe_callG d_is_whole.ok (hr.mono (by decide)) hgd (by rfl) d_is_whole.g d_is_whole.kp d_is_whole.b .nil pass0 (pa_cons (pv 0) pa_nil)) (pe_one (pe_cmpR (op_in_seqK (K := K) rfl) (pv 0) (pe_glob (v := .ref (Classical.choose B.c_BASES)) (by rfl) (Classical.choose_spec B.c_BASES).1 rfl) (by rfl)))))), ?_⟩
  rintro ds ⟨d, rfl, hd⟩
  show WS _ none _ _ [.dat d]
  walk_at "dl"
  walk_at "dl"
  refine we_call ?_
  repeat' walk_at "dl"
  refine ⟨⟨_, rfl, hd⟩, fun e he => ?_⟩
  rw [he _ rfl]
  walk_at "dl"
  walk_at "dl"
  · rename_i h
    obtain ⟨p, rfl⟩ := whole_inv h
    refine we_inC (ns := [2, 3, 5, 7]) (Classical.choose_spec B.c_BASES).2 rfl ?_
    repeat' walk_at "dl"
    intro d' e
    cases e
    rfl
  · rename_i h
    intro d' e
    cases e
    have := not_whole h
    cases d <;> first | rfl | (exact absurd rfl (this _))
def preFig (ds : List D) : Prop := ∃ (p : Int) (d : D), ds = [.int p, d] ∧ clean d = true
def postFig (ds : List D) (e : D) : Prop := ∀ (p : Int) (d : D), ds = [.int p, d] → e = .bool (figB p d)
theorem ok_is_figure {f fW : Addr} {fd fdW : FuncData} (F : Fun K "is_figure" "is_figure" s_is_figure f fd) (B : Bi K mg) (d_is_whole : Df P w K mg base 1 "is_whole" fW fdW ["value"] (spF K preAny postWhole)) : FnG P w K mg base CX0 2 f fd ["base", "value"] (spF K preFig postFig) := by
  refine ok_fn F sc_is_figure (fun ds ⟨_, _, e, _⟩ => by rw [e]; rfl) (fun cdv A outer s H E hr hgd => ?_)
  refine ⟨_, (pss_one (ps_ret (pe_and (pe_callG d_is_whole.ok (hr.mono (by decide)) hgd (by rfl) d_is_whole.g d_is_whole.kp d_is_whole.b .nil pass0 (pa_cons (pv 1) pa_nil)) (pe_one (pe_chain op_le op_lt pe_int (pv 1) (pv 0)))))), ?_⟩
  rintro ds ⟨p, d, rfl, hd⟩
  show WS _ none _ _ [.dat (.int p), .dat d]
  walk_at "dl"
  walk_at "dl"
  refine we_call ?_
  repeat' walk_at "dl"
  refine ⟨⟨_, rfl, hd⟩, fun e he => ?_⟩
  rw [he _ rfl]
  walk_at "dl"
  walk_at "dl"
  · rename_i h
    obtain ⟨x, rfl⟩ := whole_inv h
    repeat' walk_at "dl"
    · rename_i h2
      intro p' d' e
      cases e
      show PyData.bool _ = PyData.bool (decide (0 ≤ x) && decide (x < p))
      rw [h2, Bool.true_and]
    · rename_i h2
      intro p' d' e
      cases e
      show PyData.bool _ = PyData.bool (decide (0 ≤ x) && decide (x < p))
      rw [h2, Bool.false_and]
  · rename_i h
    intro p' d' e
    cases e
    have := not_whole h
    cases d <;> first | rfl | (exact absurd rfl (this _))
def preRow (ds : List D) : Prop := ∃ (p : Int) (d : D) (l m : Int), ds = [.int p, d, .int l, .int m] ∧ clean d = true ∧ m ≤ 1000
def postRow (ds : List D) (e : D) : Prop := ∀ (p : Int) (d : D) (l m : Int), ds = [.int p, d, .int l, .int m] → e = .bool (rowB p l m d)
theorem ok_is_row {f fW : Addr} {fd fdW : FuncData} (F : Fun K "is_row" "is_row" s_is_row f fd) (B : Bi K mg) (d_is_figure : Df P w K mg base 2 "is_figure" fW fdW ["base", "value"] (spF K preFig postFig)) : FnG P w K mg base CX0 3 f fd ["base", "value", "least", "most"] (spF K preRow postRow) := by
  refine ok_fn F sc_is_row (fun ds ⟨_, _, _, _, e, _⟩ => by rw [e]; rfl) (fun cdv A outer s H E hr hgd => ?_)
  refine ⟨_, (pss_cons (ps_if (PW.pt (pw_or (pt_not (pt_val (pe_callB (call_isiK (K := K) rfl) (by rfl) B.z_isinstance (by decide +kernel) (pa_cons (pv 1) (pa_cons (pe_bltn (v := .ty "tuple") (by rfl) B.z_tuple (by decide +kernel) rfl) pa_nil))))) (pw_or1 (pt_not (pt_chain op_le op_le (pv 2) (pe_callB (call_lenK (K := K) rfl) (by rfl) B.z_len (by decide +kernel) (pa_cons (pv 1) pa_nil)) (pv 3))))))
      (pss_one (ps_ret pe_bl))
      pss_nil)
      (pss_one (ps_ret (pe_callB (cr_allK (K := K) rfl (by rfl)) (by rfl) B.z_all (by decide +kernel) (pa_cons (pe_lc (own := [("one", 4)]) (g := (gName 4)) (tt := tYes) (by rfl) sc_is_row.nd (pi_seqK (K := K) rfl (pv 1)) (blkOk_by (own := [("one", 4)]) (N := ["base", "value", "least", "most", "one"]) (sc := defScope s_is_row) (by decide +kernel)) (fun _ _ _ _ _ => (pg_name (i := 4) sc_is_row.nd rfl (by first | exact Or.inl rfl | exact Or.inr rfl))) (fun _ _ _ _ _ => pts_nil) (fun _ _ _ _ _ => (pe_callG d_is_figure.ok (hr.mono (by decide)) hgd (by rfl) d_is_figure.g d_is_figure.kp d_is_figure.b .nil pass0 (pa_cons (pv 0) (pa_cons (pv 4) pa_nil))))) pa_nil))))), ?_⟩
  rintro ds ⟨p, d, l, m, rfl, hd, hm⟩
  show WS _ none _ _ [.dat (.int p), .dat d, .dat (.int l), .dat (.int m), .no]
  repeat' walk_at "dl"
  refine ⟨hd, ?_⟩
  repeat' walk_at "dl"
  · rename_i h
    obtain ⟨xs, rfl⟩ := tup_inv h
    have hx := clean_tup hd
    repeat' walk_at "dl"
    all_goals first
      | (exfalso; rename_i h1; simp at h1; done)
      | (rename_i h1 h2
         have hn := rowB_out (p := p) (l := l) (m := m) (xs := xs) (by simp at h1 h2; omega)
         intro p' d' l' m' e
         cases e
         rw [hn])
      | skip
    rename_i h1 h2
    have h1 : l ≤ (xs.length : Nat) := of_decide_eq_true h1
    have h2 : ((xs.length : Nat) : Int) ≤ m := by simpa using h2
    refine we_fresh (wf_map (fun d => .bool (figB p d)) (wj_seq ?_))
    repeat' walk_at "dl"
    refine ⟨szl (by omega), fun i dd hdd => ?_, ?_⟩
    · refine wgv_name (by simp) ?_
      refine we_call ?_
      repeat' walk_at "dl"
      exact ⟨⟨p, dd, rfl, hx dd (List.mem_of_getElem? hdd)⟩, fun e he => he p dd rfl⟩
    · refine wa_nil (cw_allB ?_)
      have hn := rowB_in (p := p) (l := l) (m := m) (xs := xs) ⟨h1, h2⟩
      intro p' d' l' m' e
      cases e
      rw [hn]
  · rename_i h _
    intro p' d' l' m' e
    cases e
    have := not_tup h
    cases d <;> first | rfl | (exact absurd rfl (this _))
  · rename_i h
    cases h
def preTable (ds : List D) : Prop := ∃ (p : Int) (d : D), ds = [.int p, d] ∧ clean d = true
def postTable (ds : List D) (e : D) : Prop := ∀ (p : Int) (d : D), ds = [.int p, d] → e = .bool (tabB p d)
theorem ok_are_rows {f fR : Addr} {fd fdR : FuncData} (F : Fun K "are_rows" "are_rows" s_are_rows f fd) (B : Bi K mg) (d_is_row : Df P w K mg base 3 "is_row" fR fdR ["base", "value", "least", "most"] (spF K preRow postRow)) : FnG P w K mg base CX0 4 f fd ["base", "value", "most_rows", "most_figures"] (spA K (fun x : Rws => [.int x.p, x.d, .int x.n, .int x.m]) (fun x => clean x.d = true ∧ x.n ≤ 1000 ∧ x.m ≤ 1000) (fun x e => e = .bool (rowsB x.p x.n x.m x.d))) := by
  refine ok_fnA F sc_are_rows (fun _ => rfl) (fun cdv A outer s H E hr hgd => ?_)
  refine ⟨_, (pss_cons (ps_if (PW.pt (pw_or (pt_not (pt_val (pe_callB (call_isiK (K := K) rfl) (by rfl) B.z_isinstance (by decide +kernel) (pa_cons (pv 1) (pa_cons (pe_bltn (v := .ty "tuple") (by rfl) B.z_tuple (by decide +kernel) rfl) pa_nil))))) (pw_or1 (pt_not (pt_chain op_le op_le pe_int (pe_callB (call_lenK (K := K) rfl) (by rfl) B.z_len (by decide +kernel) (pa_cons (pv 1) pa_nil)) (pv 2))))))
      (pss_one (ps_ret pe_bl))
      pss_nil)
      (pss_cons (ps_if (pt_not (pt_val (pe_callB (cr_allK (K := K) rfl (by rfl)) (by rfl) B.z_all (by decide +kernel) (pa_cons (pe_lc (own := [("row", 4)]) (g := (gName 4)) (tt := tYes) (by rfl) sc_are_rows.nd (pi_seqK (K := K) rfl (pv 1)) (blkOk_by (own := [("row", 4)]) (N := ["base", "value", "most_rows", "most_figures", "row"]) (sc := defScope s_are_rows) (by decide +kernel)) (fun _ _ _ _ _ => (pg_name (i := 4) sc_are_rows.nd rfl (by first | exact Or.inl rfl | exact Or.inr rfl))) (fun _ _ _ _ _ => pts_nil) (fun _ _ _ _ _ => (pe_callG d_is_row.ok (hr.mono (by decide)) hgd (by rfl) d_is_row.g d_is_row.kp d_is_row.b .nil pass0 (pa_cons (pv 0) (pa_cons (pv 4) (pa_cons pe_int (pa_cons (pv 3) pa_nil))))))) pa_nil))))
      (pss_one (ps_ret pe_bl))
      pss_nil)
      (pss_one (ps_ret (pe_callB (cr_allK (K := K) rfl (by rfl)) (by rfl) B.z_all (by decide +kernel) (pa_cons (pe_lc (own := [("row", 4)]) (g := (gName 4)) (tt := tYes) (by rfl) sc_are_rows.nd (pi_seqK (K := K) rfl (pv 1)) (blkOk_by (own := [("row", 4)]) (N := ["base", "value", "most_rows", "most_figures", "row"]) (sc := defScope s_are_rows) (by decide +kernel)) (fun _ _ _ _ _ => (pg_name (i := 4) sc_are_rows.nd rfl (by first | exact Or.inl rfl | exact Or.inr rfl))) (fun _ _ _ _ _ => pts_nil) (fun _ _ _ _ _ => (pe_cmpR (op_eqUK (K := K) rfl hr.units) (pe_callB (call_lenK (K := K) rfl) (by rfl) B.z_len (by decide +kernel) (pa_cons (pv 4) pa_nil)) (pe_callB (call_lenK (K := K) rfl) (by rfl) B.z_len (by decide +kernel) (pa_cons (pe_ix (ix_seqK (K := K) rfl) (pv 1) pe_int (fun _ _ => rfl)) pa_nil)) (nomark _)))) pa_nil)))))), ?_⟩
  rintro ⟨p, d, n, m⟩ ⟨hd, hn, hm⟩
  dsimp only at hd hn hm
  show WS _ none _ _ [.dat (.int p), .dat d, .dat (.int n), .dat (.int m), .no]
  repeat' walk_at "dl"
  refine ⟨hd, ?_⟩
  repeat' walk_at "dl"
  · rename_i h
    obtain ⟨xs, rfl⟩ := tup_inv h
    have hx := clean_tup hd
    repeat' walk_at "dl"
    all_goals first
      | (exfalso; rename_i h1; simp at h1; done)
      | (rename_i h1 h2
         have hn := rowsB_out (p := p) (n := n) (m := m) (rs := xs) (by simp at h1 h2; omega)
         show _ = _
         rw [hn])
      | skip
    rename_i h1 h2
    have h1 : 1 ≤ (xs.length : Int) := by have := of_decide_eq_true h1; omega
    have h2 : (xs.length : Int) ≤ n := by simp at h2; omega
    have hn := rowsB_in (p := p) (n := n) (m := m) (rs := xs) ⟨h1, h2⟩
    refine we_fresh (wf_map (fun d => .bool (rowB p 1 m d)) (wj_seq ?_))
    repeat' walk_at "dl"
    refine ⟨szl (by omega), fun i dd hdd => ?_, ?_⟩
    · refine wgv_name (by simp) ?_
      refine we_call ?_
      repeat' walk_at "dl"
      exact ⟨⟨p, dd, 1, m, rfl, hx dd (List.mem_of_getElem? hdd), hm⟩, fun e he => he p dd 1 m rfl⟩
    · refine wa_nil (cw_allB ?_)
      repeat' walk_at "dl"
      · rename_i h3
        have h3 : xs.all (rowB p 1 m) = false := by
          cases z : xs.all (rowB p 1 m) with
          | false => rfl
          | true => rw [z] at h3; cases h3
        rw [h3] at hn
        show _ = _
        rw [hn]
        rfl
      · rename_i h3
        have h3 : xs.all (rowB p 1 m) = true := by
          cases z : xs.all (rowB p 1 m) with
          | true => rfl
          | false => rw [z] at h3; cases h3
        rw [h3, Bool.true_and] at hn
        obtain ⟨x0, xs', rfl⟩ : ∃ x0 xs', xs = x0 :: xs' := by
          cases xs with
          | nil => simp at h1
          | cons a b => exact ⟨a, b, rfl⟩
        have h4 := List.all_eq_true.mp h3
        obtain ⟨ys, rfl, _⟩ := rowB_tup (h4 x0 (by simp))
        refine we_fresh (wf_map (fun d => .bool (decide (lenD d = ys.length))) (wj_seq ?_))
        repeat' walk_at "dl"
        refine ⟨szl (by omega), fun i dd hdd => ?_, ?_⟩
        · obtain ⟨zs, rfl, _⟩ := rowB_tup (h4 dd (List.mem_of_getElem? hdd))
          refine wgv_name (by simp) ?_
          repeat' walk_at "dl"
          refine ow_ixT' (x := .tuple ys) (atI_nat (j := 0) rfl) ?_
          repeat' walk_at "dl"
          show PyData.bool (decide (((zs.length : Nat) : Int) = ((ys.length : Nat) : Int))) = PyData.bool (decide (zs.length = ys.length))
          congr 1
          exact decide_eq_decide.mpr ⟨fun h => by omega, fun h => by omega⟩
        · refine wa_nil (cw_allB ?_)
          show _ = _
          rw [hn]
          rfl
  · rename_i h _
    show _ = _
    rw [rowsB_no h]
  · rename_i h
    cases h
theorem ok_is_table {f fR : Addr} {fd fdR : FuncData} (F : Fun K "is_table" "is_table" s_is_table f fd) (B : Bi K mg) (d_are_rows : Df P w K mg base 4 "are_rows" fR fdR ["base", "value", "most_rows", "most_figures"] (spA K (fun x : Rws => [.int x.p, x.d, .int x.n, .int x.m]) (fun x => clean x.d = true ∧ x.n ≤ 1000 ∧ x.m ≤ 1000) (fun x e => e = .bool (rowsB x.p x.n x.m x.d)))) : FnG P w K mg base CX0 5 f fd ["base", "value"] (spF K preTable postTable) := by
  refine ok_fn F sc_is_table (fun ds ⟨_, _, e, _⟩ => by rw [e]; rfl) (fun cdv A outer s H E hr hgd => ?_)
  refine ⟨_, (pss_one (ps_ret (pe_callG d_are_rows.ok (hr.mono (by decide)) hgd (by rfl) d_are_rows.g d_are_rows.kp d_are_rows.b .nil pass0 (pa_cons (pv 0) (pa_cons (pv 1) (pa_cons (pe_glob (v := .int 12) (by rfl) (Classical.choose_spec B.c_MOST_DEPTH) ⟨_, rfl⟩) (pa_cons (pe_glob (v := .int 12) (by rfl) (Classical.choose_spec B.c_MOST_WIDTH) ⟨_, rfl⟩) pa_nil))))))), ?_⟩
  rintro ds ⟨p, d, rfl, hd⟩
  show WS _ none _ _ [.dat (.int p), .dat d]
  repeat' walk_at "dl"
  refine we_callA ?_
  repeat' walk_at "dl"
  refine ⟨⟨p, d, 12, 12⟩, rfl, ⟨hd, by show (12 : Int) ≤ 1000; omega, by show (12 : Int) ≤ 1000; omega⟩, fun e he => ?_⟩
  intro p' d' e2
  cases e2
  rw [show e = _ from he]
  show PyData.bool (rowsB p 12 12 d) = _
  rw [rowsB_tab]
end

end Lw

namespace Lw
open PySem PySem.Spec PyProof.Rows L2 DlP Dl
local macro_rules | `(tactic| walk_at "dl") => `(tactic| first
  | with_reducible refine ws_next ?_
  | with_reducible refine ws_seq ?_
  | with_reducible refine ws_if ?_
  | with_reducible refine wt_not ?_
  | with_reducible refine wt_and ?_
  | with_reducible refine wt_or ?_
  | with_reducible refine wt_chainI ?_
  | with_reducible refine wt_test ?_
  | with_reducible refine wt_B ?_
  | with_reducible refine ws_ret ?_
  | with_reducible refine ws_cont ?_
  | with_reducible refine ws_break ?_
  | with_reducible refine wa_cons ?_
  | with_reducible refine wa_nil ?_
  | ((with_reducible refine we_var (d := ?dd) ?hv ?_); (case hv => exact rfl))
  | with_reducible refine we_int ?_
  | with_reducible refine we_bl ?_
  | with_reducible refine we_non ?_
  | with_reducible refine we_str ?_
  | with_reducible refine we_neg ?_
  | ((with_reducible refine we_spr ?hv ?hw (fun z => ?_)); (case hv => exact rfl); (case hw => decide))
  | ((with_reducible refine ws_spr ?hv ?hw ?_); (case hv => exact rfl); (case hw => decide))
  | with_reducible refine ws_set ?_
  | with_reducible refine ws_asgG ?_
  | with_reducible refine wg_two ?_
  | with_reducible refine wg_name ?_
  | with_reducible refine we_andV ?_
  | with_reducible refine we_orV ?_
  | with_reducible refine we_notV ?_
  | with_reducible refine we_if ?_
  | with_reducible refine we_chainI ?_
  | with_reducible refine we_isN ?_
  | with_reducible refine we_notN ?_
  | with_reducible refine we_repL ?_
  | with_reducible refine we_catLc ?_
  | with_reducible refine we_op ?_
  | with_reducible refine we_isInt ?_
  | with_reducible refine we_isBool ?_
  | with_reducible refine we_isTup ?_
  | with_reducible refine we_cb ?_
  | with_reducible refine we_tup2 ?_
  | with_reducible refine we_tup1 ?_
  | with_reducible refine we_tup ?_
  | with_reducible refine ow_addI ?_
  | with_reducible refine ow_I0b ?_
  | with_reducible refine ow_eqUI ?_
  | with_reducible refine ow_neUI ?_
  | ((with_reducible refine ow_mulI ?hc ?_); (case hc => first | exact cmul_right (by decide) | exact cmul_left (by decide) | exact cmul_right (by omega) | exact cmul_left (by omega)))
  | ((with_reducible refine ow_modN ?hc ?_); (case hc => omega))
  | ((with_reducible refine ow_fdivL ?hc ?_); (case hc => (exact cdivL (by omega) (by omega))))
  | ((with_reducible refine ow_pow ?hc ?_); (case hc => exact ⟨by decide, by decide, by decide⟩))
  | with_reducible refine ow_I0i ?_
  | with_reducible refine cw_int ?_
  | with_reducible refine cw_intB ?_
  | with_reducible refine cw_abs ?_
  | with_reducible refine cw_max2U ?_
  | with_reducible refine cw_min2U ?_
  | with_reducible refine cw_allT ?_
  | with_reducible refine cw_tupleL ?_
  | with_reducible refine cw_tupleT ?_
  | with_reducible refine cw_lenL ?_
  | with_reducible refine cw_lenT ?_
  | with_reducible refine cw_lenScr ?_
  | with_reducible refine ex_int ?_
  | with_reducible refine ex_two ?_
  | with_reducible refine ex_bool ?_
  | with_reducible refine ex_list ?_
  | with_reducible refine ex_tuple ?_
  | with_reducible refine ex_seqL ?_
  | with_reducible refine ex_seqT ?_
  | with_reducible refine and_cases (fun hb => ?_) (fun hb => ?_)
  | with_reducible refine or_cases (fun hb => ?_) (fun hb => ?_))

local macro_rules | `(tactic| walk_at "dl") => `(tactic| first
  | with_reducible refine cw_lenRow ?_
  | with_reducible refine cw_lenTab ?_
  | with_reducible refine ow_net0 ?_
  | with_reducible refine ow_net1 ?_
  | with_reducible refine ow_tabs0 ?_
  | with_reducible refine ow_tab0 ?_
  | with_reducible refine ex_seqRow ?_
  | with_reducible refine ex_seqTab ?_)

section
variable {P : Program} {w : World} {K : Fg} {mg : Str → Option Value} {base : Heap}
def preSize (ds : List D) : Prop := ∃ (ys rs : List D) (a b : Nat), ds = [.tuple (.tuple ys :: rs), .int a, .int b]
def postSize (ds : List D) (e : D) : Prop := ∀ (t : D) (a b : Nat), ds = [t, .int a, .int b] → e = .bool (sizeB a b t)
theorem ok_is_of_size {f : Addr} {fd : FuncData} (F : Fun K "is_of_size" "is_of_size" s_is_of_size f fd) (B : Bi K mg) : FnG P w K mg base CX0 1 f fd ["table", "depth", "width"] (spF K preSize postSize) := by
  refine ok_fn F sc_is_of_size (fun ds ⟨_, _, _, _, e⟩ => by rw [e]; rfl) (fun cdv A outer s H E hr hgd => ?_)
  refine ⟨_, (pss_one (ps_ret (pe_and (pe_cmpR (op_eqUK (K := K) rfl hr.units) (pe_callB (call_lenK (K := K) rfl) (by rfl) B.z_len (by decide +kernel) (pa_cons (pv 0) pa_nil)) (pv 1) (nomark _)) (pe_one (pe_cmpR (op_eqUK (K := K) rfl hr.units) (pe_callB (call_lenK (K := K) rfl) (by rfl) B.z_len (by decide +kernel) (pa_cons (pe_ix (ix_seqK (K := K) rfl) (pv 0) pe_int (fun _ _ => rfl)) pa_nil)) (pv 2) (nomark _)))))), ?_⟩
  rintro ds ⟨ys, rs, a, b, rfl⟩
  show WS _ none _ _ [.dat (.tuple (.tuple ys :: rs)), .dat (.int a), .dat (.int b)]
  repeat' walk_at "dl"
  · rename_i h
    refine ow_ixT' (x := .tuple ys) (atI_nat (j := 0) rfl) ?_
    repeat' walk_at "dl"
    intro t' a' b' e
    injection e with e1 e
    injection e with e2 e
    injection e with e3 e
    injection e2 with e2
    injection e3 with e3
    have e2 : a = a' := by omega
    have e3 : b = b' := by omega
    subst e1
    subst e2
    subst e3
    rw [decN] at h ⊢
    show _ = PyData.bool (decide ((PyData.tuple ys :: rs).length = a) && decide (ys.length = b))
    rw [h, Bool.true_and]
  · rename_i h
    intro t' a' b' e
    injection e with e1 e
    injection e with e2 e
    injection e with e3 e
    injection e2 with e2
    injection e3 with e3
    have e2 : a = a' := by omega
    have e3 : b = b' := by omega
    subst e1
    subst e2
    subst e3
    rw [decN] at h
    show _ = PyData.bool (decide ((PyData.tuple ys :: rs).length = a) && decide (ys.length = b))
    rw [h, Bool.false_and]
def preTs (ds : List D) : Prop := ∃ (p : Int) (d : D), ds = [.int p, d] ∧ clean d = true
def postTs (ds : List D) (e : D) : Prop := ∀ (p : Int) (d : D), ds = [.int p, d] → e = .bool (tablesB p d)
theorem ok_are_tables {f fT fS : Addr} {fd fdT fdS : FuncData} (F : Fun K "are_tables" "are_tables" s_are_tables f fd) (B : Bi K mg) (d_is_table : Df P w K mg base 5 "is_table" fT fdT ["base", "value"] (spF K preTable postTable))
    (d_is_of_size : Df P w K mg base 1 "is_of_size" fS fdS ["table", "depth", "width"] (spF K preSize postSize)) : FnG P w K mg base CX0 6 f fd ["base", "value"] (spF K preTs postTs) := by
  refine ok_fn F sc_are_tables (fun ds ⟨_, _, e, _⟩ => by rw [e]; rfl) (fun cdv A outer s H E hr hgd => ?_)
  refine ⟨_, (pss_cons (ps_if (PW.pt (pw_or (pt_not (pt_val (pe_callB (call_isiK (K := K) rfl) (by rfl) B.z_isinstance (by decide +kernel) (pa_cons (pv 1) (pa_cons (pe_bltn (v := .ty "tuple") (by rfl) B.z_tuple (by decide +kernel) rfl) pa_nil))))) (pw_or1 (pt_not (pt_chain op_le op_le pe_int (pe_callB (call_lenK (K := K) rfl) (by rfl) B.z_len (by decide +kernel) (pa_cons (pv 1) pa_nil)) (pe_glob (v := .int 6) (by rfl) (Classical.choose_spec B.c_MOST_DIMENSIONS) ⟨_, rfl⟩))))))
      (pss_one (ps_ret pe_bl))
      pss_nil)
      (pss_cons (ps_if (pt_not (pt_val (pe_callB (cr_allK (K := K) rfl (by rfl)) (by rfl) B.z_all (by decide +kernel) (pa_cons (pe_lc (own := [("table", 4)]) (g := (gName 4)) (tt := tYes) (by rfl) sc_are_tables.nd (pi_seqK (K := K) rfl (pv 1)) (blkOk_by (own := [("table", 4)]) (N := ["base", "value", "depth", "width", "table"]) (sc := defScope s_are_tables) (by decide +kernel)) (fun _ _ _ _ _ => (pg_name (i := 4) sc_are_tables.nd rfl (by first | exact Or.inl rfl | exact Or.inr rfl))) (fun _ _ _ _ _ => pts_nil) (fun _ _ _ _ _ => (pe_callG d_is_table.ok (hr.mono (by decide)) hgd (by rfl) d_is_table.g d_is_table.kp d_is_table.b .nil pass0 (pa_cons (pv 0) (pa_cons (pv 4) pa_nil))))) pa_nil))))
      (pss_one (ps_ret pe_bl))
      pss_nil)
      (pss_cons (ps_set (i := 2) sc_are_tables.nd rfl (by first | exact Or.inl rfl | exact Or.inr rfl) (pe_callB (call_lenK (K := K) rfl) (by rfl) B.z_len (by decide +kernel) (pa_cons (pe_ix (ix_seqK (K := K) rfl) (pv 1) pe_int (fun _ _ => rfl)) pa_nil)))
      (pss_cons (ps_set (i := 3) sc_are_tables.nd rfl (by first | exact Or.inl rfl | exact Or.inr rfl) (pe_callB (call_lenK (K := K) rfl) (by rfl) B.z_len (by decide +kernel) (pa_cons (pe_ix (ix_seqK (K := K) rfl) (pe_ix (ix_seqK (K := K) rfl) (pv 1) pe_int (fun _ _ => rfl)) pe_int (fun _ _ => rfl)) pa_nil)))
      (pss_one (ps_ret (pe_callB (cr_allK (K := K) rfl (by rfl)) (by rfl) B.z_all (by decide +kernel) (pa_cons (pe_lc (own := [("table", 4)]) (g := (gName 4)) (tt := tYes) (by rfl) sc_are_tables.nd (pi_seqK (K := K) rfl (pv 1)) (blkOk_by (own := [("table", 4)]) (N := ["base", "value", "depth", "width", "table"]) (sc := defScope s_are_tables) (by decide +kernel)) (fun _ _ _ _ _ => (pg_name (i := 4) sc_are_tables.nd rfl (by first | exact Or.inl rfl | exact Or.inr rfl))) (fun _ _ _ _ _ => pts_nil) (fun _ _ _ _ _ => (pe_callG d_is_of_size.ok (hr.mono (by decide)) hgd (by rfl) d_is_of_size.g d_is_of_size.kp d_is_of_size.b .nil pass0 (pa_cons (pv 4) (pa_cons (pv 2) (pa_cons (pv 3) pa_nil)))))) pa_nil)))))))), ?_⟩
  rintro ds ⟨p, d, rfl, hd⟩
  show WS _ none _ _ [.dat (.int p), .dat d, .no, .no, .no]
  repeat' walk_at "dl"
  refine ⟨hd, ?_⟩
  repeat' walk_at "dl"
  · rename_i h
    obtain ⟨xs, rfl⟩ := tup_inv h
    have hx := clean_tup hd
    repeat' walk_at "dl"
    all_goals first
      | (exfalso; rename_i h1; simp at h1; done)
      | (rename_i h1 h2
         have hn := tablesB_out (p := p) (ts := xs) (by simp at h1 h2; omega)
         intro p' d' e
         cases e
         rw [hn])
      | skip
    rename_i h1 h2
    have h1 : 1 ≤ xs.length := by have := of_decide_eq_true h1; omega
    have h2 : xs.length ≤ 6 := by simp at h2; omega
    have hn := tablesB_in (p := p) (ts := xs) ⟨h1, h2⟩
    refine we_fresh (wf_map (fun d => .bool (tabB p d)) (wj_seq ?_))
    repeat' walk_at "dl"
    refine ⟨szl (by omega), fun i dd hdd => ?_, ?_⟩
    · refine wgv_name (by simp) ?_
      refine we_call ?_
      repeat' walk_at "dl"
      exact ⟨⟨p, dd, rfl, hx dd (List.mem_of_getElem? hdd)⟩, fun e he => he p dd rfl⟩
    · refine wa_nil (cw_allB ?_)
      repeat' walk_at "dl"
      · rename_i h3
        rw [all_no h3] at hn
        intro p' d' e
        cases e
        rw [hn]
        rfl
      · rename_i h3
        have h3 := all_yes h3
        rw [h3, Bool.true_and] at hn
        have h4 := List.all_eq_true.mp h3
        obtain ⟨x0, xs', rfl⟩ : ∃ x0 xs', xs = x0 :: xs' := by
          cases xs with
          | nil => simp at h1
          | cons a b => exact ⟨a, b, rfl⟩
        obtain ⟨ys, rs, rfl, _⟩ := tabB_shape (h4 x0 (by simp))
        refine ow_ixT' (x := .tuple (.tuple ys :: rs)) (atI_nat (j := 0) rfl) ?_
        repeat' walk_at "dl"
        refine ow_ixT' (x := .tuple (.tuple ys :: rs)) (atI_nat (j := 0) rfl) ?_
        repeat' walk_at "dl"
        refine ow_ixT' (x := .tuple ys) (atI_nat (j := 0) rfl) ?_
        repeat' walk_at "dl"
        refine we_fresh (wf_map (fun d => .bool (sizeB (rs.length + 1) ys.length d)) (wj_seq ?_))
        repeat' walk_at "dl"
        refine ⟨szl (by omega), fun i dd hdd => ?_, ?_⟩
        · obtain ⟨zs, ts, rfl, _⟩ := tabB_shape (h4 dd (List.mem_of_getElem? hdd))
          refine wgv_name (by simp) ?_
          refine we_call ?_
          repeat' walk_at "dl"
          exact ⟨⟨zs, ts, rs.length + 1, ys.length, rfl⟩, fun e he => he _ (rs.length + 1) ys.length rfl⟩
        · refine wa_nil (cw_allB ?_)
          intro p' d' e
          cases e
          rw [hn]
          rfl
  · rename_i h _
    intro p' d' e
    cases e
    rw [tablesB_no h]
  · rename_i h
    cases h
def postNetB (ds : List D) (e : D) : Prop := ∀ d : D, ds = [d] → e = .bool (netB d)
theorem ok_is_net {f fB fT : Addr} {fd fdB fdT : FuncData} (F : Fun K "is_net" "is_net" s_is_net f fd) (B : Bi K mg) (d_is_base : Df P w K mg base 2 "is_base" fB fdB ["value"] (spF K preAny postBase))
    (d_are_tables : Df P w K mg base 6 "are_tables" fT fdT ["base", "value"] (spF K preTs postTs)) : FnG P w K mg base CX0 7 f fd ["value"] (spF K preAny postNetB) := by
  refine ok_fn F sc_is_net (fun ds ⟨_, e, _⟩ => by rw [e]; rfl) (fun cdv A outer s H E hr hgd => ?_)
  refine ⟨_, (pss_cons (ps_if (PW.pt (pw_or (pt_not (pt_val (pe_callB (call_isiK (K := K) rfl) (by rfl) B.z_isinstance (by decide +kernel) (pa_cons (pv 0) (pa_cons (pe_bltn (v := .ty "tuple") (by rfl) B.z_tuple (by decide +kernel) rfl) pa_nil))))) (pw_or1 (pt_cmpR (op_neUK (K := K) rfl hr.units) (pe_callB (call_lenK (K := K) rfl) (by rfl) B.z_len (by decide +kernel) (pa_cons (pv 0) pa_nil)) pe_int (nomark _)))))
      (pss_one (ps_ret pe_bl))
      pss_nil)
      (pss_cons (ps_asg (pv 0) (pg_tupK (K := K) (n := 2) rfl (by rfl) (pgs_cons (pg_name (i := 1) sc_is_net.nd rfl (by first | exact Or.inl rfl | exact Or.inr rfl)) (pgs_cons (pg_name (i := 2) sc_is_net.nd rfl (by first | exact Or.inl rfl | exact Or.inr rfl)) pgs_nil))))
      (pss_one (ps_ret (pe_and (pe_callG d_is_base.ok (hr.mono (by decide)) hgd (by rfl) d_is_base.g d_is_base.kp d_is_base.b .nil pass0 (pa_cons (pv 1) pa_nil)) (pe_one (pe_callG d_are_tables.ok (hr.mono (by decide)) hgd (by rfl) d_are_tables.g d_are_tables.kp d_are_tables.b .nil pass0 (pa_cons (pv 1) (pa_cons (pv 2) pa_nil))))))))), ?_⟩
  rintro ds ⟨d, rfl, hd⟩
  show WS _ none _ _ [.dat d, .no, .no]
  repeat' walk_at "dl"
  refine ⟨hd, ?_⟩
  repeat' walk_at "dl"
  · rename_i h
    obtain ⟨xs, rfl⟩ := tup_inv h
    have hx := clean_tup hd
    repeat' walk_at "dl"
    · rename_i h2
      have h2 : xs.length ≠ 2 := fun z => by rw [z] at h2; simp at h2
      intro d' e
      cases e
      rw [netB_out h2]
    · rename_i h2
      have h2 : xs.length = 2 := by
        by_cases z : xs.length = 2
        · exact z
        · have h3 : decide (((xs.length : Nat) : Int) = 2) = false := decide_eq_false (by omega)
          rw [h3] at h2
          cases h2
      obtain ⟨b, t, rfl⟩ : ∃ b t, xs = [b, t] := by
        match xs, h2 with
        | [b, t], _ => exact ⟨b, t, rfl⟩
      repeat' walk_at "dl"
      refine we_call ?_
      repeat' walk_at "dl"
      refine ⟨⟨b, rfl, hx b (by simp)⟩, fun e he => ?_⟩
      rw [he b rfl]
      repeat' walk_at "dl"
      · rename_i h3
        obtain ⟨p, rfl⟩ : ∃ p, b = .int p := by
          cases b <;> first | exact ⟨_, rfl⟩ | (simp [baseB] at h3; done)
        refine we_call ?_
        repeat' walk_at "dl"
        refine ⟨⟨p, t, rfl, hx t (by simp)⟩, fun e he => ?_⟩
        rw [he p t rfl]
        have hn := netB_in (b := .int p) (t := t)
        have h3 : [2, 3, 5, 7].contains p = true := h3
        dsimp only at hn
        rw [h3, Bool.true_and] at hn
        intro d' e
        cases e
        rw [hn]
      · rename_i h3
        have hn := netB_nb (t := t) h3
        intro d' e
        cases e
        rw [hn]
  · rename_i h _
    intro d' e
    cases e
    rw [netB_no h]
  · rename_i h
    cases h
end

end Lw

namespace Lw
open PySem PySem.Spec PyProof.Rows L2 DlP Dl
local macro_rules | `(tactic| walk_at "dl") => `(tactic| first
  | with_reducible refine cw_lenRow ?_
  | with_reducible refine cw_lenTab ?_
  | with_reducible refine ow_net0 ?_
  | with_reducible refine ow_net1 ?_
  | with_reducible refine ow_tabs0 ?_
  | with_reducible refine ow_tab0 ?_
  | with_reducible refine ex_seqRow ?_
  | with_reducible refine ex_seqTab ?_
  | ((with_reducible refine ow_rep0 ?hk ?_); (case hk => (constructor <;> omega)))
  | with_reducible refine wg_three ?_
  | with_reducible refine cw_sumU ?_
  | with_reducible refine cw_sumT ?_
  | with_reducible refine ws_setNil ?_
  | with_reducible refine ow_eqUB ?_
  | with_reducible refine ow_neUB ?_
  | with_reducible refine ow_neUS ?_
  | with_reducible refine ow_eqUS ?_
  | with_reducible refine ws_next ?_
  | with_reducible refine ws_seq ?_
  | with_reducible refine ws_if ?_
  | with_reducible refine wt_not ?_
  | with_reducible refine wt_and ?_
  | with_reducible refine wt_or ?_
  | with_reducible refine wt_chainI ?_
  | with_reducible refine wt_test ?_
  | with_reducible refine wt_B ?_
  | with_reducible refine ws_ret ?_
  | with_reducible refine ws_cont ?_
  | with_reducible refine ws_break ?_
  | with_reducible refine wa_cons ?_
  | with_reducible refine wa_nil ?_
  | ((with_reducible refine we_var (d := ?dd) ?hv ?_); (case hv => exact rfl))
  | with_reducible refine we_int ?_
  | with_reducible refine we_bl ?_
  | with_reducible refine we_non ?_
  | with_reducible refine we_str ?_
  | with_reducible refine we_negI ?_
  | ((with_reducible refine we_spr ?hv ?hw (fun z => ?_)); (case hv => exact rfl); (case hw => decide))
  | ((with_reducible refine ws_spr ?hv ?hw ?_); (case hv => exact rfl); (case hw => decide))
  | with_reducible refine ws_set ?_
  | with_reducible refine ws_asgG ?_
  | with_reducible refine wg_two ?_
  | with_reducible refine wg_name ?_
  | with_reducible refine we_andV ?_
  | with_reducible refine we_orV ?_
  | with_reducible refine we_notV ?_
  | with_reducible refine we_if ?_
  | with_reducible refine we_chainI ?_
  | with_reducible refine we_isN ?_
  | with_reducible refine we_notN ?_
  | with_reducible refine we_repL ?_
  | with_reducible refine we_catLc ?_
  | with_reducible refine we_catLst ?_
  | with_reducible refine we_listof ?_
  | with_reducible refine we_op ?_
  | with_reducible refine we_isInt ?_
  | with_reducible refine we_isBool ?_
  | with_reducible refine we_isTup ?_
  | ((with_reducible refine we_nlen (κ := tabKey) ?hv ?_); (case hv => exact rfl))
  | ((with_reducible refine we_nlen (κ := rowKey) ?hv ?_); (case hv => exact rfl))
  | with_reducible refine we_cb ?_
  | with_reducible refine we_lst ?_
  | with_reducible refine we_dict0 ?_
  | with_reducible refine we_disp1 ?_
  | with_reducible refine we_tup2 ?_
  | with_reducible refine we_tup1 ?_
  | with_reducible refine we_tup ?_
  | with_reducible refine ow_addI ?_
  | with_reducible refine ow_I0b ?_
  | with_reducible refine ow_eqUI ?_
  | with_reducible refine ow_neUI ?_
  | ((with_reducible refine ow_mulI ?hc ?_); (case hc => first | exact cmul_right (by decide) | exact cmul_left (by decide) | exact cmul_right (by omega) | exact cmul_left (by omega)))
  | ((with_reducible refine ow_modN ?hc ?_); (case hc => omega))
  | ((with_reducible refine ow_fdivL ?hc ?_); (case hc => (exact cdivL (by omega) (by omega))))
  | ((with_reducible refine ow_pow ?hc ?_); (case hc => exact ⟨by decide, by decide, by decide⟩))
  | with_reducible refine ow_I0i ?_
  | with_reducible refine cw_int ?_
  | with_reducible refine cw_intB ?_
  | with_reducible refine cw_abs ?_
  | with_reducible refine cw_max2U ?_
  | with_reducible refine cw_min2U ?_
  | with_reducible refine cw_allT ?_
  | with_reducible refine cw_tupleL ?_
  | with_reducible refine cw_tupleT ?_
  | with_reducible refine cw_lenL ?_
  | with_reducible refine cw_lenT ?_
  | with_reducible refine cw_lenScr ?_
  | with_reducible refine ex_int ?_
  | with_reducible refine ex_listT ?_
  | ((with_reducible refine and_sz ?hz ?_); (case hz => (simp; done)))
  | with_reducible refine ex_two ?_
  | with_reducible refine ex_bool ?_
  | with_reducible refine ex_list ?_
  | with_reducible refine ex_tuple ?_
  | with_reducible refine ex_seqL ?_
  | with_reducible refine ex_seqT ?_
  | with_reducible refine and_cases (fun hb => ?_) (fun hb => ?_)
  | with_reducible refine or_cases (fun hb => ?_) (fun hb => ?_))

section
variable {P : Program} {w : World} {K : Fg} {mg : Str → Option Value} {base : Heap}
/-! the checks at what is right -/
theorem ok_check_net {f fN : Addr} {fd fdN : FuncData} (F : Fun K "check_net" "check_net" s_check_net f fd) (B : Bi K mg) (d_is_net : Df P w K mg base 7 "is_net" fN fdN ["value"] (spF K preAny postNetB)) : FnG P w K mg base CX0 8 f fd ["net"] (spA K (fun x : Net => [x.D]) (fun _ => True) (fun _ _ => True)) := by
  refine ok_fnA F sc_check_net (fun _ => rfl) (fun cdv A outer s H E hr hgd => ?_)
  refine ⟨_, (pss_one (ps_if (pt_not (pt_val (pe_callG d_is_net.ok (hr.mono (by decide)) hgd (by rfl) d_is_net.g d_is_net.kp d_is_net.b .nil pass0 (pa_cons (pv 0) pa_nil))))
      (pss_one ps_never)
      pss_nil)), ?_⟩
  rintro x -
  show WS _ none _ _ [.dat x.D]
  repeat' walk_at "dl"
  refine we_call ?_
  repeat' walk_at "dl"
  refine ⟨⟨_, rfl, x.clean⟩, fun e he => ?_⟩
  rw [he _ rfl, x.isB]
  repeat' walk_at "dl"
  · rename_i h
    cases h
  · trivial
theorem ok_depth_of {f : Addr} {fd : FuncData} (F : Fun K "depth_of" "depth_of" s_depth_of f fd) (B : Bi K mg) : FnG P w K mg base CX0 1 f fd ["net"] (spA K (fun x : Net => [x.D]) (fun _ => True) (fun x e => e = .int x.d)) := by
  refine ok_fnA F sc_depth_of (fun _ => rfl) (fun cdv A outer s H E hr hgd => ?_)
  refine ⟨_, (pss_one (ps_ret (pe_callB (call_lenK (K := K) rfl) (by rfl) B.z_len (by decide +kernel) (pa_cons (pe_ix (ix_seqK (K := K) rfl) (pe_ix (ix_seqK (K := K) rfl) (pv 0) pe_int (fun _ _ => rfl)) pe_int (fun _ _ => rfl)) pa_nil)))), ?_⟩
  rintro x -
  obtain ⟨r, t, ts', e, h1, h2⟩ := x.first
  show WS _ none _ _ [.dat (netD x.p x.ts)]
  rw [e]
  repeat' walk_at "dl"
  show _ = _
  rw [← h2]
end

end Lw

namespace Lw
open PySem PySem.Spec PyProof.Rows L2 DlP Dl
local macro_rules | `(tactic| walk_at "dl") => `(tactic| first
  | with_reducible refine cw_lenRow ?_
  | with_reducible refine cw_lenTab ?_
  | with_reducible refine ow_net0 ?_
  | with_reducible refine ow_net1 ?_
  | with_reducible refine ow_tabs0 ?_
  | with_reducible refine ow_tab0 ?_
  | with_reducible refine ex_seqRow ?_
  | with_reducible refine ex_seqTab ?_
  | ((with_reducible refine ow_rep0 ?hk ?_); (case hk => (constructor <;> omega)))
  | with_reducible refine wg_three ?_
  | with_reducible refine cw_sumU ?_
  | with_reducible refine cw_sumT ?_
  | with_reducible refine ws_setNil ?_
  | with_reducible refine ow_eqUB ?_
  | with_reducible refine ow_neUB ?_
  | with_reducible refine ow_neUS ?_
  | with_reducible refine ow_eqUS ?_
  | with_reducible refine ws_next ?_
  | with_reducible refine ws_seq ?_
  | with_reducible refine ws_if ?_
  | with_reducible refine wt_not ?_
  | with_reducible refine wt_and ?_
  | with_reducible refine wt_or ?_
  | with_reducible refine wt_chainI ?_
  | with_reducible refine wt_test ?_
  | with_reducible refine wt_B ?_
  | with_reducible refine ws_ret ?_
  | with_reducible refine ws_cont ?_
  | with_reducible refine ws_break ?_
  | with_reducible refine wa_cons ?_
  | with_reducible refine wa_nil ?_
  | ((with_reducible refine we_var (d := ?dd) ?hv ?_); (case hv => exact rfl))
  | with_reducible refine we_int ?_
  | with_reducible refine we_bl ?_
  | with_reducible refine we_non ?_
  | with_reducible refine we_str ?_
  | with_reducible refine we_negI ?_
  | ((with_reducible refine we_spr ?hv ?hw (fun z => ?_)); (case hv => exact rfl); (case hw => decide))
  | ((with_reducible refine ws_spr ?hv ?hw ?_); (case hv => exact rfl); (case hw => decide))
  | with_reducible refine ws_set ?_
  | with_reducible refine ws_asgG ?_
  | with_reducible refine wg_two ?_
  | with_reducible refine wg_name ?_
  | with_reducible refine we_andV ?_
  | with_reducible refine we_orV ?_
  | with_reducible refine we_notV ?_
  | with_reducible refine we_if ?_
  | with_reducible refine we_chainI ?_
  | with_reducible refine we_isN ?_
  | with_reducible refine we_notN ?_
  | with_reducible refine we_repL ?_
  | with_reducible refine we_catLc ?_
  | with_reducible refine we_catLst ?_
  | with_reducible refine we_listof ?_
  | with_reducible refine we_op ?_
  | with_reducible refine we_isInt ?_
  | with_reducible refine we_isBool ?_
  | with_reducible refine we_isTup ?_
  | ((with_reducible refine we_nlen (κ := tabKey) ?hv ?_); (case hv => exact rfl))
  | ((with_reducible refine we_nlen (κ := rowKey) ?hv ?_); (case hv => exact rfl))
  | with_reducible refine we_cb ?_
  | with_reducible refine we_lst ?_
  | with_reducible refine we_dict0 ?_
  | with_reducible refine we_disp1 ?_
  | with_reducible refine we_tup2 ?_
  | with_reducible refine we_tup1 ?_
  | with_reducible refine we_tup ?_
  | with_reducible refine ow_addI ?_
  | with_reducible refine ow_I0b ?_
  | with_reducible refine ow_eqUI ?_
  | with_reducible refine ow_neUI ?_
  | ((with_reducible refine ow_mulI ?hc ?_); (case hc => first | exact cmul_right (by decide) | exact cmul_left (by decide) | exact cmul_right (by omega) | exact cmul_left (by omega)))
  | ((with_reducible refine ow_modN ?hc ?_); (case hc => omega))
  | ((with_reducible refine ow_fdivL ?hc ?_); (case hc => (exact cdivL (by omega) (by omega))))
  | ((with_reducible refine ow_pow ?hc ?_); (case hc => exact ⟨by decide, by decide, by decide⟩))
  | with_reducible refine ow_I0i ?_
  | with_reducible refine cw_int ?_
  | with_reducible refine cw_intB ?_
  | with_reducible refine cw_abs ?_
  | with_reducible refine cw_max2U ?_
  | with_reducible refine cw_min2U ?_
  | with_reducible refine cw_allT ?_
  | with_reducible refine cw_tupleL ?_
  | with_reducible refine cw_tupleT ?_
  | with_reducible refine cw_lenL ?_
  | with_reducible refine cw_lenT ?_
  | with_reducible refine cw_lenScr ?_
  | with_reducible refine ex_int ?_
  | with_reducible refine ex_listT ?_
  | ((with_reducible refine and_sz ?hz ?_); (case hz => (simp; done)))
  | with_reducible refine ex_two ?_
  | with_reducible refine ex_bool ?_
  | with_reducible refine ex_list ?_
  | with_reducible refine ex_tuple ?_
  | with_reducible refine ex_seqL ?_
  | with_reducible refine ex_seqT ?_
  | with_reducible refine and_cases (fun hb => ?_) (fun hb => ?_)
  | with_reducible refine or_cases (fun hb => ?_) (fun hb => ?_))

section
variable {P : Program} {w : World} {K : Fg} {mg : Str → Option Value} {base : Heap}
/-! what the program says of rows: no errors -/
def isTupL : D → List D | .tuple xs => xs | _ => []
/-- the first rows of the tables -/
def rowsW (ts : List Tab) (ks : List Nat) : Tab := (ts.zip ks).flatMap fun q => q.1.take q.2
structure NSide where
  x : Net
  b : Bool
  ks : List Nat
theorem rowsW_len {x : Net} {ks : List Nat} : (rowsW x.ts ks).length ≤ 72 := by
  have hs := x.sb
  have hd := x.db
  have key : ∀ (ts : List Tab) (ks : List Nat), (∀ t ∈ ts, t.length = x.d) → (rowsW ts ks).length ≤ ts.length * 12 := by
    intro ts
    induction ts with
    | nil => intro ks _; simp [rowsW]
    | cons t ts ih =>
      intro ks h
      cases ks with
      | nil => simp [rowsW]
      | cons k ks =>
        have h1 := h t (by simp)
        have := ih ks fun q hq => h q (by simp [hq])
        unfold rowsW at this ⊢
        rw [List.zip_cons_cons, List.flatMap_cons, List.length_append, List.length_take, List.length_cons]
        dsimp only
        omega
  have := key x.ts ks fun t ht => (x.tab t ht).1
  rw [x.len] at this
  omega
theorem rowsW_ok {x : Net} {ks : List Nat} : ∀ r ∈ rowsW x.ts ks, RowOk x.p x.m r := fun r hr => by
  unfold rowsW at hr
  obtain ⟨q, hq, hr⟩ := List.mem_flatMap.mp hr
  have hq := List.of_mem_zip (a := q.1) (b := q.2) hq
  exact (x.tab q.1 hq.1).2 r (List.mem_of_mem_take hr)
def cutOf : D → List D | .tuple [.tuple xs, .int k] => xs.take k.toNat | _ => []
theorem rowsW_all (x : Net) : rowsW x.ts (List.replicate x.s x.d) = x.ts.flatten := by
  have key : ∀ (ts : List Tab) (n : Nat), ts.length = n → (∀ t ∈ ts, t.length = x.d) → rowsW ts (List.replicate n x.d) = ts.flatten := by
    intro ts
    induction ts with
    | nil => intro n _ _; simp [rowsW]
    | cons t ts ih =>
      intro n hn h
      cases n with
      | zero => cases hn
      | succ n =>
        have := ih n (by simpa using hn) fun q hq => h q (by simp [hq])
        unfold rowsW at this ⊢
        rw [List.replicate_succ, List.zip_cons_cons, List.flatMap_cons, this, List.flatten_cons, List.take_of_length_le (by rw [h t (by simp)]; exact Nat.le_refl _)]
  exact key x.ts x.s x.len fun t ht => (x.tab t ht).1
theorem flat_len {x : Net} {t : Tab} (h : TabOk x.p x.s x.d t) : t.flatten.length = x.s * x.d := by
  have key : ∀ (t : Tab) (n : Nat), t.length = n → (∀ r ∈ t, r.length = x.d) → t.flatten.length = n * x.d := by
    intro t
    induction t with
    | nil => intro n hn _; subst hn; simp
    | cons r t ih =>
      intro n hn h
      cases n with
      | zero => cases hn
      | succ n =>
        rw [List.flatten_cons, List.length_append, h r (by simp), ih n (by simpa using hn) fun q hq => h q (by simp [hq]), Nat.succ_mul]
        omega
  exact key t x.s h.1 fun r hr => (h.2 r hr).1
theorem sd_le (x : Net) : x.s * x.d ≤ 72 := by
  have hs := x.sb
  have hd := x.db
  have : x.s * x.d ≤ 6 * 12 := Nat.mul_le_mul hs.2 hd.2
  omega
theorem flat_fig {p : Int} {t : Tab} (h : ∀ r ∈ t, ∀ v ∈ r, 0 ≤ v ∧ v < p) : ∀ v ∈ t.flatten, 0 ≤ v ∧ v < p := fun v hv => by
  obtain ⟨r, hr, hv⟩ := List.mem_flatten.mp hv
  exact h r hr v hv
theorem lines_row (x : Net) : ∀ r ∈ x.ts.flatten, RowOk x.p x.m r := fun r hr => by
  obtain ⟨t, ht, hr⟩ := List.mem_flatten.mp hr
  exact (x.tab t ht).2 r hr
theorem lines_len (x : Net) : x.ts.flatten.length = x.s * x.d := by
  have := congrArg List.length (rowsW_all x)
  have key : ∀ (ts : List Tab) (n : Nat), ts.length = n → (∀ r ∈ ts, r.length = x.d) → ts.flatten.length = n * x.d := by
    intro t
    induction t with
    | nil => intro n hn _; subst hn; simp
    | cons r t ih =>
      intro n hn h
      cases n with
      | zero => cases hn
      | succ n =>
        rw [List.flatten_cons, List.length_append, h r (by simp), ih n (by simpa using hn) fun q hq => h q (by simp [hq]), Nat.succ_mul]
        omega
  exact key x.ts x.s x.len fun t ht => (x.tab t ht).1
end

end Lw

namespace Lw
open PySem PySem.Spec PyProof.Rows L2 DlP Dl
local macro_rules | `(tactic| walk_at "dl") => `(tactic| first
  | with_reducible refine cw_lenRow ?_
  | with_reducible refine cw_lenTab ?_
  | with_reducible refine ow_net0 ?_
  | with_reducible refine ow_net1 ?_
  | with_reducible refine ow_tabs0 ?_
  | with_reducible refine ow_tab0 ?_
  | with_reducible refine ex_seqRow ?_
  | with_reducible refine ex_seqTab ?_
  | ((with_reducible refine ow_rep0 ?hk ?_); (case hk => (constructor <;> omega)))
  | with_reducible refine wg_three ?_
  | with_reducible refine cw_sumU ?_
  | with_reducible refine cw_sumT ?_
  | with_reducible refine ws_setNil ?_
  | with_reducible refine ow_eqUB ?_
  | with_reducible refine ow_neUB ?_
  | with_reducible refine ow_neUS ?_
  | with_reducible refine ow_eqUS ?_
  | with_reducible refine ws_next ?_
  | with_reducible refine ws_seq ?_
  | with_reducible refine ws_if ?_
  | with_reducible refine wt_not ?_
  | with_reducible refine wt_and ?_
  | with_reducible refine wt_or ?_
  | with_reducible refine wt_chainI ?_
  | with_reducible refine wt_test ?_
  | with_reducible refine wt_B ?_
  | with_reducible refine ws_ret ?_
  | with_reducible refine ws_cont ?_
  | with_reducible refine ws_break ?_
  | with_reducible refine wa_cons ?_
  | with_reducible refine wa_nil ?_
  | ((with_reducible refine we_var (d := ?dd) ?hv ?_); (case hv => exact rfl))
  | with_reducible refine we_int ?_
  | with_reducible refine we_bl ?_
  | with_reducible refine we_non ?_
  | with_reducible refine we_str ?_
  | with_reducible refine we_negI ?_
  | ((with_reducible refine we_spr ?hv ?hw (fun z => ?_)); (case hv => exact rfl); (case hw => decide))
  | ((with_reducible refine ws_spr ?hv ?hw ?_); (case hv => exact rfl); (case hw => decide))
  | with_reducible refine ws_set ?_
  | with_reducible refine ws_asgG ?_
  | with_reducible refine wg_two ?_
  | with_reducible refine wg_name ?_
  | with_reducible refine we_andV ?_
  | with_reducible refine we_orV ?_
  | with_reducible refine we_notV ?_
  | with_reducible refine we_if ?_
  | with_reducible refine we_chainI ?_
  | with_reducible refine we_isN ?_
  | with_reducible refine we_notN ?_
  | with_reducible refine we_repL ?_
  | with_reducible refine we_catLc ?_
  | with_reducible refine we_catLst ?_
  | with_reducible refine we_listof ?_
  | with_reducible refine we_op ?_
  | with_reducible refine we_isInt ?_
  | with_reducible refine we_isBool ?_
  | with_reducible refine we_isTup ?_
  | ((with_reducible refine we_nlen (κ := tabKey) ?hv ?_); (case hv => exact rfl))
  | ((with_reducible refine we_nlen (κ := rowKey) ?hv ?_); (case hv => exact rfl))
  | with_reducible refine we_cb ?_
  | with_reducible refine we_lst ?_
  | with_reducible refine we_dict0 ?_
  | with_reducible refine we_disp1 ?_
  | with_reducible refine we_tup2 ?_
  | with_reducible refine we_tup1 ?_
  | with_reducible refine we_tup ?_
  | with_reducible refine ow_addI ?_
  | with_reducible refine ow_I0b ?_
  | with_reducible refine ow_eqUI ?_
  | with_reducible refine ow_neUI ?_
  | ((with_reducible refine ow_mulI ?hc ?_); (case hc => first | exact cmul_right (by decide) | exact cmul_left (by decide) | exact cmul_right (by omega) | exact cmul_left (by omega)))
  | ((with_reducible refine ow_modN ?hc ?_); (case hc => omega))
  | ((with_reducible refine ow_fdivL ?hc ?_); (case hc => (exact cdivL (by omega) (by omega))))
  | ((with_reducible refine ow_pow ?hc ?_); (case hc => exact ⟨by decide, by decide, by decide⟩))
  | with_reducible refine ow_I0i ?_
  | with_reducible refine cw_int ?_
  | with_reducible refine cw_intB ?_
  | with_reducible refine cw_abs ?_
  | with_reducible refine cw_max2U ?_
  | with_reducible refine cw_min2U ?_
  | with_reducible refine cw_allT ?_
  | with_reducible refine cw_tupleL ?_
  | with_reducible refine cw_tupleT ?_
  | with_reducible refine cw_lenL ?_
  | with_reducible refine cw_lenT ?_
  | with_reducible refine cw_lenScr ?_
  | with_reducible refine ex_int ?_
  | with_reducible refine ex_listT ?_
  | ((with_reducible refine and_sz ?hz ?_); (case hz => (simp; done)))
  | with_reducible refine ex_two ?_
  | with_reducible refine ex_bool ?_
  | with_reducible refine ex_list ?_
  | with_reducible refine ex_tuple ?_
  | with_reducible refine ex_seqL ?_
  | with_reducible refine ex_seqT ?_
  | with_reducible refine and_cases (fun hb => ?_) (fun hb => ?_)
  | with_reducible refine or_cases (fun hb => ?_) (fun hb => ?_))

section
variable {P : Program} {w : World} {K : Fg} {mg : Str → Option Value} {base : Heap}
/-! the program's elimination -/
theorem ok_inverse {f : Addr} {fd : FuncData} (F : Fun K "inverse" "inverse" s_inverse f fd) (B : Bi K mg) : FnG P w K mg base CX0 1 f fd ["base", "figure"] (spA K (fun x : Int × Int => [.int x.1, .int x.2]) (fun x => Base x.1 ∧ 1 ≤ x.2 ∧ x.2 < x.1) (fun x e => e = .int (invF x.1 x.2))) := by
  refine ok_fnA F sc_inverse (fun _ => rfl) (fun cdv A outer s H E hr hgd => ?_)
  refine ⟨_, (pss_cons (ps_set (i := 2) sc_inverse.nd rfl (by first | exact Or.inl rfl | exact Or.inr rfl) pe_int)
      (pss_cons (ps_while PassesOwn.never (pt_cmpR (op_neUK (K := K) rfl hr.units) (pe_op op_modN (pe_op (op_mulUK (K := K) rfl) (pv 1) (pv 2)) (pv 0)) pe_int (nomark _)) (pss_one (ps_aug (i := 2) sc_inverse.nd rfl (by first | exact Or.inl rfl | exact Or.inr rfl) pe_int ip_add)))
      (pss_one (ps_ret (pv 2))))), ?_⟩
  rintro ⟨p, g⟩ ⟨hb, hg⟩
  dsimp only at hb hg
  have hp := hb.pos
  obtain ⟨⟨i1, i2, i3⟩, i4⟩ := invF_ok hb hg
  show WS _ none _ _ [.dat (.int p), .dat (.int g), .no]
  repeat' walk_at "dl"
  refine ws_while (fun n δ => ∃ k : Int, δ = [.dat (.int p), .dat (.int g), .dat (.int k)] ∧ 1 ≤ k ∧ k ≤ invF p g ∧ n = (p - k).toNat) ⟨_, 1, rfl, by omega, by omega, rfl⟩ fun n δ' ⟨k, e, k1, k2, en⟩ => ?_
  subst e
  repeat' walk_at "dl"
  · rename_i h
    have h : (g * k).fmod p ≠ 1 := by
      intro z
      rw [z] at h
      simp at h
    refine ws_aug rfl ?_
    repeat' walk_at "dl"
    refine ⟨(p - (k + 1)).toNat, by omega, k + 1, rfl, by omega, ?_, rfl⟩
    by_cases z : k = invF p g
    · rw [z] at h; exact absurd i3 h
    · omega
  · rename_i h
    have h : (g * k).fmod p = 1 := by
      by_cases z : (g * k).fmod p = 1
      · exact z
      · have : (!decide ((g * k).fmod p = 1)) = true := by simp [z]
        rw [this] at h
        cases h
    show _ = _
    rw [i4 k k1 (by omega) h]
structure Mul1 where
  p : Int
  f : Int
  q : QRow
theorem ok_multiple {f : Addr} {fd : FuncData} (F : Fun K "multiple" "multiple" s_multiple f fd) (B : Bi K mg) : FnG P w K mg base CX0 1 f fd ["base", "figure", "row"] (spA K (fun x : Mul1 => [.int x.p, .int x.f, encQ x.q]) (fun x => 0 < x.p ∧ (0 ≤ x.f ∧ x.f < 1000) ∧ x.q.2.length ≤ 1000) (fun x e => e = .list ((mulF x.p x.f x.q.2).map .int))) := by
  refine ok_fnA F sc_multiple (fun _ => rfl) (fun cdv A outer s H E hr hgd => ?_)
  refine ⟨_, (pss_one (ps_ret (pe_lc (own := [("one", 3)]) (g := (gName 3)) (tt := tYes) (by rfl) sc_multiple.nd (pi_seqK (K := K) rfl (pv 2)) (blkOk_by (own := [("one", 3)]) (N := ["base", "figure", "row", "one"]) (sc := defScope s_multiple) (by decide +kernel)) (fun _ _ _ _ _ => (pg_name (i := 3) sc_multiple.nd rfl (by first | exact Or.inl rfl | exact Or.inr rfl))) (fun _ _ _ _ _ => pts_nil) (fun _ _ _ _ _ => (pe_op op_modN (pe_op (op_mulUK (K := K) rfl) (pv 1) (pv 3)) (pv 0)))))), ?_⟩
  rintro ⟨p, g, q⟩ ⟨hp, hg, hl⟩
  dsimp only at hp hg hl
  show WS _ none _ _ [.dat (.int p), .dat (.int g), .dat (encQ q), .no]
  refine ws_ret (we_fresh (wf_mapA PyData.int (fun v => .int ((g * v).fmod p)) (wj_seq (we_var rfl ⟨_, encQ_seq q, q.2, rfl, szl (by omega), fun v hv => ?_, fun a _ b _ e => by cases e; rfl, ?_⟩))))
  · refine wgv_name (by simp) ?_
    repeat' walk_at "dl"
    rfl
  · show _ = _
    unfold mulF
    rw [List.map_map]
    rfl
structure Clr where
  p : Int
  q : QRow
  ld : Row
  c : Nat
  lb : Bool
theorem ok_cleared {f : Addr} {fd : FuncData} (F : Fun K "cleared" "cleared" s_cleared f fd) (B : Bi K mg) : FnG P w K mg base CX0 1 f fd ["base", "row", "lead", "place"] (spA K (fun x : Clr => [.int x.p, encQ x.q, seqD x.lb (x.ld.map .int), .int x.c]) (fun x => 0 < x.p ∧ (∀ v ∈ x.q.2, 0 ≤ v ∧ v < 1000) ∧ x.q.2.length ≤ 1000 ∧ x.c < x.q.2.length) (fun x e => e = encQ (clrQ x.p x.ld x.c x.q))) := by
  refine ok_fnA F sc_cleared (fun _ => rfl) (fun cdv A outer s H E hr hgd => ?_)
  refine ⟨_, (pss_cons (ps_set (i := 4) sc_cleared.nd rfl (by first | exact Or.inl rfl | exact Or.inr rfl) (pe_ix (ix_seqK (K := K) rfl) (pv 1) (pv 3) (fun _ _ => rfl)))
      (pss_cons (ps_if (pt_cmpR (op_eqUK (K := K) rfl hr.units) (pv 4) pe_int (nomark _))
      (pss_one (ps_ret (pv 1)))
      pss_nil)
      (pss_one (ps_ret (pe_lc (own := [("one", 5), ("less", 6)]) (g := (gTup K 2 (gCons (gName 5) (gCons (gName 6) gNil)))) (tt := tYes) (by rfl) sc_cleared.nd (pi_zipUK (K := K) rfl (by rfl) B.z_zip (pa_cons (pv 1) (pa_cons (pv 2) pa_nil))) (blkOk_by (own := [("one", 5), ("less", 6)]) (N := ["base", "row", "lead", "place", "figure", "one", "less"]) (sc := defScope s_cleared) (by decide +kernel)) (fun _ _ _ _ _ => (pg_tupK (K := K) (n := 2) rfl (by rfl) (pgs_cons (pg_name (i := 5) sc_cleared.nd rfl (by first | exact Or.inl rfl | exact Or.inr rfl)) (pgs_cons (pg_name (i := 6) sc_cleared.nd rfl (by first | exact Or.inl rfl | exact Or.inr rfl)) pgs_nil)))) (fun _ _ _ _ _ => pts_nil) (fun _ _ _ _ _ => (pe_op op_modN (pe_op op_sub (pv 5) (pe_op (op_mulUK (K := K) rfl) (pv 4) (pv 6))) (pv 0)))))))), ?_⟩
  rintro ⟨p, q, ld, c, lb⟩ ⟨hp, hv, hl, hc⟩
  dsimp only at hp hv hl hc
  have hg : q.2.getD c 0 = q.2[c] := by simp [hc]
  have hgb := hv _ (List.getElem_mem hc)
  rw [← hg] at hgb
  show WS _ none _ _ [.dat (.int p), .dat (encQ q), .dat (seqD lb (ld.map .int)), .dat (.int c), .no, .no, .no]
  refine ws_seq (ws_set ((?_ : WE _ _ _ _ fun d => d = .int (q.2.getD c 0)).imp ?_))
  · obtain ⟨b, r⟩ := q
    refine we_op (we_var rfl (we_var rfl ?_))
    cases b with
    | true => exact ow_ixL' (x := .int r[c]) (atI_nat (by simp [hc])) (by rw [hg])
    | false => exact ow_ixT' (x := .int r[c]) (atI_nat (by simp [hc])) (by rw [hg])
  rintro d rfl
  repeat' walk_at "dl"
  · rename_i h
    have h : q.2.getD c 0 = 0 := of_decide_eq_true h
    show _ = encQ (clrQ p ld c q)
    unfold clrQ clrR
    rw [if_pos h, if_pos h]
  · rename_i h
    have h : ¬ q.2.getD c 0 = 0 := of_decide_eq_false h
    refine we_fresh (wf_mapA (fun z : Int × Int => .tuple [.int z.1, .int z.2]) (fun z => .int ((z.1 - q.2.getD c 0 * z.2).fmod p)) (wj_zip ?_))
    repeat' walk_at "dl"
    refine ⟨_, _, _, _, rfl, encQ_seq q, seqD_seq _ _, q.2.zip ld, zipD_map _ _ _ _, szl (by rw [List.length_zip]; omega), fun z hz => ?_, fun a _ b _ e => ?_, ?_⟩
    · refine wgv_two (by simp) (by simp) ?_
      generalize q.2.getD c 0 = g at hgb
      repeat' walk_at "dl"
      rfl
    · injection e with e
      injection e with e1 e
      injection e with e2 _
      injection e1 with e1
      injection e2 with e2
      rw [e1, e2]
    · show _ = encQ (clrQ p ld c q)
      unfold clrQ clrR
      rw [if_neg h, if_neg h, ← map_zip2]
      show _ = PyData.list (List.map PyData.int _)
      rw [List.map_map]
      rfl
theorem erase_map {α β : Type} (f : α → β) : ∀ (l : List α) (j : Nat), (l.map f).eraseIdx j = (l.eraseIdx j).map f
  | [], j => by simp
  | x :: l, 0 => rfl
  | x :: l, j + 1 => by rw [List.map_cons, List.eraseIdx_cons_succ, List.eraseIdx_cons_succ, List.map_cons, erase_map f l j]
theorem ow_encQ {q : QRow} {c : Nat} {T : D → Prop} (hc : c < q.2.length) (h : T (.int (q.2.getD c 0))) : OW K none (rIx K) (encQ q) (.int (c : Nat)) T := by
  have hg : q.2.getD c 0 = q.2[c] := by simp [hc]
  rw [hg] at h
  obtain ⟨b, r⟩ := q
  cases b with
  | true => exact ow_ixL' (x := .int r[c]) (atI_nat (by simp [hc])) h
  | false => exact ow_ixT' (x := .int r[c]) (atI_nat (by simp [hc])) h
structure Sts where
  p : Int
  m : Nat
  b : Bool
  rows : List QRow
theorem stS_take {p : Int} {m i : Nat} {rows : List QRow} (h : i < m) : ((List.range m).take (i + 1)).foldl (fun st c => stepS p c st) ([], rows) = stepS p i (((List.range m).take i).foldl (fun st c => stepS p c st) ([], rows)) := by
  have : (List.range m)[i]? = some i := by rw [List.getElem?_range h]
  rw [List.take_add_one, this, List.foldl_append]
  rfl
structure Tie where
  p : Int
  m : Nat
  rs : Tab
def zeroI : D → Bool | .int x => decide (x = 0) | _ => false
def blankD (m : Nat) : D → Bool | .tuple xs => (xs.take m).all zeroI | _ => false
def backD (m : Nat) : D → D | .tuple xs => .tuple (xs.drop m) | _ => .none
theorem cut_lo (l : List D) (m : Nat) (h : m ≤ l.length) : Dl.cutD l (some ((m : Nat) : Int)) none = l.drop m := by
  unfold Dl.cutD
  have e0 : HT.sIx l.length 0 (some ((m : Nat) : Int)) = m := by
    unfold HT.sIx
    simp
    split <;> omega
  have e1 : HT.sIx l.length l.length none = l.length := rfl
  rw [e0, e1, List.take_of_length_le (by rw [List.length_drop]; exact Nat.le_refl _)]
theorem cut_hi (l : List D) (m : Nat) (h : m ≤ l.length) : Dl.cutD l none (some ((m : Nat) : Int)) = l.take m := by
  unfold Dl.cutD
  have e0 : HT.sIx l.length 0 none = 0 := rfl
  have e1 : HT.sIx l.length l.length (some ((m : Nat) : Int)) = m := by
    unfold HT.sIx
    simp
    split <;> omega
  rw [e0, e1, List.drop_zero, Nat.sub_zero]
end

end Lw

namespace Lw
open PySem PySem.Spec PyProof.Rows L2 DlP Dl
local macro_rules | `(tactic| walk_at "dl") => `(tactic| first
  | with_reducible refine cw_lenRow ?_
  | with_reducible refine cw_lenTab ?_
  | with_reducible refine ow_net0 ?_
  | with_reducible refine ow_net1 ?_
  | with_reducible refine ow_tabs0 ?_
  | with_reducible refine ow_tab0 ?_
  | with_reducible refine ex_seqRow ?_
  | with_reducible refine ex_seqTab ?_
  | ((with_reducible refine ow_rep0 ?hk ?_); (case hk => (constructor <;> omega)))
  | with_reducible refine wg_three ?_
  | with_reducible refine cw_sumU ?_
  | with_reducible refine cw_sumT ?_
  | with_reducible refine ws_setNil ?_
  | with_reducible refine ow_eqUB ?_
  | with_reducible refine ow_neUB ?_
  | with_reducible refine ow_neUS ?_
  | with_reducible refine ow_eqUS ?_
  | with_reducible refine ws_next ?_
  | with_reducible refine ws_seq ?_
  | with_reducible refine ws_if ?_
  | with_reducible refine wt_not ?_
  | with_reducible refine wt_and ?_
  | with_reducible refine wt_or ?_
  | with_reducible refine wt_chainI ?_
  | with_reducible refine wt_test ?_
  | with_reducible refine wt_B ?_
  | with_reducible refine ws_ret ?_
  | with_reducible refine ws_cont ?_
  | with_reducible refine ws_break ?_
  | with_reducible refine wa_cons ?_
  | with_reducible refine wa_nil ?_
  | ((with_reducible refine we_var (d := ?dd) ?hv ?_); (case hv => exact rfl))
  | with_reducible refine we_int ?_
  | with_reducible refine we_bl ?_
  | with_reducible refine we_non ?_
  | with_reducible refine we_str ?_
  | with_reducible refine we_negI ?_
  | ((with_reducible refine we_spr ?hv ?hw (fun z => ?_)); (case hv => exact rfl); (case hw => decide))
  | ((with_reducible refine ws_spr ?hv ?hw ?_); (case hv => exact rfl); (case hw => decide))
  | with_reducible refine ws_set ?_
  | with_reducible refine ws_asgG ?_
  | with_reducible refine wg_two ?_
  | with_reducible refine wg_name ?_
  | with_reducible refine we_andV ?_
  | with_reducible refine we_orV ?_
  | with_reducible refine we_notV ?_
  | with_reducible refine we_if ?_
  | with_reducible refine we_chainI ?_
  | with_reducible refine we_isN ?_
  | with_reducible refine we_notN ?_
  | with_reducible refine we_repL ?_
  | with_reducible refine we_catLc ?_
  | with_reducible refine we_catLst ?_
  | with_reducible refine we_listof ?_
  | with_reducible refine we_op ?_
  | with_reducible refine we_isInt ?_
  | with_reducible refine we_isBool ?_
  | with_reducible refine we_isTup ?_
  | ((with_reducible refine we_nlen (κ := tabKey) ?hv ?_); (case hv => exact rfl))
  | ((with_reducible refine we_nlen (κ := rowKey) ?hv ?_); (case hv => exact rfl))
  | with_reducible refine we_cb ?_
  | with_reducible refine we_lst ?_
  | with_reducible refine we_dict0 ?_
  | with_reducible refine we_disp1 ?_
  | with_reducible refine we_tup2 ?_
  | with_reducible refine we_tup1 ?_
  | with_reducible refine we_tup ?_
  | with_reducible refine ow_addI ?_
  | with_reducible refine ow_I0b ?_
  | with_reducible refine ow_eqUI ?_
  | with_reducible refine ow_neUI ?_
  | ((with_reducible refine ow_mulI ?hc ?_); (case hc => first | exact cmul_right (by decide) | exact cmul_left (by decide) | exact cmul_right (by omega) | exact cmul_left (by omega)))
  | ((with_reducible refine ow_modN ?hc ?_); (case hc => omega))
  | ((with_reducible refine ow_fdivL ?hc ?_); (case hc => (exact cdivL (by omega) (by omega))))
  | ((with_reducible refine ow_pow ?hc ?_); (case hc => exact ⟨by decide, by decide, by decide⟩))
  | with_reducible refine ow_I0i ?_
  | with_reducible refine cw_int ?_
  | with_reducible refine cw_intB ?_
  | with_reducible refine cw_abs ?_
  | with_reducible refine cw_max2U ?_
  | with_reducible refine cw_min2U ?_
  | with_reducible refine cw_allT ?_
  | with_reducible refine cw_tupleL ?_
  | with_reducible refine cw_tupleT ?_
  | with_reducible refine cw_lenL ?_
  | with_reducible refine cw_lenT ?_
  | with_reducible refine cw_lenScr ?_
  | with_reducible refine ex_int ?_
  | with_reducible refine ex_listT ?_
  | ((with_reducible refine and_sz ?hz ?_); (case hz => (simp; done)))
  | with_reducible refine ex_two ?_
  | with_reducible refine ex_bool ?_
  | with_reducible refine ex_list ?_
  | with_reducible refine ex_tuple ?_
  | with_reducible refine ex_seqL ?_
  | with_reducible refine ex_seqT ?_
  | with_reducible refine and_cases (fun hb => ?_) (fun hb => ?_)
  | with_reducible refine or_cases (fun hb => ?_) (fun hb => ?_))

section
variable {P : Program} {w : World} {K : Fg} {mg : Str → Option Value} {base : Heap}
/-! boxes and their starts -/
def boxB (x : Net) : D → Bool | .tuple xs => decide (xs.length = x.s) && xs.all (rowB x.p 0 x.d) | _ => false
theorem boxB_no {x : Net} {d : D} (h : (!isTupD d) = true) : boxB x d = false := by
  cases d <;> first | rfl | simp [isTupD] at h
theorem boxB_out {x : Net} {xs : List D} (h : xs.length ≠ x.s) : boxB x (.tuple xs) = false := by
  show (decide (xs.length = x.s) && _) = false
  rw [decide_eq_false h]
  rfl
theorem boxB_in {x : Net} {xs : List D} (h : xs.length = x.s) : boxB x (.tuple xs) = xs.all (rowB x.p 0 x.d) := by
  show (decide (xs.length = x.s) && _) = _
  rw [decide_eq_true h]
  rfl
structure Box where
  x : Net
  c : Tab
  ok : c.length = x.s ∧ ∀ r ∈ c, r.length ≤ x.d ∧ ∀ v ∈ r, 0 ≤ v ∧ v < x.p
theorem boxB_ok (b : Box) : boxB b.x (tabD b.c) = true := by
  show boxB b.x (.tuple (b.c.map rowD)) = true
  rw [boxB_in (by rw [List.length_map, b.ok.1]), List.all_map, List.all_eq_true]
  intro r hr
  obtain ⟨h1, h2⟩ := b.ok.2 r hr
  exact rowB_ok h2 (by omega) (by omega)
def boxA (b : Box) : Tab := rowsW b.x.ts (b.c.map List.length)
theorem boxA_len (b : Box) : (boxA b).length = b.c.flatten.length := by
  have key : ∀ (ts : List Tab) (c : Tab), ts.length = c.length → (∀ t ∈ ts, t.length = b.x.d) → (∀ r ∈ c, r.length ≤ b.x.d) → (rowsW ts (c.map List.length)).length = c.flatten.length := by
    intro ts
    induction ts with
    | nil => intro c h _ _; cases c with | nil => rfl | cons _ _ => cases h
    | cons t ts ih =>
      intro c h h1 h2
      cases c with
      | nil => cases h
      | cons r c =>
        have := ih c (by simpa using h) (fun q hq => h1 q (by simp [hq])) (fun q hq => h2 q (by simp [hq]))
        have e1 := h1 t (by simp)
        have e2 := h2 r (by simp)
        unfold rowsW at this ⊢
        rw [List.map_cons, List.zip_cons_cons, List.flatMap_cons, List.length_append, this, List.length_take, List.flatten_cons, List.length_append]
        dsimp only
        omega
  exact key b.x.ts b.c (by rw [b.x.len, b.ok.1]) (fun t ht => (b.x.tab t ht).1) fun r hr => (b.ok.2 r hr).1
theorem boxA_ok (b : Box) : ∀ r ∈ boxA b, RowOk b.x.p b.x.m r := rowsW_ok
theorem boxV_ok (b : Box) : RowOk b.x.p (boxA b).length b.c.flatten := ⟨(boxA_len b).symm, flat_fig fun r hr => (b.ok.2 r hr).2⟩
def lndD : Option (Row × Tab) → D | none => .none | some q => .tuple [rowD q.1, tabD q.2]
def firstD : Option (Row × Tab) → D | none => .none | some q => rowD q.1
end

end Lw

namespace Lw
open PySem PySem.Spec PyProof.Rows L2 DlP Dl
local macro_rules | `(tactic| walk_at "dl") => `(tactic| first
  | with_reducible refine cw_lenRow ?_
  | with_reducible refine cw_lenTab ?_
  | with_reducible refine ow_net0 ?_
  | with_reducible refine ow_net1 ?_
  | with_reducible refine ow_tabs0 ?_
  | with_reducible refine ow_tab0 ?_
  | with_reducible refine ex_seqRow ?_
  | with_reducible refine ex_seqTab ?_
  | ((with_reducible refine ow_rep0 ?hk ?_); (case hk => (constructor <;> omega)))
  | with_reducible refine wg_three ?_
  | with_reducible refine cw_sumU ?_
  | with_reducible refine cw_sumT ?_
  | with_reducible refine ws_setNil ?_
  | with_reducible refine ow_eqUB ?_
  | with_reducible refine ow_neUB ?_
  | with_reducible refine ow_neUS ?_
  | with_reducible refine ow_eqUS ?_
  | with_reducible refine ws_next ?_
  | with_reducible refine ws_seq ?_
  | with_reducible refine ws_if ?_
  | with_reducible refine wt_not ?_
  | with_reducible refine wt_and ?_
  | with_reducible refine wt_or ?_
  | with_reducible refine wt_chainI ?_
  | with_reducible refine wt_test ?_
  | with_reducible refine wt_B ?_
  | with_reducible refine ws_ret ?_
  | with_reducible refine ws_cont ?_
  | with_reducible refine ws_break ?_
  | with_reducible refine wa_cons ?_
  | with_reducible refine wa_nil ?_
  | ((with_reducible refine we_var (d := ?dd) ?hv ?_); (case hv => exact rfl))
  | with_reducible refine we_int ?_
  | with_reducible refine we_bl ?_
  | with_reducible refine we_non ?_
  | with_reducible refine we_str ?_
  | with_reducible refine we_negI ?_
  | ((with_reducible refine we_spr ?hv ?hw (fun z => ?_)); (case hv => exact rfl); (case hw => decide))
  | ((with_reducible refine ws_spr ?hv ?hw ?_); (case hv => exact rfl); (case hw => decide))
  | with_reducible refine ws_set ?_
  | with_reducible refine ws_asgG ?_
  | with_reducible refine wg_two ?_
  | with_reducible refine wg_name ?_
  | with_reducible refine we_andV ?_
  | with_reducible refine we_orV ?_
  | with_reducible refine we_notV ?_
  | with_reducible refine we_if ?_
  | with_reducible refine we_chainI ?_
  | with_reducible refine we_isN ?_
  | with_reducible refine we_notN ?_
  | with_reducible refine we_repL ?_
  | with_reducible refine we_catLc ?_
  | with_reducible refine we_catLst ?_
  | with_reducible refine we_listof ?_
  | with_reducible refine we_op ?_
  | with_reducible refine we_isInt ?_
  | with_reducible refine we_isBool ?_
  | with_reducible refine we_isTup ?_
  | ((with_reducible refine we_nlen (κ := tabKey) ?hv ?_); (case hv => exact rfl))
  | ((with_reducible refine we_nlen (κ := rowKey) ?hv ?_); (case hv => exact rfl))
  | with_reducible refine we_cb ?_
  | with_reducible refine we_lst ?_
  | with_reducible refine we_dict0 ?_
  | with_reducible refine we_disp1 ?_
  | with_reducible refine we_tup2 ?_
  | with_reducible refine we_tup1 ?_
  | with_reducible refine we_tup ?_
  | with_reducible refine ow_addI ?_
  | with_reducible refine ow_I0b ?_
  | with_reducible refine ow_eqUI ?_
  | with_reducible refine ow_neUI ?_
  | ((with_reducible refine ow_mulI ?hc ?_); (case hc => first | exact cmul_right (by decide) | exact cmul_left (by decide) | exact cmul_right (by omega) | exact cmul_left (by omega)))
  | ((with_reducible refine ow_modN ?hc ?_); (case hc => omega))
  | ((with_reducible refine ow_fdivL ?hc ?_); (case hc => (exact cdivL (by omega) (by omega))))
  | ((with_reducible refine ow_pow ?hc ?_); (case hc => exact ⟨by decide, by decide, by decide⟩))
  | with_reducible refine ow_I0i ?_
  | with_reducible refine cw_int ?_
  | with_reducible refine cw_intB ?_
  | with_reducible refine cw_abs ?_
  | with_reducible refine cw_max2U ?_
  | with_reducible refine cw_min2U ?_
  | with_reducible refine cw_allT ?_
  | with_reducible refine cw_tupleL ?_
  | with_reducible refine cw_tupleT ?_
  | with_reducible refine cw_lenL ?_
  | with_reducible refine cw_lenT ?_
  | with_reducible refine cw_lenScr ?_
  | with_reducible refine ex_int ?_
  | with_reducible refine ex_listT ?_
  | ((with_reducible refine and_sz ?hz ?_); (case hz => (simp; done)))
  | with_reducible refine ex_two ?_
  | with_reducible refine ex_bool ?_
  | with_reducible refine ex_list ?_
  | with_reducible refine ex_tuple ?_
  | with_reducible refine ex_seqL ?_
  | with_reducible refine ex_seqT ?_
  | with_reducible refine and_cases (fun hb => ?_) (fun hb => ?_)
  | with_reducible refine or_cases (fun hb => ?_) (fun hb => ?_))

section
variable {P : Program} {w : World} {K : Fg} {mg : Str → Option Value} {base : Heap}
/-! the law's own sums -/
def snocD (f : D) : D → D | .tuple xs => .tuple (xs ++ [f]) | _ => .none
theorem starts_lead {p i g : Nat} (hp : 0 < p) (hg : g < p) : ((List.range (p ^ i * g)).map fun n => rowD (digs p (i + 1) n)) ++ ((List.range (p ^ i)).map fun n => rowD (digs p i n)).map (snocD (.int g)) = (List.range (p ^ i * (g + 1))).map fun n => rowD (digs p (i + 1) n) := by
  rw [Nat.mul_add, Nat.mul_one, List.range_add, List.map_append, List.map_map, List.map_map]
  congr 1
  refine List.map_congr_left fun n hn => ?_
  have hn : n < p ^ i := List.mem_range.mp hn
  show snocD (.int g) (rowD (digs p i n)) = rowD (digs p (i + 1) (p ^ i * g + n))
  rw [digs_lead hp hn hg]
  unfold rowD
  rw [List.map_append]
  rfl
theorem ok__law_starts {f : Addr} {fd : FuncData} (F : Fun K "_law_starts" "_law_starts" s__law_starts f fd) (B : Bi K mg) : FnG P w K mg base CX0 1 f fd ["p", "m"] (spA K (fun x : Nat × Nat => [.int x.1, .int x.2]) (fun x => (0 < x.1 ∧ x.1 < 1000) ∧ x.2 < 1000 ∧ x.1 ^ x.2 ≤ 5000) (fun x e => e = .list ((allRows x.1 x.2).map rowD))) := by
  refine ok_fnA F sc__law_starts (fun _ => rfl) (fun cdv A outer s H E hr hgd => ?_)
  refine ⟨_, (pss_cons (ps_set (i := 2) sc__law_starts.nd rfl (by first | exact Or.inl rfl | exact Or.inr rfl) (pe_lst (pa_cons (pe_tup pa_nil) pa_nil)))
      (pss_cons (ps_for PassesOwn.never (by rfl) (pi_range1 (by rfl) B.z_range (pa_cons (pv 1) pa_nil)) (pg_name (i := 3) sc__law_starts.nd rfl (by first | exact Or.inl rfl | exact Or.inr rfl))
      (pss_cons (ps_set (i := 4) sc__law_starts.nd rfl (by first | exact Or.inl rfl | exact Or.inr rfl) (pe_lst pa_nil))
      (pss_cons (ps_for PassesOwn.never (by rfl) (pi_range1 (by rfl) B.z_range (pa_cons (pv 0) pa_nil)) (pg_name (i := 5) sc__law_starts.nd rfl (by first | exact Or.inl rfl | exact Or.inr rfl))
      (pss_one (ps_set (i := 4) sc__law_starts.nd rfl (by first | exact Or.inl rfl | exact Or.inr rfl) (pe_op (op_addUK (K := K) rfl) (pv 4) (pe_lc (own := [("row", 6)]) (g := (gName 6)) (tt := tYes) (by rfl) sc__law_starts.nd (pi_seqK (K := K) rfl (pv 2)) (blkOk_by (own := [("row", 6)]) (N := ["p", "m", "rows", "turn", "later", "fig", "row"]) (sc := defScope s__law_starts) (by decide +kernel)) (fun _ _ _ _ _ => (pg_name (i := 6) sc__law_starts.nd rfl (by first | exact Or.inl rfl | exact Or.inr rfl))) (fun _ _ _ _ _ => pts_nil) (fun _ _ _ _ _ => (pe_op (op_addUK (K := K) rfl) (pv 6) (pe_tup (pa_cons (pv 5) pa_nil)))))))))
      (pss_one (ps_set (i := 2) sc__law_starts.nd rfl (by first | exact Or.inl rfl | exact Or.inr rfl) (pv 4))))))
      (pss_one (ps_ret (pv 2))))), ?_⟩
  rintro ⟨p, m⟩ ⟨hp, hm, h64⟩
  dsimp only at hp hm h64
  show WS _ none _ _ [.dat (.int p), .dat (.int m), .no, .no, .no, .no, .no]
  repeat' walk_at "dl"
  refine ws_for (wj_rng1 ?_)
  repeat' walk_at "dl"
  refine ⟨_, rfl, by omega, fun i δ => ∃ c1 c2 c3, δ = [.dat (.int p), .dat (.int m), .dat (.list ((List.range (p ^ i)).map fun n => rowD (digs p i n))), c1, c2, c3, .no], ⟨_, _, _, rfl⟩, fun i d δ' hd ⟨c1, c2, c3, e⟩ => ?_, fun δ' ⟨c1, c2, c3, e⟩ => ?_⟩
  · subst e
    obtain ⟨hi, rfl⟩ := rngD_inv hd
    have hi : i < m := by omega
    have hpi : p ^ (i + 1) ≤ 5000 := Nat.le_trans (Nat.pow_le_pow_right hp.1 hi) h64
    have hp1 : p ^ i * p ≤ 5000 := by rw [← Nat.pow_succ]; exact hpi
    refine wg_name ?_
    refine ws_seq (ws_set (we_lst (wa_nil ⟨szl (by simp), ?_⟩)))
    repeat' walk_at "dl"
    refine ws_for (wj_rng1 ?_)
    repeat' walk_at "dl"
    refine ⟨_, rfl, by omega, fun g δ => ∃ c1 c3, δ = [.dat (.int p), .dat (.int m), .dat (.list ((List.range (p ^ i)).map fun n => rowD (digs p i n))), c1, .dat (.list ((List.range (p ^ i * g)).map fun n => rowD (digs p (i + 1) n))), c3, .no], ⟨_, _, rfl⟩, fun g d δ' hd ⟨c1, c3, e⟩ => ?_, fun δ' ⟨c1, c3, e⟩ => ?_⟩
    · subst e
      obtain ⟨hg, rfl⟩ := rngD_inv hd
      have hg : g < p := by omega
      have hi2 : (0 : Int) + (g : Nat) = (g : Nat) := by omega
      rw [hi2]
      have hs : p ^ i * (g + 1) ≤ 5000 := Nat.le_trans (Nat.mul_le_mul_left _ hg) hp1
      have hs1 : p ^ i ≤ 5000 := Nat.le_trans (Nat.le_mul_of_pos_right _ hp.1) hp1
      rw [Nat.mul_add, Nat.mul_one] at hs
      refine wg_name ?_
      repeat' walk_at "dl"
      refine wf_map (snocD (.int g)) (wj_seq ?_)
      repeat' walk_at "dl"
      refine ⟨szl (by simp; omega), fun j d hd => ?_, szl (by simp; omega), ?_⟩
      · obtain ⟨n, _, rfl⟩ := get_map hd
        refine wgv_name (by simp) ?_
        repeat' walk_at "dl"
        refine ow_addT (szl (by simp [digs_len]; omega)) ?_
        rfl
      · rw [starts_lead hp.1 hg]
        exact ⟨_, _, rfl⟩
    · subst e
      repeat' walk_at "dl"
      rw [rngD_len, Int.toNat_natCast, ← Nat.pow_succ]
      exact ⟨_, _, _, rfl⟩
  · subst e
    repeat' walk_at "dl"
    rw [rngD_len, Int.toNat_natCast]
    show _ = PyData.list ((allRows p m).map rowD)
    unfold allRows
    rw [List.map_map]
    rfl
/-- the point of a start -/
def ptOf (p : Int) (ts : List Tab) (b : Row) : Tab := ts.map fun t => t.map fun r => (dot r b).fmod p
structure NB where
  x : Net
  b : Row
  ok : RowOk x.p x.m b
theorem pt_snoc {p : Int} {ts : List Tab} {b : Row} {i : Nat} {t : Tab} (h : ts[i]? = some t) : (ptOf p (ts.take i) b).map rowD ++ [rowD (t.map fun r => (dot r b).fmod p)] = (ptOf p (ts.take (i + 1)) b).map rowD := by
  unfold ptOf
  rw [List.take_add_one, h]
  simp
theorem ok__law_point {f fT : Addr} {fd fdT : FuncData} (F : Fun K "_law_point" "_law_point" s__law_point f fd) (B : Bi K mg) (d__law_times : Df P w K mg base 1 "_law_times" fT fdT ["p", "left", "right"] (spF K preDot postDot)) : FnG P w K mg base CX0 2 f fd ["web", "begin"] (spA K (fun x : NB => [x.x.D, rowD x.b]) (fun _ => True) (fun x e => e = tabD (ptOf x.x.p x.x.ts x.b))) := by
  refine ok_fnA F sc__law_point (fun _ => rfl) (fun cdv A outer s H E hr hgd => ?_)
  refine ⟨_, (pss_cons (ps_set (i := 2) sc__law_point.nd rfl (by first | exact Or.inl rfl | exact Or.inr rfl) (pe_lst pa_nil))
      (pss_cons (ps_for PassesOwn.never (by rfl) (pi_seqK (K := K) rfl (pe_ix (ix_seqK (K := K) rfl) (pv 0) pe_int (fun _ _ => rfl))) (pg_name (i := 3) sc__law_point.nd rfl (by first | exact Or.inl rfl | exact Or.inr rfl))
      (pss_one (ps_expr (pe_bm PySem.F.plainAttrs_list PySem.F.slot_list_append PySem.F.type_list_append mt_append (pv 2) (pa_cons (pe_callTy (call_tuple_ofK (K := K) rfl) (by rfl) B.z_tuple (by decide +kernel) (pa_cons (pe_lc (own := [("row", 4)]) (g := (gName 4)) (tt := tYes) (by rfl) sc__law_point.nd (pi_seqK (K := K) rfl (pv 3)) (blkOk_by (own := [("row", 4)]) (N := ["web", "begin", "found", "table", "row"]) (sc := defScope s__law_point) (by decide +kernel)) (fun _ _ _ _ _ => (pg_name (i := 4) sc__law_point.nd rfl (by first | exact Or.inl rfl | exact Or.inr rfl))) (fun _ _ _ _ _ => pts_nil) (fun _ _ _ _ _ => (pe_callG d__law_times.ok (hr.mono (by decide)) hgd (by rfl) d__law_times.g d__law_times.kp d__law_times.b .nil pass0 (pa_cons (pe_ix (ix_seqK (K := K) rfl) (pv 0) pe_int (fun _ _ => rfl)) (pa_cons (pv 4) (pa_cons (pv 1) pa_nil)))))) pa_nil)) pa_nil)))))
      (pss_one (ps_ret (pe_callTy (call_tuple_ofK (K := K) rfl) (by rfl) B.z_tuple (by decide +kernel) (pa_cons (pv 2) pa_nil)))))), ?_⟩
  rintro ⟨x, b, hb⟩ -
  have hp := x.pos
  have hs := x.sb
  have hm := x.mb
  show WS _ none _ _ [.dat (netD x.p x.ts), .dat (rowD b), .no, .no, .no]
  repeat' walk_at "dl"
  refine ws_for (wj_seq ?_)
  repeat' walk_at "dl"
  refine ⟨fun i δ => ∃ c, δ = [.dat (netD x.p x.ts), .dat (rowD b), .own ((ptOf x.p (x.ts.take i) b).map rowD), c, .no], ⟨_, rfl⟩, fun i dd δ' hd ⟨c, e⟩ => ?_, fun δ' ⟨c, e⟩ => ?_⟩
  · subst e
    obtain ⟨t, ht, rfl⟩ := get_map hd
    have hi : i < x.ts.length := (List.getElem?_eq_some_iff.mp ht).1
    have htm := List.mem_of_getElem? ht
    have hto := x.tab t htm
    have hdb := x.db
    rw [x.len] at hi
    refine wg_name ?_
    refine ws_append rfl (szlt (by simp [ptOf]; omega)) ?_
    repeat' walk_at "dl"
    refine we_fresh (wf_mapA rowD (fun r => .int ((dot r b).fmod x.p)) (wj_seq ?_))
    repeat' walk_at "dl"
    refine ⟨t, rfl, szl (by rw [hto.1]; omega), fun r hr => ?_, fun a _ b _ e => by rw [rowD_inj e], ?_⟩
    · have hrm := hto.2 r hr
      refine wgv_name (by simp) ?_
      refine we_call ?_
      repeat' walk_at "dl"
      refine ⟨⟨x.p, r, b, rfl, by omega, by rw [hrm.1]; omega, fun v hv => by have := hrm.2 v hv; omega⟩, fun e he => he x.p r b rfl⟩
    · repeat' walk_at "dl"
      refine ⟨.dat (tabD t), ?_⟩
      · have e1 : PyData.tuple (t.map fun r => PyData.int ((dot r b).fmod x.p)) = rowD (t.map fun r => (dot r b).fmod x.p) := by unfold rowD; rw [List.map_map]; rfl
        rw [e1, pt_snoc ht]
        rfl
  · subst e
    refine ws_ret (we_tupOwn rfl ?_)
    rw [List.length_map, List.take_length]
    rfl
def ptsOf (x : Net) : List Tab := (allRows x.p.toNat x.m).map (ptOf x.p x.ts)
theorem Net.nat (x : Net) : ((x.p.toNat : Nat) : Int) = x.p := by have := x.pos; omega
theorem ok__law_points {f fT fS : Addr} {fd fdT fdS : FuncData} (F : Fun K "_law_points" "_law_points" s__law_points f fd) (B : Bi K mg) (d__law_point : Df P w K mg base 2 "_law_point" fT fdT ["web", "begin"] (spA K (fun x : NB => [x.x.D, rowD x.b]) (fun _ => True) (fun x e => e = tabD (ptOf x.x.p x.x.ts x.b))))
    (d__law_starts : Df P w K mg base 1 "_law_starts" fS fdS ["p", "m"] (spA K (fun x : Nat × Nat => [.int x.1, .int x.2]) (fun x => (0 < x.1 ∧ x.1 < 1000) ∧ x.2 < 1000 ∧ x.1 ^ x.2 ≤ 5000) (fun x e => e = .list ((allRows x.1 x.2).map rowD)))) :
    FnG P w K mg base CX0 3 f fd ["web"] (spA K (fun x : Net => [x.D]) (fun x => x.p.toNat ^ x.m ≤ 5000) (fun x e => e = .list ((ptsOf x).map tabD))) := by
  refine ok_fnA F sc__law_points (fun _ => rfl) (fun cdv A outer s H E hr hgd => ?_)
  refine ⟨_, (pss_one (ps_ret (pe_lc (own := [("begin", 1)]) (g := (gName 1)) (tt := tYes) (by rfl) sc__law_points.nd (pi_seqK (K := K) rfl (pe_callG d__law_starts.ok (hr.mono (by decide)) hgd (by rfl) d__law_starts.g d__law_starts.kp d__law_starts.b .nil pass0 (pa_cons (pe_ix (ix_seqK (K := K) rfl) (pv 0) pe_int (fun _ _ => rfl)) (pa_cons (pe_callB (call_lenK (K := K) rfl) (by rfl) B.z_len (by decide +kernel) (pa_cons (pe_ix (ix_seqK (K := K) rfl) (pe_ix (ix_seqK (K := K) rfl) (pe_ix (ix_seqK (K := K) rfl) (pv 0) pe_int (fun _ _ => rfl)) pe_int (fun _ _ => rfl)) pe_int (fun _ _ => rfl)) pa_nil)) pa_nil)))) (blkOk_by (own := [("begin", 1)]) (N := ["web", "begin"]) (sc := defScope s__law_points) (by decide +kernel)) (fun _ _ _ _ _ => (pg_name (i := 1) sc__law_points.nd rfl (by first | exact Or.inl rfl | exact Or.inr rfl))) (fun _ _ _ _ _ => pts_nil) (fun _ _ _ _ _ => (pe_callG d__law_point.ok (hr.mono (by decide)) hgd (by rfl) d__law_point.g d__law_point.kp d__law_point.b .nil pass0 (pa_cons (pv 0) (pa_cons (pv 1) pa_nil))))))), ?_⟩
  intro x hx
  have hp := x.pos
  have hm := x.mb
  obtain ⟨r0, t0, ts0, e0, h1, h2⟩ := x.first
  show WS _ none _ _ [.dat (netD x.p x.ts), .no]
  refine ws_ret (we_fresh (wf_mapA rowD (fun b => tabD (ptOf x.p x.ts b)) (wj_seq (we_callA ?_))))
  repeat' walk_at "dl"
  rw [e0]
  repeat' walk_at "dl"
  rw [← e0, h1]
  refine ⟨(x.p.toNat, x.m), by show _ = [PyData.int (x.p.toNat : Nat), _]; rw [x.nat], ⟨by dsimp only; omega, by dsimp only; omega, hx⟩, fun e he => ?_⟩
  rw [show e = _ from he]
  dsimp only
  refine ⟨_, .inl rfl, allRows x.p.toNat x.m, rfl, szl (by rw [allRows_len]; omega), fun b hb => ?_, fun a _ b _ e => by rw [rowD_inj e], ?_⟩
  · have hbo := allRows_ok (by omega) b hb
    rw [x.nat] at hbo
    refine wgv_name (by simp) ?_
    refine we_callA ?_
    repeat' walk_at "dl"
    exact ⟨⟨x, b, hbo⟩, rfl, trivial, fun e he => he⟩
  · show _ = _
    unfold ptsOf
    rw [List.map_map]
    rfl
def splitR (l : Row) (s d : Nat) : Tab := (List.range s).map fun i => (l.drop (d * i)).take d
structure Spl where
  b : Bool
  l : Row
  s : Nat
  d : Nat
theorem cut_mid (l : List D) (a d : Nat) (h : a + d ≤ l.length) : Dl.cutD l (some ((a : Nat) : Int)) (some ((a + d : Nat) : Int)) = (l.drop a).take d := by
  unfold Dl.cutD
  have e0 : HT.sIx l.length 0 (some ((a : Nat) : Int)) = a := by
    unfold HT.sIx
    simp
    split <;> omega
  have e1 : HT.sIx l.length l.length (some ((a + d : Nat) : Int)) = a + d := by
    unfold HT.sIx
    simp
    split <;> omega
  rw [e0, e1]
  congr 1
  omega
theorem eqv_nil (ys : List D) : PyData.eqv (.list ys) (.list []) = ys.isEmpty := by
  cases ys <;> simp [PyData.eqv, PyData.eqvAll]
def notD (t : Int → Bool) : D → Bool | .int x => !t x | _ => false
theorem noughts {t : Int → Bool} (r : Row) : ((r.map PyData.int).filter (notD t)).isEmpty = r.all t := by
  induction r with
  | nil => rfl
  | cons x r ih =>
    rw [List.map_cons, List.all_cons, ← ih]
    cases h : t x with
    | true => rw [List.filter_cons_of_neg (by simp [notD, h]), Bool.true_and]
    | false => rw [List.filter_cons_of_pos (by simp [notD, h])]; rfl
theorem filt_ints (g : D → Bool) (r : Row) : ∃ q : Row, (r.map PyData.int).filter g = q.map PyData.int := by
  induction r with
  | nil => exact ⟨[], rfl⟩
  | cons x r ih =>
    obtain ⟨q, e⟩ := ih
    rw [List.map_cons]
    by_cases h : g (.int x) = true
    · exact ⟨x :: q, by rw [List.filter_cons_of_pos h, e]; rfl⟩
    · exact ⟨q, by rw [List.filter_cons_of_neg h, e]⟩
theorem shaped_ints (r : Row) : SeqAt.shaped (.list (r.map PyData.int)) = true := by
  unfold SeqAt.shaped
  have h1 := lay_ints r
  have h2 := depth_ints r
  simp only [PyData.canLay0, PyData.depth, h1, Bool.true_and]
  exact decide_eq_true (by omega)
structure Sm where
  p : Int
  m : Nat
  fs : Row
  b : Bool
  rs : Tab
end

end Lw

namespace Lw
open PySem PySem.Spec PyProof.Rows L2 DlP Dl
local macro_rules | `(tactic| walk_at "dl") => `(tactic| first
  | with_reducible refine cw_lenRow ?_
  | with_reducible refine cw_lenTab ?_
  | with_reducible refine ow_net0 ?_
  | with_reducible refine ow_net1 ?_
  | with_reducible refine ow_tabs0 ?_
  | with_reducible refine ow_tab0 ?_
  | with_reducible refine ex_seqRow ?_
  | with_reducible refine ex_seqTab ?_
  | ((with_reducible refine ow_rep0 ?hk ?_); (case hk => (constructor <;> omega)))
  | with_reducible refine wg_three ?_
  | with_reducible refine cw_sumU ?_
  | with_reducible refine cw_sumT ?_
  | with_reducible refine ws_setNil ?_
  | with_reducible refine ow_eqUB ?_
  | with_reducible refine ow_neUB ?_
  | with_reducible refine ow_neUS ?_
  | with_reducible refine ow_eqUS ?_
  | with_reducible refine ws_next ?_
  | with_reducible refine ws_seq ?_
  | with_reducible refine ws_if ?_
  | with_reducible refine wt_not ?_
  | with_reducible refine wt_and ?_
  | with_reducible refine wt_or ?_
  | with_reducible refine wt_chainI ?_
  | with_reducible refine wt_test ?_
  | with_reducible refine wt_B ?_
  | with_reducible refine ws_ret ?_
  | with_reducible refine ws_cont ?_
  | with_reducible refine ws_break ?_
  | with_reducible refine wa_cons ?_
  | with_reducible refine wa_nil ?_
  | ((with_reducible refine we_var (d := ?dd) ?hv ?_); (case hv => exact rfl))
  | with_reducible refine we_int ?_
  | with_reducible refine we_bl ?_
  | with_reducible refine we_non ?_
  | with_reducible refine we_str ?_
  | with_reducible refine we_negI ?_
  | ((with_reducible refine we_spr ?hv ?hw (fun z => ?_)); (case hv => exact rfl); (case hw => decide))
  | ((with_reducible refine ws_spr ?hv ?hw ?_); (case hv => exact rfl); (case hw => decide))
  | with_reducible refine ws_set ?_
  | with_reducible refine ws_asgG ?_
  | with_reducible refine wg_two ?_
  | with_reducible refine wg_name ?_
  | with_reducible refine we_andV ?_
  | with_reducible refine we_orV ?_
  | with_reducible refine we_notV ?_
  | with_reducible refine we_if ?_
  | with_reducible refine we_chainI ?_
  | with_reducible refine we_isN ?_
  | with_reducible refine we_notN ?_
  | with_reducible refine we_repL ?_
  | with_reducible refine we_catLc ?_
  | with_reducible refine we_catLst ?_
  | with_reducible refine we_listof ?_
  | with_reducible refine we_op ?_
  | with_reducible refine we_isInt ?_
  | with_reducible refine we_isBool ?_
  | with_reducible refine we_isTup ?_
  | ((with_reducible refine we_nlen (κ := tabKey) ?hv ?_); (case hv => exact rfl))
  | ((with_reducible refine we_nlen (κ := rowKey) ?hv ?_); (case hv => exact rfl))
  | with_reducible refine we_cb ?_
  | with_reducible refine we_lst ?_
  | with_reducible refine we_dict0 ?_
  | with_reducible refine we_disp1 ?_
  | with_reducible refine we_tup2 ?_
  | with_reducible refine we_tup1 ?_
  | with_reducible refine we_tup ?_
  | with_reducible refine ow_addI ?_
  | with_reducible refine ow_I0b ?_
  | with_reducible refine ow_eqUI ?_
  | with_reducible refine ow_neUI ?_
  | ((with_reducible refine ow_mulI ?hc ?_); (case hc => first | exact cmul_right (by decide) | exact cmul_left (by decide) | exact cmul_right (by omega) | exact cmul_left (by omega)))
  | ((with_reducible refine ow_modN ?hc ?_); (case hc => omega))
  | ((with_reducible refine ow_fdivL ?hc ?_); (case hc => (exact cdivL (by omega) (by omega))))
  | ((with_reducible refine ow_pow ?hc ?_); (case hc => exact ⟨by decide, by decide, by decide⟩))
  | with_reducible refine ow_I0i ?_
  | with_reducible refine cw_int ?_
  | with_reducible refine cw_intB ?_
  | with_reducible refine cw_abs ?_
  | with_reducible refine cw_max2U ?_
  | with_reducible refine cw_min2U ?_
  | with_reducible refine cw_allT ?_
  | with_reducible refine cw_tupleL ?_
  | with_reducible refine cw_tupleT ?_
  | with_reducible refine cw_lenL ?_
  | with_reducible refine cw_lenT ?_
  | with_reducible refine cw_lenScr ?_
  | with_reducible refine ex_int ?_
  | with_reducible refine ex_listT ?_
  | ((with_reducible refine and_sz ?hz ?_); (case hz => (simp; done)))
  | with_reducible refine ex_two ?_
  | with_reducible refine ex_bool ?_
  | with_reducible refine ex_list ?_
  | with_reducible refine ex_tuple ?_
  | with_reducible refine ex_seqL ?_
  | with_reducible refine ex_seqT ?_
  | with_reducible refine and_cases (fun hb => ?_) (fun hb => ?_)
  | with_reducible refine or_cases (fun hb => ?_) (fun hb => ?_))

section
variable {P : Program} {w : World} {K : Fg} {mg : Str → Option Value} {base : Heap}
/-! what the laws know of boxes -/
theorem eqv_ints : ∀ a b : Row, PyData.eqvAll (a.map PyData.int) (b.map PyData.int) = decide (a = b)
  | [], [] => by simp [PyData.eqvAll]
  | [], y :: b => by simp [PyData.eqvAll]
  | x :: a, [] => by simp [PyData.eqvAll]
  | x :: a, y :: b => by
    rw [List.map_cons, List.map_cons]
    simp only [PyData.eqvAll, PyData.eqv, eqv_ints a b]
    by_cases h : x = y
    · by_cases h2 : a = b
      · simp [h, h2]
      · simp [h, h2]
    · simp [h]
theorem eqv_rows (a b : Row) : PyData.eqv (rowD a) (rowD b) = decide (a = b) := by
  unfold rowD
  simp only [PyData.eqv, eqv_ints]
def inB (pt c : Tab) : Bool := (List.range c.length).all fun k => decide ((pt.getD k []).take (c.getD k []).length = c.getD k [])
theorem inB_cons (t : Row) (pt : Tab) (r : Row) (c : Tab) : inB (t :: pt) (r :: c) = (decide (t.take r.length = r) && inB pt c) := by
  unfold inB
  rw [List.length_cons, List.range_succ_eq_map, List.all_cons, List.all_map]
  rfl
theorem in_sol {p : Int} {d : Nat} {s : Row} : ∀ {ts : List Tab} {c : Tab}, ts.length = c.length → (∀ t ∈ ts, t.length = d) → (∀ r ∈ c, r.length ≤ d) → inB (ptOf p ts s) c = solB p (rowsW ts (c.map List.length)) c.flatten s
  | [], [], _, _, _ => rfl
  | [], _ :: _, h, _, _ => by cases h
  | _ :: _, [], h, _, _ => by cases h
  | t :: ts, r :: c, h, h1, h2 => by
    have ih := in_sol (p := p) (s := s) (ts := ts) (c := c) (by simpa using h) (fun q hq => h1 q (by simp [hq])) (fun q hq => h2 q (by simp [hq]))
    have e1 : ptOf p (t :: ts) s = (t.map fun q => (dot q s).fmod p) :: ptOf p ts s := rfl
    have e2 : rowsW (t :: ts) ((r :: c).map List.length) = t.take r.length ++ rowsW ts (c.map List.length) := by
      unfold rowsW
      rw [List.map_cons, List.zip_cons_cons, List.flatMap_cons]
    rw [e1, inB_cons, ih, e2, List.flatten_cons]
    unfold solB
    rw [List.map_append, ← List.map_take]
    have hl : ((t.take r.length).map fun q => (dot q s).fmod p).length = r.length := by
      rw [List.length_map, List.length_take, h1 t (by simp)]
      have := h2 r (by simp)
      omega
    rw [Bool.eq_iff_iff, Bool.and_eq_true, decide_eq_true_iff, decide_eq_true_iff, decide_eq_true_iff]
    constructor
    · rintro ⟨k1, k2⟩; rw [k1, k2]
    · intro k; exact List.append_inj k hl
structure BS where
  b : Box
  s : Row
def outT (pt c : Tab) : D → Bool | .int k => !decide ((pt.getD k.toNat []).take (c.getD k.toNat []).length = c.getD k.toNat []) | _ => false
theorem out_empty (pt c : Tab) : (((rngD 0 c.length).filter (outT pt c)).map fun d => d).isEmpty = inB pt c := by
  rw [List.map_id']
  have key : ∀ l : List Nat, ((l.map fun i => (PyData.int ((0 : Int) + (i : Nat)))).filter (outT pt c)).isEmpty = l.all fun k => decide ((pt.getD k []).take (c.getD k []).length = c.getD k []) := fun l => by
    induction l with
    | nil => rfl
    | cons x l ih =>
      have ex : outT pt c (.int ((0 : Int) + (x : Nat))) = !decide ((pt.getD x []).take (c.getD x []).length = c.getD x []) := by
        show (!decide ((pt.getD ((0 : Int) + (x : Nat)).toNat []).take (c.getD ((0 : Int) + (x : Nat)).toNat []).length = c.getD ((0 : Int) + (x : Nat)).toNat [])) = _
        rw [show ((0 : Int) + (x : Nat)).toNat = x by omega]
      rw [List.map_cons, List.all_cons]
      cases h : decide ((pt.getD x []).take (c.getD x []).length = c.getD x []) with
      | true => rw [List.filter_cons_of_neg (by rw [ex, h]; simp), ih]; rfl
      | false => rw [List.filter_cons_of_pos (by rw [ex, h]; rfl)]; rfl
  exact key (List.range c.length)
theorem cut_hi2 (l : List D) (n : Nat) : Dl.cutD l none (some ((n : Nat) : Int)) = l.take n := by
  unfold Dl.cutD
  have e0 : HT.sIx l.length 0 none = 0 := rfl
  have e1 : HT.sIx l.length l.length (some ((n : Nat) : Int)) = min n l.length := by
    unfold HT.sIx
    simp
    omega
  rw [e0, e1, List.drop_zero, Nat.sub_zero, Nat.min_def]
  split
  · rfl
  · rw [List.take_of_length_le (Nat.le_refl _), List.take_of_length_le (by omega)]
theorem getD_at {α : Type} {l : List α} {k : Nat} {x : α} (h : k < l.length) : l[k]? = some (l.getD k x) := by
  rw [List.getD_eq_getElem?_getD, List.getElem?_eq_getElem h]
  rfl
theorem rng_sub {T : D → Bool} {n : Nat} : ∀ d ∈ (rngD 0 n).filter T, ∃ i : Int, d = .int i := fun d hd => by
  obtain ⟨i, hi, e⟩ := List.getElem_of_mem (List.mem_filter.mp hd).1
  have := rngD_inv (i := i) (d := d) (by rw [List.getElem?_eq_getElem hi, e])
  exact ⟨_, this.2⟩
theorem all_ints : ∀ {ds : List D}, (∀ d ∈ ds, ∃ i : Int, d = .int i) → ∃ q : Row, ds = q.map PyData.int
  | [], _ => ⟨[], rfl⟩
  | d :: ds, h => by
    obtain ⟨i, rfl⟩ := h d (by simp)
    obtain ⟨q, rfl⟩ := all_ints (ds := ds) fun e he => h e (by simp [he])
    exact ⟨i :: q, rfl⟩
end

end Lw

namespace Lw
open PySem PySem.Spec PyProof.Rows L2 DlP Dl
local macro_rules | `(tactic| walk_at "dl") => `(tactic| first
  | with_reducible refine cw_lenRow ?_
  | with_reducible refine cw_lenTab ?_
  | with_reducible refine ow_net0 ?_
  | with_reducible refine ow_net1 ?_
  | with_reducible refine ow_tabs0 ?_
  | with_reducible refine ow_tab0 ?_
  | with_reducible refine ex_seqRow ?_
  | with_reducible refine ex_seqTab ?_
  | ((with_reducible refine ow_rep0 ?hk ?_); (case hk => (constructor <;> omega)))
  | with_reducible refine wg_three ?_
  | with_reducible refine cw_sumU ?_
  | with_reducible refine cw_sumT ?_
  | with_reducible refine ws_setNil ?_
  | with_reducible refine ow_eqUB ?_
  | with_reducible refine ow_neUB ?_
  | with_reducible refine ow_neUS ?_
  | with_reducible refine ow_eqUS ?_
  | with_reducible refine ws_next ?_
  | with_reducible refine ws_seq ?_
  | with_reducible refine ws_if ?_
  | with_reducible refine wt_not ?_
  | with_reducible refine wt_and ?_
  | with_reducible refine wt_or ?_
  | with_reducible refine wt_chainI ?_
  | with_reducible refine wt_test ?_
  | with_reducible refine wt_B ?_
  | with_reducible refine ws_ret ?_
  | with_reducible refine ws_cont ?_
  | with_reducible refine ws_break ?_
  | with_reducible refine wa_cons ?_
  | with_reducible refine wa_nil ?_
  | ((with_reducible refine we_var (d := ?dd) ?hv ?_); (case hv => exact rfl))
  | with_reducible refine we_int ?_
  | with_reducible refine we_bl ?_
  | with_reducible refine we_non ?_
  | with_reducible refine we_str ?_
  | with_reducible refine we_negI ?_
  | ((with_reducible refine we_spr ?hv ?hw (fun z => ?_)); (case hv => exact rfl); (case hw => decide))
  | ((with_reducible refine ws_spr ?hv ?hw ?_); (case hv => exact rfl); (case hw => decide))
  | with_reducible refine ws_set ?_
  | with_reducible refine ws_asgG ?_
  | with_reducible refine wg_two ?_
  | with_reducible refine wg_name ?_
  | with_reducible refine we_andV ?_
  | with_reducible refine we_orV ?_
  | with_reducible refine we_notV ?_
  | with_reducible refine we_if ?_
  | with_reducible refine we_chainI ?_
  | with_reducible refine we_isN ?_
  | with_reducible refine we_notN ?_
  | with_reducible refine we_repL ?_
  | with_reducible refine we_catLc ?_
  | with_reducible refine we_catLst ?_
  | with_reducible refine we_listof ?_
  | with_reducible refine we_op ?_
  | with_reducible refine we_isInt ?_
  | with_reducible refine we_isBool ?_
  | with_reducible refine we_isTup ?_
  | ((with_reducible refine we_nlen (κ := tabKey) ?hv ?_); (case hv => exact rfl))
  | ((with_reducible refine we_nlen (κ := rowKey) ?hv ?_); (case hv => exact rfl))
  | with_reducible refine we_cb ?_
  | with_reducible refine we_lst ?_
  | with_reducible refine we_dict0 ?_
  | with_reducible refine we_disp1 ?_
  | with_reducible refine we_tup2 ?_
  | with_reducible refine we_tup1 ?_
  | with_reducible refine we_tup ?_
  | with_reducible refine ow_addI ?_
  | with_reducible refine ow_I0b ?_
  | with_reducible refine ow_eqUI ?_
  | with_reducible refine ow_neUI ?_
  | ((with_reducible refine ow_mulI ?hc ?_); (case hc => first | exact cmul_right (by decide) | exact cmul_left (by decide) | exact cmul_right (by omega) | exact cmul_left (by omega)))
  | ((with_reducible refine ow_modN ?hc ?_); (case hc => omega))
  | ((with_reducible refine ow_fdivL ?hc ?_); (case hc => (exact cdivL (by omega) (by omega))))
  | ((with_reducible refine ow_pow ?hc ?_); (case hc => exact ⟨by decide, by decide, by decide⟩))
  | with_reducible refine ow_I0i ?_
  | with_reducible refine cw_int ?_
  | with_reducible refine cw_intB ?_
  | with_reducible refine cw_abs ?_
  | with_reducible refine cw_max2U ?_
  | with_reducible refine cw_min2U ?_
  | with_reducible refine cw_allT ?_
  | with_reducible refine cw_tupleL ?_
  | with_reducible refine cw_tupleT ?_
  | with_reducible refine cw_lenL ?_
  | with_reducible refine cw_lenT ?_
  | with_reducible refine cw_lenScr ?_
  | with_reducible refine ex_int ?_
  | with_reducible refine ex_listT ?_
  | ((with_reducible refine and_sz ?hz ?_); (case hz => (simp; done)))
  | with_reducible refine ex_two ?_
  | with_reducible refine ex_bool ?_
  | with_reducible refine ex_list ?_
  | with_reducible refine ex_tuple ?_
  | with_reducible refine ex_seqL ?_
  | with_reducible refine ex_seqT ?_
  | with_reducible refine and_cases (fun hb => ?_) (fun hb => ?_)
  | with_reducible refine or_cases (fun hb => ?_) (fun hb => ?_))

section
variable {P : Program} {w : World} {K : Fg} {mg : Str → Option Value} {base : Heap}
theorem net_ext {x y : Net} (h : x.D = y.D) : x = y := by
  obtain ⟨p, ts, s, d, m, ok⟩ := x
  obtain ⟨p', ts', s', d', m', ok'⟩ := y
  obtain ⟨e1, e2⟩ := netD_inj h
  subst e1 e2
  have es : s = s' := ok.2.2.2.2.1.symm.trans ok'.2.2.2.2.1
  have em : m = m' := ok.width ok'
  have ed : d = d' := by
    obtain ⟨r, t, ts', e, _⟩ := ok.first
    have hm : r :: t ∈ ts := by subst e; simp
    have h1 := (ok.2.2.2.2.2 (r :: t) hm).1
    have h2 := (ok'.2.2.2.2.2 (r :: t) hm).1
    exact h1.symm.trans h2
  subst es em ed
  rfl
def preCrate (ds : List D) : Prop := ∃ x : Net, ds = [x.D, .list ((ptsOf x).map tabD)] ∧ x.p.toNat ^ x.m ≤ 5000
def postCrate (ds : List D) (e : D) : Prop := ∀ x : Net, ds = [x.D, .list ((ptsOf x).map tabD)] → ∃ b : Box, b.x = x ∧ e = tabD b.c
theorem pt_okk {x : Net} : ∀ q ∈ ptsOf x, TabOk x.p x.s x.d q := fun q hq => by
  obtain ⟨b, hb, rfl⟩ := List.mem_map.mp hq
  refine ⟨by unfold ptOf; rw [List.length_map, x.len], fun r hr => ?_⟩
  obtain ⟨t, ht, rfl⟩ := List.mem_map.mp hr
  refine ⟨by rw [List.length_map]; exact (x.tab t ht).1, fun v hv => ?_⟩
  obtain ⟨q, _, rfl⟩ := List.mem_map.mp hv
  have := x.pos
  exact fmod_lt (by omega)
theorem pts_len (x : Net) : (ptsOf x).length = x.p.toNat ^ x.m := by unfold ptsOf; rw [List.length_map, allRows_len]
theorem rel_rows {x : Net} : ∀ {t : List Row} {dss : List (List D)}, dss.length = t.length → (∀ (i : Nat) (d : D) (e : List D), (t.map rowD)[i]? = some d → dss[i]? = some e → ∃ r : Row, e = r.map PyData.int ∧ r.length ≤ x.d ∧ ∀ v ∈ r, 0 ≤ v ∧ v < x.p) →
    ∃ c : Tab, dss = c.map (fun r => r.map PyData.int) ∧ c.length = t.length ∧ ∀ r ∈ c, r.length ≤ x.d ∧ ∀ v ∈ r, 0 ≤ v ∧ v < x.p
  | [], [], _, _ => ⟨[], rfl, rfl, fun _ h => nomatch h⟩
  | [], _ :: _, h, _ => by cases h
  | _ :: _, [], h, _ => by cases h
  | q :: t, e :: dss, h, k => by
    obtain ⟨r, e1, e2, e3⟩ := k 0 (rowD q) e rfl rfl
    obtain ⟨c, h1, h2, h3⟩ := rel_rows (t := t) (dss := dss) (by simpa using h) fun i d e hd he => k (i + 1) d e (by simpa using hd) (by simpa using he)
    subst e1
    subst h1
    exact ⟨r :: c, rfl, by simp [h2], fun r' hr' => by
      rcases List.mem_cons.mp hr' with z | z
      · rw [z]; exact ⟨e2, e3⟩
      · exact h3 r' z⟩
end

end Lw

namespace Lw
open PySem PySem.Spec PyProof.Rows L2 DlP Dl
local macro_rules | `(tactic| walk_at "dl") => `(tactic| first
  | with_reducible refine cw_lenRow ?_
  | with_reducible refine cw_lenTab ?_
  | with_reducible refine ow_net0 ?_
  | with_reducible refine ow_net1 ?_
  | with_reducible refine ow_tabs0 ?_
  | with_reducible refine ow_tab0 ?_
  | with_reducible refine ex_seqRow ?_
  | with_reducible refine ex_seqTab ?_
  | ((with_reducible refine ow_rep0 ?hk ?_); (case hk => (constructor <;> omega)))
  | with_reducible refine wg_three ?_
  | with_reducible refine cw_sumU ?_
  | with_reducible refine cw_sumT ?_
  | with_reducible refine ws_setNil ?_
  | with_reducible refine ow_eqUB ?_
  | with_reducible refine ow_neUB ?_
  | with_reducible refine ow_neUS ?_
  | with_reducible refine ow_eqUS ?_
  | with_reducible refine ws_next ?_
  | with_reducible refine ws_seq ?_
  | with_reducible refine ws_if ?_
  | with_reducible refine wt_not ?_
  | with_reducible refine wt_and ?_
  | with_reducible refine wt_or ?_
  | with_reducible refine wt_chainI ?_
  | with_reducible refine wt_test ?_
  | with_reducible refine wt_B ?_
  | with_reducible refine ws_ret ?_
  | with_reducible refine ws_cont ?_
  | with_reducible refine ws_break ?_
  | with_reducible refine wa_cons ?_
  | with_reducible refine wa_nil ?_
  | ((with_reducible refine we_var (d := ?dd) ?hv ?_); (case hv => exact rfl))
  | with_reducible refine we_int ?_
  | with_reducible refine we_bl ?_
  | with_reducible refine we_non ?_
  | with_reducible refine we_str ?_
  | with_reducible refine we_negI ?_
  | ((with_reducible refine we_spr ?hv ?hw (fun z => ?_)); (case hv => exact rfl); (case hw => decide))
  | ((with_reducible refine ws_spr ?hv ?hw ?_); (case hv => exact rfl); (case hw => decide))
  | with_reducible refine ws_set ?_
  | with_reducible refine ws_asgG ?_
  | with_reducible refine wg_two ?_
  | with_reducible refine wg_name ?_
  | with_reducible refine we_andV ?_
  | with_reducible refine we_orV ?_
  | with_reducible refine we_notV ?_
  | with_reducible refine we_if ?_
  | with_reducible refine we_chainI ?_
  | with_reducible refine we_isN ?_
  | with_reducible refine we_notN ?_
  | with_reducible refine we_repL ?_
  | with_reducible refine we_catLc ?_
  | with_reducible refine we_catLst ?_
  | with_reducible refine we_listof ?_
  | with_reducible refine we_op ?_
  | with_reducible refine we_isInt ?_
  | with_reducible refine we_isBool ?_
  | with_reducible refine we_isTup ?_
  | ((with_reducible refine we_nlen (κ := tabKey) ?hv ?_); (case hv => exact rfl))
  | ((with_reducible refine we_nlen (κ := rowKey) ?hv ?_); (case hv => exact rfl))
  | with_reducible refine we_cb ?_
  | with_reducible refine we_lst ?_
  | with_reducible refine we_dict0 ?_
  | with_reducible refine we_disp1 ?_
  | with_reducible refine we_tup2 ?_
  | with_reducible refine we_tup1 ?_
  | with_reducible refine we_tup ?_
  | with_reducible refine ow_addI ?_
  | with_reducible refine ow_I0b ?_
  | with_reducible refine ow_eqUI ?_
  | with_reducible refine ow_neUI ?_
  | ((with_reducible refine ow_mulI ?hc ?_); (case hc => first | exact cmul_right (by decide) | exact cmul_left (by decide) | exact cmul_right (by omega) | exact cmul_left (by omega)))
  | ((with_reducible refine ow_modN ?hc ?_); (case hc => omega))
  | ((with_reducible refine ow_fdivL ?hc ?_); (case hc => (exact cdivL (by omega) (by omega))))
  | ((with_reducible refine ow_pow ?hc ?_); (case hc => exact ⟨by decide, by decide, by decide⟩))
  | with_reducible refine ow_I0i ?_
  | with_reducible refine cw_int ?_
  | with_reducible refine cw_intB ?_
  | with_reducible refine cw_abs ?_
  | with_reducible refine cw_max2U ?_
  | with_reducible refine cw_min2U ?_
  | with_reducible refine cw_allT ?_
  | with_reducible refine cw_tupleL ?_
  | with_reducible refine cw_tupleT ?_
  | with_reducible refine cw_lenL ?_
  | with_reducible refine cw_lenT ?_
  | with_reducible refine cw_lenScr ?_
  | with_reducible refine ex_int ?_
  | with_reducible refine ex_listT ?_
  | ((with_reducible refine and_sz ?hz ?_); (case hz => (simp; done)))
  | with_reducible refine ex_two ?_
  | with_reducible refine ex_bool ?_
  | with_reducible refine ex_list ?_
  | with_reducible refine ex_tuple ?_
  | with_reducible refine ex_seqL ?_
  | with_reducible refine ex_seqT ?_
  | with_reducible refine and_cases (fun hb => ?_) (fun hb => ?_)
  | with_reducible refine or_cases (fun hb => ?_) (fun hb => ?_))

section
variable {P : Program} {w : World} {K : Fg} {mg : Str → Option Value} {base : Heap}
/-! the law's rank -/
def lstD (r : Row) : D := .list (r.map .int)
theorem lstD_inj {a b : Row} (h : lstD a = lstD b) : a = b := by
  unfold lstD at h
  injection h with h
  exact List.map_inj_right (fun x y e => by injection e) |>.mp h
theorem lay_lst (r : Row) : (lstD r).canLay0 = true := by unfold lstD; simp only [PyData.canLay0]; exact lay_ints r
theorem depth_lst (r : Row) : (lstD r).depth ≤ 1 := by
  unfold lstD
  simp only [PyData.depth]
  have : PyData.depthAll (r.map PyData.int) ≤ 0 := depthAll_of fun d hd => by obtain ⟨x, _, rfl⟩ := List.mem_map.mp hd; simp only [PyData.depth]; omega
  omega
theorem lay_all2 : ∀ {ds : List D}, (∀ d ∈ ds, d.canLay0 = true) → PyData.canLayAll0 ds = true
  | [], _ => rfl
  | d :: ds, h => by
    simp only [PyData.canLayAll0]
    rw [h d (by simp), lay_all2 fun e he => h e (by simp [he])]
    rfl
theorem shaped_lsts (t : Tab) : SeqAt.shaped (.list (t.map lstD)) = true := by
  unfold SeqAt.shaped
  simp only [PyData.canLay0, PyData.depth]
  have h1 : PyData.canLayAll0 (t.map lstD) = true := lay_all2 fun d hd => by obtain ⟨r, _, rfl⟩ := List.mem_map.mp hd; exact lay_lst r
  have h2 : PyData.depthAll (t.map lstD) ≤ 1 := depthAll_of fun d hd => by obtain ⟨r, _, rfl⟩ := List.mem_map.mp hd; exact depth_lst r
  rw [h1, Bool.true_and]
  exact decide_eq_true (by omega)
def nzI : Option D → Bool | some (.int v) => !decide (v = 0) | _ => false
def nzD (c : Nat) : D → Bool | .list xs => nzI xs[c]? | _ => false
def zzI : Option D → Bool | some (.int v) => decide (v = 0) | _ => false
def zzD (c : Nat) : D → Bool | .list xs => zzI xs[c]? | _ => false
theorem int_at {r : Row} {c : Nat} (h : c < r.length) : (r.map PyData.int)[c]? = some (.int (r.getD c 0)) := by
  rw [List.getElem?_map, getD_at (x := 0) h]
  rfl
theorem nz_lst {r : Row} {c : Nat} (h : c < r.length) : nzD c (lstD r) = !decide (r.getD c 0 = 0) := by
  show nzI (r.map PyData.int)[c]? = _
  rw [int_at h]
  rfl
theorem zz_lst {r : Row} {c : Nat} (h : c < r.length) : zzD c (lstD r) = decide (r.getD c 0 = 0) := by
  show zzI (r.map PyData.int)[c]? = _
  rw [int_at h]
  rfl
theorem nz_filter {c : Nat} {t : Tab} (h : ∀ r ∈ t, c < r.length) : ((t.map lstD).filter (nzD c)).map (fun d => d) = (t.filter fun r => !decide (r.getD c 0 = 0)).map lstD := by
  rw [List.map_id', List.filter_map]
  congr 1
  exact List.filter_congr fun r hr => nz_lst (h r hr)
theorem zz_filter {c : Nat} {t : Tab} (h : ∀ r ∈ t, c < r.length) : ((t.map lstD).filter (zzD c)).map (fun d => d) = (t.filter fun r => decide (r.getD c 0 = 0)).map lstD := by
  rw [List.map_id', List.filter_map]
  congr 1
  exact List.filter_congr fun r hr => zz_lst (h r hr)
def invT (p g : Int) : D → Bool | .int x => decide ((g * x).fmod p = 1) | _ => false
theorem inv_first {p g : Int} (hb : Base p) (hg : 1 ≤ g ∧ g < p) : (((rngD 1 (p - 1).toNat).filter (invT p g)).map fun d => d)[0]? = some (.int (invF p g)) := by
  have hp := hb.pos
  rw [List.map_id']
  obtain ⟨⟨i1, i2, i3⟩, i4⟩ := invF_ok hb hg
  have hm : PyData.int (invF p g) ∈ (rngD 1 (p - 1).toNat).filter (invT p g) := by
    refine List.mem_filter.mpr ⟨?_, decide_eq_true i3⟩
    have hk : (invF p g - 1).toNat < (p - 1).toNat := by omega
    have := rngD_get (lo := 1) hk
    refine List.mem_of_getElem? (i := (invF p g - 1).toNat) ?_
    rw [this]
    congr 2
    omega
  have hall : ∀ d ∈ (rngD 1 (p - 1).toNat).filter (invT p g), d = .int (invF p g) := fun d hd => by
    obtain ⟨h1, h2⟩ := List.mem_filter.mp hd
    obtain ⟨i, hi, e⟩ := List.getElem_of_mem h1
    obtain ⟨hi2, rfl⟩ := rngD_inv (i := i) (by rw [List.getElem?_eq_getElem hi, e])
    have h2 : (g * (1 + (i : Nat))).fmod p = 1 := of_decide_eq_true h2
    rw [i4 _ (by omega) (by omega) h2]
  generalize (rngD 1 (p - 1).toNat).filter (invT p g) = l at hm hall
  cases l with
  | nil => cases hm
  | cons d l => rw [hall d (by simp)]; rfl
theorem inv_len {p g : Int} : (((rngD 1 (p - 1).toNat).filter (invT p g)).map fun d => d).length ≤ (p - 1).toNat := by
  rw [List.length_map]
  refine Nat.le_trans (List.length_filter_le _ _) ?_
  rw [rngD_len]
  exact Nat.le_refl _
structure Rk where
  p : Int
  m : Nat
  t : Tab
theorem fold_at {p : Int} {m i : Nat} {rows : Tab} (h : i < m) : ((List.range m).take (i + 1)).foldl (fun st c => rankStep p c st) (rows, 0) = rankStep p i (((List.range m).take i).foldl (fun st c => rankStep p c st) (rows, 0)) := by
  have : (List.range m)[i]? = some i := by rw [List.getElem?_range h]
  rw [List.take_add_one, this, List.foldl_append]
  rfl
structure FRk where
  x : Net
  ks : List Nat
  b : Bool
end

end Lw

namespace Lw
open PySem PySem.Spec PyProof.Rows L2 DlP Dl
local macro_rules | `(tactic| walk_at "dl") => `(tactic| first
  | with_reducible refine cw_lenRow ?_
  | with_reducible refine cw_lenTab ?_
  | with_reducible refine ow_net0 ?_
  | with_reducible refine ow_net1 ?_
  | with_reducible refine ow_tabs0 ?_
  | with_reducible refine ow_tab0 ?_
  | with_reducible refine ex_seqRow ?_
  | with_reducible refine ex_seqTab ?_
  | ((with_reducible refine ow_rep0 ?hk ?_); (case hk => (constructor <;> omega)))
  | with_reducible refine wg_three ?_
  | with_reducible refine cw_sumU ?_
  | with_reducible refine cw_sumT ?_
  | with_reducible refine ws_setNil ?_
  | with_reducible refine ow_eqUB ?_
  | with_reducible refine ow_neUB ?_
  | with_reducible refine ow_neUS ?_
  | with_reducible refine ow_eqUS ?_
  | with_reducible refine ws_next ?_
  | with_reducible refine ws_seq ?_
  | with_reducible refine ws_if ?_
  | with_reducible refine wt_not ?_
  | with_reducible refine wt_and ?_
  | with_reducible refine wt_or ?_
  | with_reducible refine wt_chainI ?_
  | with_reducible refine wt_test ?_
  | with_reducible refine wt_B ?_
  | with_reducible refine ws_ret ?_
  | with_reducible refine ws_cont ?_
  | with_reducible refine ws_break ?_
  | with_reducible refine wa_cons ?_
  | with_reducible refine wa_nil ?_
  | ((with_reducible refine we_var (d := ?dd) ?hv ?_); (case hv => exact rfl))
  | with_reducible refine we_int ?_
  | with_reducible refine we_bl ?_
  | with_reducible refine we_non ?_
  | with_reducible refine we_str ?_
  | with_reducible refine we_negI ?_
  | ((with_reducible refine we_spr ?hv ?hw (fun z => ?_)); (case hv => exact rfl); (case hw => decide))
  | ((with_reducible refine ws_spr ?hv ?hw ?_); (case hv => exact rfl); (case hw => decide))
  | with_reducible refine ws_set ?_
  | with_reducible refine ws_asgG ?_
  | with_reducible refine wg_two ?_
  | with_reducible refine wg_name ?_
  | with_reducible refine we_andV ?_
  | with_reducible refine we_orV ?_
  | with_reducible refine we_notV ?_
  | with_reducible refine we_if ?_
  | with_reducible refine we_chainI ?_
  | with_reducible refine we_isN ?_
  | with_reducible refine we_notN ?_
  | with_reducible refine we_repL ?_
  | with_reducible refine we_catLc ?_
  | with_reducible refine we_catLst ?_
  | with_reducible refine we_listof ?_
  | with_reducible refine we_op ?_
  | with_reducible refine we_isInt ?_
  | with_reducible refine we_isBool ?_
  | with_reducible refine we_isTup ?_
  | ((with_reducible refine we_nlen (κ := tabKey) ?hv ?_); (case hv => exact rfl))
  | ((with_reducible refine we_nlen (κ := rowKey) ?hv ?_); (case hv => exact rfl))
  | with_reducible refine we_cb ?_
  | with_reducible refine we_lst ?_
  | with_reducible refine we_dict0 ?_
  | with_reducible refine we_disp1 ?_
  | with_reducible refine we_tup2 ?_
  | with_reducible refine we_tup1 ?_
  | with_reducible refine we_tup ?_
  | with_reducible refine ow_addI ?_
  | with_reducible refine ow_I0b ?_
  | with_reducible refine ow_eqUI ?_
  | with_reducible refine ow_neUI ?_
  | ((with_reducible refine ow_mulI ?hc ?_); (case hc => first | exact cmul_right (by decide) | exact cmul_left (by decide) | exact cmul_right (by omega) | exact cmul_left (by omega)))
  | ((with_reducible refine ow_modN ?hc ?_); (case hc => omega))
  | ((with_reducible refine ow_fdivL ?hc ?_); (case hc => (exact cdivL (by omega) (by omega))))
  | ((with_reducible refine ow_pow ?hc ?_); (case hc => exact ⟨by decide, by decide, by decide⟩))
  | with_reducible refine ow_I0i ?_
  | with_reducible refine cw_int ?_
  | with_reducible refine cw_intB ?_
  | with_reducible refine cw_abs ?_
  | with_reducible refine cw_max2U ?_
  | with_reducible refine cw_min2U ?_
  | with_reducible refine cw_allT ?_
  | with_reducible refine cw_tupleL ?_
  | with_reducible refine cw_tupleT ?_
  | with_reducible refine cw_lenL ?_
  | with_reducible refine cw_lenT ?_
  | with_reducible refine cw_lenScr ?_
  | with_reducible refine ex_int ?_
  | with_reducible refine ex_listT ?_
  | ((with_reducible refine and_sz ?hz ?_); (case hz => (simp; done)))
  | with_reducible refine ex_two ?_
  | with_reducible refine ex_bool ?_
  | with_reducible refine ex_list ?_
  | with_reducible refine ex_tuple ?_
  | with_reducible refine ex_seqL ?_
  | with_reducible refine ex_seqT ?_
  | with_reducible refine and_cases (fun hb => ?_) (fun hb => ?_)
  | with_reducible refine or_cases (fun hb => ?_) (fun hb => ?_))

section
variable {P : Program} {w : World} {K : Fg} {mg : Str → Option Value} {base : Heap}
/-! rows cut to parts, dual words -/
def partR : Row → List Nat → Tab
  | _, [] => []
  | l, k :: ks => l.take k :: partR (l.drop k) ks
theorem partR_app (l : Row) : ∀ (a b : List Nat), partR l (a ++ b) = partR l a ++ partR (l.drop a.sum) b
  | [], b => by simp [partR]
  | k :: a, b => by rw [List.cons_append, partR, partR, partR_app (l.drop k) a b, List.drop_drop, List.sum_cons]; rfl
theorem partR_len (l : Row) : ∀ ks, (partR l ks).length = ks.length
  | [] => rfl
  | k :: ks => by rw [partR, List.length_cons, partR_len, List.length_cons]
theorem partR_split (d : Nat) : ∀ (s : Nat) (l : Row), partR l (List.replicate s d) = splitR l s d
  | 0, l => rfl
  | s + 1, l => by
    rw [List.replicate_succ, partR, partR_split d s]
    unfold splitR
    rw [List.range_succ_eq_map, List.map_cons, List.map_map, Nat.mul_zero, List.drop_zero]
    congr 1
    refine List.map_congr_left fun i _ => ?_
    show ((l.drop d).drop (d * i)).take d = (l.drop (d * (i + 1))).take d
    rw [List.drop_drop]
    congr 2
    rw [Nat.mul_succ]; omega
theorem partR_flat : ∀ (ks : List Nat) (l : Row), l.length = ks.sum → (partR l ks).flatten = l
  | [], l, h => by rw [List.eq_nil_of_length_eq_zero h]; rfl
  | k :: ks, l, h => by
    rw [List.sum_cons] at h
    rw [partR, List.flatten_cons, partR_flat ks (l.drop k) (by rw [List.length_drop]; omega), List.take_append_drop]
theorem sum_rep (s d : Nat) : (List.replicate s d).sum = s * d := by simp
theorem splitR_flat {l : Row} {s d : Nat} (h : l.length = s * d) : (splitR l s d).flatten = l := by
  rw [← partR_split]; exact partR_flat _ l (by rw [sum_rep]; exact h)
structure PtI where
  l : Row
  ks : List Nat
def dualRows (x : Net) : Tab := tiesF x.p x.m x.ts.flatten
end

end Lw

namespace Lw
open PySem PySem.Spec PyProof.Rows L2 DlP Dl
section
/-! points and dual words by their numbers -/
theorem pt_flatten (p : Int) (ts : List Tab) (b : Row) : (ptOf p ts b).flatten = ts.flatten.map fun r => (dot r b).fmod p := by
  unfold ptOf
  rw [List.map_flatten]
theorem flat_inj {d : Nat} : ∀ {t u : Tab}, (∀ r ∈ t, r.length = d) → (∀ r ∈ u, r.length = d) → t.length = u.length → t.flatten = u.flatten → t = u
  | [], [], _, _, _, _ => rfl
  | [], _ :: _, _, _, h, _ => by simp at h
  | _ :: _, [], _, _, h, _ => by simp at h
  | r :: t, q :: u, h1, h2, hl, e => by
    rw [List.flatten_cons, List.flatten_cons] at e
    obtain ⟨e1, e2⟩ := List.append_inj e (by rw [h1 r (by simp), h2 q (by simp)])
    rw [e1, flat_inj (fun x hx => h1 x (by simp [hx])) (fun x hx => h2 x (by simp [hx])) (by simpa using hl) e2]
theorem pt_tab {x : Net} (b : Row) : TabOk x.p x.s x.d (ptOf x.p x.ts b) := by
  have hp := x.pos
  refine ⟨by unfold ptOf; rw [List.length_map, x.len], fun r hr => ?_⟩
  obtain ⟨t, ht, rfl⟩ := List.mem_map.mp hr
  refine ⟨by rw [List.length_map, (x.tab t ht).1], fun v hv => ?_⟩
  obtain ⟨r, _, rfl⟩ := List.mem_map.mp hv
  exact fmod_lt (by omega)
theorem sum_cols {x : Net} {b : Row} (hb : RowOk x.p x.m b) : sumOf x.p (x.s * x.d) b (colsOf x.ts.flatten x.m) = (ptOf x.p x.ts b).flatten := by
  have hp := x.pos
  have hp0 : 0 < x.p := by omega
  have hll := lines_len x
  have hlen : ∀ r ∈ x.ts.flatten, r.length = x.m := fun r hr => (lines_row x r hr).1
  have hc : ∀ c ∈ colsOf x.ts.flatten x.m, c.length = x.s * x.d := fun c hc => by rw [(cols_ok (by omega) (lines_row x) c hc).1, hll]
  have so := sumOf_ok (p := x.p) (m := x.s * x.d) hp0 (figs := b) (lines := colsOf x.ts.flatten x.m) (by rw [cols_len, hb.1]) hc
  rw [pt_flatten]
  refine row_ext (by rw [so.1.1, List.length_map, hll]) fun j hj => ?_
  have hj : j < x.ts.flatten.length := by rw [so.1.1] at hj; omega
  have h := so.2 j
  rw [colAt_cols hlen hj, dot_comm] at h
  have e : (x.ts.flatten.map fun r => (dot r b).fmod x.p).getD j 0 = (dot x.ts.flatten[j] b).fmod x.p := by rw [List.getD_eq_getElem?_getD, List.getElem?_map, List.getElem?_eq_getElem hj]; rfl
  rw [e]
  refine small_dvd ?_ (getD_range2 hp0 so.1 j) (fmod_lt hp0)
  have := Int.dvd_sub h (fmod_dvd x.p (dot x.ts.flatten[j] b))
  rwa [show (sumOf x.p (x.s * x.d) b (colsOf x.ts.flatten x.m)).getD j 0 - dot x.ts.flatten[j] b - ((dot x.ts.flatten[j] b).fmod x.p - dot x.ts.flatten[j] b) = (sumOf x.p (x.s * x.d) b (colsOf x.ts.flatten x.m)).getD j 0 - (dot x.ts.flatten[j] b).fmod x.p by omega] at this
theorem lines_ne (x : Net) : x.ts.flatten ≠ [] := fun z => by
  have h := lines_len x
  rw [z] at h
  have := Nat.mul_pos (show 0 < x.s by have := x.sb; omega) (show 0 < x.d by have := x.db; omega)
  simp at h
  omega
/-- the rank of all rows -/
def rkN (x : Net) : Nat := (stairsF x.p x.m (x.ts.flatten.map fun r => (false, r))).length
theorem nodup_map {α β : Type} {f : α → β} : ∀ {l : List α}, l.Nodup → (∀ a ∈ l, ∀ b ∈ l, f a = f b → a = b) → (l.map f).Nodup := fun {l} h hi => by
  unfold List.Nodup
  rw [List.pairwise_map]
  exact h.imp_of_mem fun {a b} ha hb n e => n (hi a ha b hb e)
theorem pts_num (x : Net) {keys : List Tab} (hn : keys.Nodup) (hk : ∀ k, k ∈ keys ↔ k ∈ ptsOf x) : keys.length = x.p.toNat ^ rkN x := by
  have hp := x.pos
  have hnat := x.nat
  have hb : Base ((x.p.toNat : Nat) : Int) := by rw [hnat]; exact x.ok.1
  have hll := lines_len x
  have hco := cols_ok (p := x.p) (m := x.m) (rs := x.ts.flatten) (by omega) (lines_row x)
  rw [hll] at hco
  have hin : ∀ k ∈ keys, TabOk x.p x.s x.d k := fun k hkk => by
    obtain ⟨b, _, rfl⟩ := List.mem_map.mp ((hk k).mp hkk)
    exact pt_tab b
  have r := rank_num (p := x.p.toNat) (n := x.m) (m := x.s * x.d) (rs := colsOf x.ts.flatten x.m) hb (cols_len _ _) (by rw [hnat]; exact hco) (keys := keys.map List.flatten)
    (nodup_map hn fun a ha b hb e => flat_inj (fun q hq => ((hin a ha).2 q hq).1) (fun q hq => ((hin b hb).2 q hq).1) (by rw [(hin a ha).1, (hin b hb).1]) e) fun k => by
      rw [List.mem_map, hnat]
      constructor
      · rintro ⟨t, ht, rfl⟩
        obtain ⟨b, hbm, rfl⟩ := List.mem_map.mp ((hk t).mp ht)
        have hbo := allRows_ok (p := x.p.toNat) (by omega) b hbm
        rw [hnat] at hbo
        exact ⟨b, hbm, sum_cols hbo⟩
      · rintro ⟨b, hbm, rfl⟩
        have hbo := allRows_ok (p := x.p.toNat) (by omega) b hbm
        rw [hnat] at hbo
        exact ⟨ptOf x.p x.ts b, (hk _).mpr (List.mem_map.mpr ⟨b, hbm, rfl⟩), (sum_cols hbo).symm⟩
  have rc := rank_cols (p := x.p.toNat) (m := x.m) (rs := x.ts.flatten) hb (by rw [hnat]; exact lines_row x)
  rw [hnat] at r rc
  rw [hll] at rc
  rw [List.length_map, rc] at r
  exact r
theorem rank_law (x : Net) : rankN x.p x.m x.ts.flatten = rkN x := by
  have hnat := x.nat
  have := rank_stairs (p := x.p.toNat) (m := x.m) (rs := x.ts.flatten) (by rw [hnat]; exact x.ok.1) (by rw [hnat]; exact lines_row x)
  rw [hnat] at this
  exact this
theorem dual_len (x : Net) : rkN x ≤ x.s * x.d ∧ (dualRows x).length = x.s * x.d - rkN x := by
  have hnat := x.nat
  have := ties_rank (p := x.p.toNat) (m := x.m) (rs := x.ts.flatten) (by rw [hnat]; exact x.ok.1) (by rw [hnat]; exact lines_row x)
  rw [hnat, lines_len x] at this
  exact this
theorem net_of {t w : Int} {P : D → Prop} (h : ∀ x : Net, (x.p.toNat ^ x.m : Nat) ≤ t → (x.p.toNat ^ (x.s * x.d) : Nat) ≤ w → P (netD x.p x.ts)) : ∀ d, postNet [.int t, .int w] d → P d := fun d hd => by
  obtain ⟨p, ts, s, d, m, rfl, hn, h1, h2⟩ := hd t w rfl
  have hp := hn.1.pos
  have e : ((p.toNat : Nat) : Int) = p := by omega
  refine h ⟨p, ts, s, d, m, hn⟩ ?_ ?_
  · rw [Int.natCast_pow, e]; exact h1
  · rw [Int.natCast_pow, e]; exact h2
theorem large_of {P : D → Prop} (h : ∀ x : Net, P (netD x.p x.ts)) : ∀ ds d, postLarge ds d → P d := fun ds d hd => by
  obtain ⟨p, ts, s, d, m, rfl, hn⟩ := hd
  exact h ⟨p, ts, s, d, m, hn⟩
theorem net_small {x : Net} {t : Nat} (h : ((x.p.toNat ^ x.m : Nat) : Int) ≤ (t : Int)) : x.p.toNat ^ x.m ≤ t := by omega
end

end Lw

namespace Lw
open PySem PySem.Spec PyProof.Rows L2 DlP Dl
local macro_rules | `(tactic| walk_at "dl") => `(tactic| first
  | with_reducible refine cw_lenRow ?_
  | with_reducible refine cw_lenTab ?_
  | with_reducible refine ow_net0 ?_
  | with_reducible refine ow_net1 ?_
  | with_reducible refine ow_tabs0 ?_
  | with_reducible refine ow_tab0 ?_
  | with_reducible refine ex_seqRow ?_
  | with_reducible refine ex_seqTab ?_
  | ((with_reducible refine ow_rep0 ?hk ?_); (case hk => (constructor <;> omega)))
  | with_reducible refine wg_three ?_
  | with_reducible refine cw_sumU ?_
  | with_reducible refine cw_sumT ?_
  | with_reducible refine ws_setNil ?_
  | with_reducible refine ow_eqUB ?_
  | with_reducible refine ow_neUB ?_
  | with_reducible refine ow_neUS ?_
  | with_reducible refine ow_eqUS ?_
  | with_reducible refine ws_next ?_
  | with_reducible refine ws_seq ?_
  | with_reducible refine ws_if ?_
  | with_reducible refine wt_not ?_
  | with_reducible refine wt_and ?_
  | with_reducible refine wt_or ?_
  | with_reducible refine wt_chainI ?_
  | with_reducible refine wt_test ?_
  | with_reducible refine wt_B ?_
  | with_reducible refine ws_ret ?_
  | with_reducible refine ws_cont ?_
  | with_reducible refine ws_break ?_
  | with_reducible refine wa_cons ?_
  | with_reducible refine wa_nil ?_
  | ((with_reducible refine we_var (d := ?dd) ?hv ?_); (case hv => exact rfl))
  | with_reducible refine we_int ?_
  | with_reducible refine we_bl ?_
  | with_reducible refine we_non ?_
  | with_reducible refine we_str ?_
  | with_reducible refine we_negI ?_
  | ((with_reducible refine we_spr ?hv ?hw (fun z => ?_)); (case hv => exact rfl); (case hw => decide))
  | ((with_reducible refine ws_spr ?hv ?hw ?_); (case hv => exact rfl); (case hw => decide))
  | with_reducible refine ws_set ?_
  | with_reducible refine ws_asgG ?_
  | with_reducible refine wg_two ?_
  | with_reducible refine wg_name ?_
  | with_reducible refine we_andV ?_
  | with_reducible refine we_orV ?_
  | with_reducible refine we_notV ?_
  | with_reducible refine we_if ?_
  | with_reducible refine we_chainI ?_
  | with_reducible refine we_isN ?_
  | with_reducible refine we_notN ?_
  | with_reducible refine we_repL ?_
  | with_reducible refine we_catLc ?_
  | with_reducible refine we_catLst ?_
  | with_reducible refine we_listof ?_
  | with_reducible refine we_op ?_
  | with_reducible refine we_isInt ?_
  | with_reducible refine we_isBool ?_
  | with_reducible refine we_isTup ?_
  | ((with_reducible refine we_nlen (κ := tabKey) ?hv ?_); (case hv => exact rfl))
  | ((with_reducible refine we_nlen (κ := rowKey) ?hv ?_); (case hv => exact rfl))
  | with_reducible refine we_cb ?_
  | with_reducible refine we_lst ?_
  | with_reducible refine we_dict0 ?_
  | with_reducible refine we_disp1 ?_
  | with_reducible refine we_tup2 ?_
  | with_reducible refine we_tup1 ?_
  | with_reducible refine we_tup ?_
  | with_reducible refine ow_addI ?_
  | with_reducible refine ow_I0b ?_
  | with_reducible refine ow_eqUI ?_
  | with_reducible refine ow_neUI ?_
  | ((with_reducible refine ow_mulI ?hc ?_); (case hc => first | exact cmul_right (by decide) | exact cmul_left (by decide) | exact cmul_right (by omega) | exact cmul_left (by omega)))
  | ((with_reducible refine ow_modN ?hc ?_); (case hc => omega))
  | ((with_reducible refine ow_fdivL ?hc ?_); (case hc => (exact cdivL (by omega) (by omega))))
  | ((with_reducible refine ow_pow ?hc ?_); (case hc => exact ⟨by decide, by decide, by decide⟩))
  | with_reducible refine ow_I0i ?_
  | with_reducible refine cw_int ?_
  | with_reducible refine cw_intB ?_
  | with_reducible refine cw_abs ?_
  | with_reducible refine cw_max2U ?_
  | with_reducible refine cw_min2U ?_
  | with_reducible refine cw_allT ?_
  | with_reducible refine cw_tupleL ?_
  | with_reducible refine cw_tupleT ?_
  | with_reducible refine cw_lenL ?_
  | with_reducible refine cw_lenT ?_
  | with_reducible refine cw_lenScr ?_
  | with_reducible refine ex_int ?_
  | with_reducible refine ex_listT ?_
  | ((with_reducible refine and_sz ?hz ?_); (case hz => (simp; done)))
  | with_reducible refine ex_two ?_
  | with_reducible refine ex_bool ?_
  | with_reducible refine ex_list ?_
  | with_reducible refine ex_tuple ?_
  | with_reducible refine ex_seqL ?_
  | with_reducible refine ex_seqT ?_
  | with_reducible refine and_cases (fun hb => ?_) (fun hb => ?_)
  | with_reducible refine or_cases (fun hb => ?_) (fun hb => ?_))

section
variable {P : Program} {w : World} {K : Fg} {mg : Str → Option Value} {base : Heap}
/-! the fronts of points, counted -/
theorem draw_ex {n : Int} {d : D} (h : postDraw [.int n] d) : ∃ z : Nat, d = .int z ∧ (z : Int) < n := by
  obtain ⟨m', r', em, rfl, k0, k1⟩ := h
  have em := (List.cons.inj em).1
  injection em with em
  obtain ⟨z, rfl⟩ := Int.eq_ofNat_of_zero_le k0
  exact ⟨z, rfl, by omega⟩
def frontT (ks : List Nat) (pt : Tab) : Tab := List.zipWith (fun (r : Row) (k : Nat) => r.take k) pt ks
def rowN (ks : List Nat) : Row := ks.map fun (k : Nat) => (k : Int)
theorem rowN_D (ks : List Nat) : rowD (rowN ks) = .tuple (ks.map fun (k : Nat) => .int k) := by unfold rowD rowN; rw [List.map_map]; rfl
theorem cut_pre (l : List D) (k : Nat) : Dl.cutD l none (some ((k : Nat) : Int)) = l.take k := by
  unfold Dl.cutD
  have e0 : HT.sIx l.length 0 none = 0 := rfl
  have e1 : HT.sIx l.length l.length (some ((k : Nat) : Int)) = min k l.length := by
    unfold HT.sIx
    simp
    omega
  rw [e0, e1, List.drop_zero, Nat.sub_zero]
  by_cases h : k ≤ l.length
  · rw [Nat.min_eq_left h]
  · rw [Nat.min_eq_right (by omega), List.take_of_length_le (Nat.le_refl _), List.take_of_length_le (by omega)]
structure FrI where
  pts : List Tab
  ks : List Nat
def FrI.fronts (x : FrI) : List Tab := x.pts.map (frontT x.ks)
theorem ok__law_fronts {f : Addr} {fd : FuncData} (F : Fun K "_law_fronts" "_law_fronts" s__law_fronts f fd) (B : Bi K mg) : FnG P w K mg base CX0 1 f fd ["points", "sides"] (spA K (fun x : FrI => [.list (x.pts.map tabD), rowD (rowN x.ks)]) (fun x => x.pts.length ≤ 5000 ∧ x.ks.length ≤ 1000) (fun x e => e = dixA tabKey (toD (tally x.fronts)))) := by
  refine ok_fnA F sc__law_fronts (fun _ => rfl) (fun cdv A outer s H E hr hgd => ?_)
  refine ⟨_, (pss_cons (ps_set (i := 2) sc__law_fronts.nd rfl (by first | exact Or.inl rfl | exact Or.inr rfl) pe_nnew)
      (pss_cons (ps_for PassesOwn.never (by rfl) (pi_seqK (K := K) rfl (pv 0)) (pg_name (i := 3) sc__law_fronts.nd rfl (by first | exact Or.inl rfl | exact Or.inr rfl))
      (pss_cons (ps_set (i := 4) sc__law_fronts.nd rfl (by first | exact Or.inl rfl | exact Or.inr rfl) (pe_callTy (call_tuple_ofK (K := K) rfl) (by rfl) B.z_tuple (by decide +kernel) (pa_cons (pe_lc (own := [("part", 5), ("k", 6)]) (g := (gTup K 2 (gCons (gName 5) (gCons (gName 6) gNil)))) (tt := tYes) (by rfl) sc__law_fronts.nd (pi_zipUK (K := K) rfl (by rfl) B.z_zip (pa_cons (pv 3) (pa_cons (pv 1) pa_nil))) (blkOk_by (own := [("part", 5), ("k", 6)]) (N := ["points", "sides", "found", "point", "front", "part", "k"]) (sc := defScope s__law_fronts) (by decide +kernel)) (fun _ _ _ _ _ => (pg_tupK (K := K) (n := 2) rfl (by rfl) (pgs_cons (pg_name (i := 5) sc__law_fronts.nd rfl (by first | exact Or.inl rfl | exact Or.inr rfl)) (pgs_cons (pg_name (i := 6) sc__law_fronts.nd rfl (by first | exact Or.inl rfl | exact Or.inr rfl)) pgs_nil)))) (fun _ _ _ _ _ => pts_nil) (fun _ _ _ _ _ => (pe_slice (sl_anyK (K := K) rfl) (pv 5) po_none (po_some (pv 6))))) pa_nil)))
      (pss_one (ps_nput hr.units (pv 2) (pv 4) (pe_op (op_addUK (K := K) rfl) (pe_nget2 hr.units (pv 2) (pv 4) pe_int ⟨rfl, rfl, rfl, rfl⟩) pe_int) rfl))))
      (pss_one (ps_ret (pv 2))))), ?_⟩
  rintro ⟨pts, ks⟩ ⟨hl, hk⟩
  dsimp only at hl hk
  show WS _ none _ _ [.dat (.list (pts.map tabD)), .dat (rowD (rowN ks)), .no, .no, .no, .no, .no]
  rw [rowN_D]
  refine ws_seq (ws_nnew tabKey ?_)
  refine ws_seq (ws_for (wj_seq (we_var rfl ⟨_, .inl rfl, ?_⟩)))
  refine ⟨fun i δ => ∃ c3 c4, δ = [.dat (.list (pts.map tabD)), .dat (.tuple (ks.map fun (k : Nat) => .int k)), .res (dictN tabKey (toD (tally ((pts.take i).map (frontT ks))))), c3, c4, .no, .no], ⟨_, _, rfl⟩, fun i dd δ' hd ⟨c3, c4, e⟩ => ?_, fun δ' ⟨c3, c4, e⟩ => ?_⟩
  · subst e
    obtain ⟨pt, hpt, rfl⟩ := get_map hd
    have hi : i < pts.length := (List.getElem?_eq_some_iff.mp hpt).1
    have etk : (pts.take (i + 1)).map (frontT ks) = (pts.take i).map (frontT ks) ++ [frontT ks pt] := by rw [List.take_add_one, hpt, List.map_append]; rfl
    refine wg_name ?_
    refine ws_seq (ws_set (we_cb (wa_cons (we_fresh (wf_mapA (fun q : Row × Nat => .tuple [rowD q.1, .int q.2]) (fun q => rowD (q.1.take q.2)) (wj_zip (wa_cons (we_var rfl (wa_cons (we_var rfl (wa_nil ⟨_, _, _, _, rfl, .inr rfl, .inr rfl, pt.zip ks, zipD_map _ _ _ _, szl (by rw [List.length_zip]; omega), fun q hq => ?_, fun a _ b _ e => ?_, ?_⟩)))))))))))
    · refine wgv_two (by simp) (by simp) ?_
      refine we_slTU (we_var rfl ⟨_, rfl, wo_none (wo_some (we_var rfl ⟨_, rfl, ?_⟩))⟩)
      rw [cut_pre]
      show _ = _
      unfold rowD
      rw [List.map_take]
    · injection e with e
      injection e with e1 e
      injection e with e2 _
      injection e2 with e2
      rw [rowD_inj e1, show a.2 = b.2 by omega]
    · refine wa_nil (cw_tupleL ?_)
      have ef : PyData.tuple ((pt.zip ks).map fun q => rowD (q.1.take q.2)) = tabD (frontT ks pt) := by
        unfold frontT tabD
        rw [← map_zip2, List.map_map]
        rfl
      rw [ef]
      have hsz : (toD (tally ((pts.take i).map (frontT ks)))).length ≤ 5000 := by
        unfold toD
        rw [List.length_map]
        have := tally_le ((pts.take i).map (frontT ks))
        rw [List.length_map, List.length_take] at this
        omega
      refine ws_nput (es := toD (tally ((pts.take i).map (frontT ks)))) rfl (szlt (by omega)) (we_op (we_nget rfl (we_var rfl ⟨frontT ks pt, rfl, we_int ?_⟩)))
      rw [valA_toD]
      refine we_int (ow_addI (we_var rfl ⟨frontT ks pt, rfl, ?_⟩))
      refine ⟨.dat (tabD pt), .dat (tabD (frontT ks pt)), ?_⟩
      rw [show ((valN (tally ((pts.take i).map (frontT ks))) (frontT ks pt) : Nat) : Int) + 1 = ((valN (tally ((pts.take i).map (frontT ks))) (frontT ks pt) + 1 : Nat) : Int) by omega, putA_toD, etk, tally_snoc]
      rfl
  · subst e
    refine ws_meltD 2 rfl ?_
    refine ws_ret (we_var rfl ?_)
    rw [List.length_map, List.take_length]
    rfl
structure EvI where
  p : Nat
  pts : List Tab
  ks : List Nat
def EvI.fronts (x : EvI) : List Tab := x.pts.map (frontT x.ks)
def EvI.counts (x : EvI) : List Int := (tally x.fronts).map fun e => (e.2 : Int)
theorem ok__law_evenly {f f__law_power f__law_fronts : Addr} {fd fd__law_power fd__law_fronts : FuncData} (F : Fun K "_law_evenly" "_law_evenly" s__law_evenly f fd) (B : Bi K mg) (d__law_power : Df P w K mg base 1 "_law_power" f__law_power fd__law_power ["p", "many"] (spF K prePow postPow)) (d__law_fronts : Df P w K mg base 1 "_law_fronts" f__law_fronts fd__law_fronts ["points", "sides"] (spA K (fun x : FrI => [.list (x.pts.map tabD), rowD (rowN x.ks)]) (fun x => x.pts.length ≤ 5000 ∧ x.ks.length ≤ 1000) (fun x e => e = dixA tabKey (toD (tally x.fronts))))) : FnG P w K mg base CX0 2 f fd ["p", "points", "sides"] (spA K (fun x : EvI => [.int x.p, .list (x.pts.map tabD), rowD (rowN x.ks)]) (fun x => (1 ≤ x.p ∧ x.p ≤ 7) ∧ x.pts.length ≤ 5000 ∧ x.ks.length ≤ 1000 ∧ x.ks.sum ≤ 1000 ∧ ∃ n ns, x.counts = n :: ns) (fun x e => ∃ n ns, x.counts = n :: ns ∧ e = .bool (decide (x.counts.length = x.p ^ x.ks.sum) && decide (ns.foldl min n = ns.foldl max n)))) := by
  refine ok_fnA F sc__law_evenly (fun _ => rfl) (fun cdv A outer s H E hr hgd => ?_)
  refine ⟨_, (pss_cons (ps_set (i := 3) sc__law_evenly.nd rfl (by first | exact Or.inl rfl | exact Or.inr rfl) (pe_callTy (call_list_nv (by rfl)) (by rfl) B.z_list (by decide +kernel) (pa_cons (pe_nvals (pe_callG d__law_fronts.ok (hr.mono (by decide)) hgd (by rfl) d__law_fronts.g d__law_fronts.kp d__law_fronts.b .nil pass0 (pa_cons (pv 1) (pa_cons (pv 2) pa_nil)))) pa_nil)))
      (pss_one (ps_ret (pe_and (pe_cmpR (op_eqUK (K := K) rfl hr.units) (pe_callB (call_lenK (K := K) rfl) (by rfl) B.z_len (by decide +kernel) (pa_cons (pv 3) pa_nil)) (pe_callG d__law_power.ok (hr.mono (by decide)) hgd (by rfl) d__law_power.g d__law_power.kp d__law_power.b .nil pass0 (pa_cons (pv 0) (pa_cons (pe_callB (call_sumUK (K := K) rfl (by rfl)) (by rfl) B.z_sum (by decide +kernel) (pa_cons (pv 2) pa_nil)) pa_nil))) (nomark _)) (pe_one (pe_cmpR (op_eqUK (K := K) rfl hr.units) (pe_callB (call_minUK (K := K) rfl (by rfl) hr.units) (by rfl) B.z_min (by decide +kernel) (pa_cons (pv 3) pa_nil)) (pe_callB (call_maxUK (K := K) rfl (by rfl) hr.units) (by rfl) B.z_max (by decide +kernel) (pa_cons (pv 3) pa_nil)) (nomark _))))))), ?_⟩
  rintro ⟨p, pts, ks⟩ ⟨hp, hl, hk, hks, n, ns, hc⟩
  dsimp only at hp hl hk hks hc
  have hcs : ((tally (FrI.fronts ⟨pts, ks⟩)).map fun e => PyData.int (e.2 : Nat)) = (n :: ns).map PyData.int := by
    rw [← hc]; unfold EvI.counts; rw [List.map_map]; rfl
  have hsum : (rowN ks).sum = (ks.sum : Nat) := by
    unfold rowN
    clear hc hcs hk hks
    induction ks with
    | nil => rfl
    | cons k ks ih => rw [List.map_cons, List.sum_cons, List.sum_cons, ih]; omega
  show WS _ none _ _ [.dat (.int p), .dat (.list (pts.map tabD)), .dat (rowD (rowN ks)), .no]
  refine ws_seq (ws_setF (wf_nvals (κ := tabKey) ?_))
  refine we_callA ?_
  (repeat' walk_at "dl")
  refine ⟨⟨pts, ks⟩, rfl, ⟨hl, hk⟩, fun e he => ?_⟩
  rw [show e = _ from he]
  refine ⟨_, rfl, ?_⟩
  refine ws_melt 3 rfl ?_
  have e2 : (toD (tally (FrI.fronts ⟨pts, ks⟩))).map (fun e => e.2) = (n :: ns).map PyData.int := by
    rw [← hcs]; unfold toD; rw [List.map_map]; rfl
  rw [e2]
  refine ws_ret (we_andV ?_)
  (repeat' walk_at "dl")
  refine we_call ?_
  (repeat' walk_at "dl")
  refine cw_sumT (ns := rowN ks) ?_
  (repeat' walk_at "dl")
  rw [hsum]
  refine ⟨⟨p, ks.sum, rfl, by omega, by omega⟩, fun e he => ?_⟩
  rw [he p _ rfl]
  (repeat' walk_at "dl")
  · rename_i h
    refine cw_minI ?_
    (repeat' walk_at "dl")
    refine cw_maxI ?_
    (repeat' walk_at "dl")
    refine ⟨n, ns, hc, ?_⟩
    have h2 := of_decide_eq_true h
    rw [decide_eq_true (show (EvI.counts ⟨p, pts, ks⟩).length = p ^ ks.sum by
      rw [hc]; rw [List.length_map] at h2; rw [← Int.natCast_pow] at h2; exact Int.ofNat_inj.mp h2), Bool.true_and]
  · rename_i h
    refine ⟨n, ns, hc, ?_⟩
    have h2 := of_decide_eq_false h
    rw [decide_eq_false (show ¬ (EvI.counts ⟨p, pts, ks⟩).length = p ^ ks.sum from fun z => h2 (by
      rw [List.length_map, ← hc, z, Int.natCast_pow])), Bool.false_and]
end

end Lw

namespace Lw
open PySem PySem.Spec PyProof.Rows L2 DlP Dl
local macro_rules | `(tactic| walk_at "dl") => `(tactic| first
  | with_reducible refine cw_lenRow ?_
  | with_reducible refine cw_lenTab ?_
  | with_reducible refine ow_net0 ?_
  | with_reducible refine ow_net1 ?_
  | with_reducible refine ow_tabs0 ?_
  | with_reducible refine ow_tab0 ?_
  | with_reducible refine ex_seqRow ?_
  | with_reducible refine ex_seqTab ?_
  | ((with_reducible refine ow_rep0 ?hk ?_); (case hk => (constructor <;> omega)))
  | with_reducible refine wg_three ?_
  | with_reducible refine cw_sumU ?_
  | with_reducible refine cw_sumT ?_
  | with_reducible refine ws_setNil ?_
  | with_reducible refine ow_eqUB ?_
  | with_reducible refine ow_neUB ?_
  | with_reducible refine ow_neUS ?_
  | with_reducible refine ow_eqUS ?_
  | with_reducible refine ws_next ?_
  | with_reducible refine ws_seq ?_
  | with_reducible refine ws_if ?_
  | with_reducible refine wt_not ?_
  | with_reducible refine wt_and ?_
  | with_reducible refine wt_or ?_
  | with_reducible refine wt_chainI ?_
  | with_reducible refine wt_test ?_
  | with_reducible refine wt_B ?_
  | with_reducible refine ws_ret ?_
  | with_reducible refine ws_cont ?_
  | with_reducible refine ws_break ?_
  | with_reducible refine wa_cons ?_
  | with_reducible refine wa_nil ?_
  | ((with_reducible refine we_var (d := ?dd) ?hv ?_); (case hv => exact rfl))
  | with_reducible refine we_int ?_
  | with_reducible refine we_bl ?_
  | with_reducible refine we_non ?_
  | with_reducible refine we_str ?_
  | with_reducible refine we_negI ?_
  | ((with_reducible refine we_spr ?hv ?hw (fun z => ?_)); (case hv => exact rfl); (case hw => decide))
  | ((with_reducible refine ws_spr ?hv ?hw ?_); (case hv => exact rfl); (case hw => decide))
  | with_reducible refine ws_set ?_
  | with_reducible refine ws_asgG ?_
  | with_reducible refine wg_two ?_
  | with_reducible refine wg_name ?_
  | with_reducible refine we_andV ?_
  | with_reducible refine we_orV ?_
  | with_reducible refine we_notV ?_
  | with_reducible refine we_if ?_
  | with_reducible refine we_chainI ?_
  | with_reducible refine we_isN ?_
  | with_reducible refine we_notN ?_
  | with_reducible refine we_repL ?_
  | with_reducible refine we_catLc ?_
  | with_reducible refine we_catLst ?_
  | with_reducible refine we_listof ?_
  | with_reducible refine we_op ?_
  | with_reducible refine we_isInt ?_
  | with_reducible refine we_isBool ?_
  | with_reducible refine we_isTup ?_
  | ((with_reducible refine we_nlen (κ := tabKey) ?hv ?_); (case hv => exact rfl))
  | ((with_reducible refine we_nlen (κ := rowKey) ?hv ?_); (case hv => exact rfl))
  | with_reducible refine we_cb ?_
  | with_reducible refine we_lst ?_
  | with_reducible refine we_dict0 ?_
  | with_reducible refine we_disp1 ?_
  | with_reducible refine we_tup2 ?_
  | with_reducible refine we_tup1 ?_
  | with_reducible refine we_tup ?_
  | with_reducible refine ow_addI ?_
  | with_reducible refine ow_I0b ?_
  | with_reducible refine ow_eqUI ?_
  | with_reducible refine ow_neUI ?_
  | ((with_reducible refine ow_mulI ?hc ?_); (case hc => first | exact cmul_right (by decide) | exact cmul_left (by decide) | exact cmul_right (by omega) | exact cmul_left (by omega)))
  | ((with_reducible refine ow_modN ?hc ?_); (case hc => omega))
  | ((with_reducible refine ow_fdivL ?hc ?_); (case hc => (exact cdivL (by omega) (by omega))))
  | ((with_reducible refine ow_pow ?hc ?_); (case hc => exact ⟨by decide, by decide, by decide⟩))
  | with_reducible refine ow_I0i ?_
  | with_reducible refine cw_int ?_
  | with_reducible refine cw_intB ?_
  | with_reducible refine cw_abs ?_
  | with_reducible refine cw_max2U ?_
  | with_reducible refine cw_min2U ?_
  | with_reducible refine cw_allT ?_
  | with_reducible refine cw_tupleL ?_
  | with_reducible refine cw_tupleT ?_
  | with_reducible refine cw_lenL ?_
  | with_reducible refine cw_lenT ?_
  | with_reducible refine cw_lenScr ?_
  | with_reducible refine ex_int ?_
  | with_reducible refine ex_listT ?_
  | ((with_reducible refine and_sz ?hz ?_); (case hz => (simp; done)))
  | with_reducible refine ex_two ?_
  | with_reducible refine ex_bool ?_
  | with_reducible refine ex_list ?_
  | with_reducible refine ex_tuple ?_
  | with_reducible refine ex_seqL ?_
  | with_reducible refine ex_seqT ?_
  | with_reducible refine and_cases (fun hb => ?_) (fun hb => ?_)
  | with_reducible refine or_cases (fun hb => ?_) (fun hb => ?_))

section
variable {P : Program} {w : World} {K : Fg} {mg : Str → Option Value} {base : Heap}
/-! depths, even ones -/
def wholeB (d : D) : Bool := isIntD d && !isBoolD d
def inB01 (hi : Int) : D → Bool | .int x => decide (0 ≤ x) && decide (x ≤ hi) | _ => false
def depthsB (s d : Nat) : D → Bool | .tuple xs => decide (xs.length = s) && xs.all (inB01 d) | _ => false
theorem depthsB_no {s k : Nat} {d : D} (h : (!isTupD d) = true) : depthsB s k d = false := by
  have := not_tup h
  cases d <;> first | rfl | exact absurd rfl (this _)
theorem depthsB_ok {x : Net} {ks : List Nat} (hl : ks.length = x.s) (h : ∀ k ∈ ks, k ≤ x.d) : depthsB x.s x.d (rowD (rowN ks)) = true := by
  rw [rowN_D]
  show (decide _ && _) = true
  rw [decide_eq_true (by rw [List.length_map]; exact hl), Bool.true_and, List.all_eq_true]
  intro d hd
  obtain ⟨k, hk, rfl⟩ := List.mem_map.mp hd
  have := h k hk
  show (decide ((0 : Int) ≤ (k : Nat)) && decide (((k : Nat) : Int) ≤ (x.d : Nat))) = true
  rw [decide_eq_true (by omega), decide_eq_true (by omega)]
  rfl
/-- a net and depths of it -/
structure NK where
  x : Net
  ks : List Nat
  len : ks.length = x.s
  le : ∀ k ∈ ks, k ≤ x.d
def NK.A (y : NK) : List D := [y.x.D, rowD (rowN y.ks)]
/-- the rank of the rows within the depths -/
def rkW (x : Net) (ks : List Nat) : Nat := rkT x.p x.m (rowsW x.ts ks)
theorem rowN_sum (ks : List Nat) : (rowN ks).sum = (ks.sum : Nat) := by
  unfold rowN
  induction ks with
  | nil => rfl
  | cons k ks ih => rw [List.map_cons, List.sum_cons, List.sum_cons, ih]; omega
end

end Lw

namespace Lw
open PySem PySem.Spec PyProof.Rows L2 DlP Dl
local macro_rules | `(tactic| walk_at "dl") => `(tactic| first
  | with_reducible refine cw_lenRow ?_
  | with_reducible refine cw_lenTab ?_
  | with_reducible refine ow_net0 ?_
  | with_reducible refine ow_net1 ?_
  | with_reducible refine ow_tabs0 ?_
  | with_reducible refine ow_tab0 ?_
  | with_reducible refine ex_seqRow ?_
  | with_reducible refine ex_seqTab ?_
  | ((with_reducible refine ow_rep0 ?hk ?_); (case hk => (constructor <;> omega)))
  | with_reducible refine wg_three ?_
  | with_reducible refine cw_sumU ?_
  | with_reducible refine cw_sumT ?_
  | with_reducible refine ws_setNil ?_
  | with_reducible refine ow_eqUB ?_
  | with_reducible refine ow_neUB ?_
  | with_reducible refine ow_neUS ?_
  | with_reducible refine ow_eqUS ?_
  | with_reducible refine ws_next ?_
  | with_reducible refine ws_seq ?_
  | with_reducible refine ws_if ?_
  | with_reducible refine wt_not ?_
  | with_reducible refine wt_and ?_
  | with_reducible refine wt_or ?_
  | with_reducible refine wt_chainI ?_
  | with_reducible refine wt_test ?_
  | with_reducible refine wt_B ?_
  | with_reducible refine ws_ret ?_
  | with_reducible refine ws_cont ?_
  | with_reducible refine ws_break ?_
  | with_reducible refine wa_cons ?_
  | with_reducible refine wa_nil ?_
  | ((with_reducible refine we_var (d := ?dd) ?hv ?_); (case hv => exact rfl))
  | with_reducible refine we_int ?_
  | with_reducible refine we_bl ?_
  | with_reducible refine we_non ?_
  | with_reducible refine we_str ?_
  | with_reducible refine we_negI ?_
  | ((with_reducible refine we_spr ?hv ?hw (fun z => ?_)); (case hv => exact rfl); (case hw => decide))
  | ((with_reducible refine ws_spr ?hv ?hw ?_); (case hv => exact rfl); (case hw => decide))
  | with_reducible refine ws_set ?_
  | with_reducible refine ws_asgG ?_
  | with_reducible refine wg_two ?_
  | with_reducible refine wg_name ?_
  | with_reducible refine we_andV ?_
  | with_reducible refine we_orV ?_
  | with_reducible refine we_notV ?_
  | with_reducible refine we_if ?_
  | with_reducible refine we_chainI ?_
  | with_reducible refine we_isN ?_
  | with_reducible refine we_notN ?_
  | with_reducible refine we_repL ?_
  | with_reducible refine we_catLc ?_
  | with_reducible refine we_catLst ?_
  | with_reducible refine we_listof ?_
  | with_reducible refine we_op ?_
  | with_reducible refine we_isInt ?_
  | with_reducible refine we_isBool ?_
  | with_reducible refine we_isTup ?_
  | ((with_reducible refine we_nlen (κ := tabKey) ?hv ?_); (case hv => exact rfl))
  | ((with_reducible refine we_nlen (κ := rowKey) ?hv ?_); (case hv => exact rfl))
  | with_reducible refine we_cb ?_
  | with_reducible refine we_lst ?_
  | with_reducible refine we_dict0 ?_
  | with_reducible refine we_disp1 ?_
  | with_reducible refine we_tup2 ?_
  | with_reducible refine we_tup1 ?_
  | with_reducible refine we_tup ?_
  | with_reducible refine ow_addI ?_
  | with_reducible refine ow_I0b ?_
  | with_reducible refine ow_eqUI ?_
  | with_reducible refine ow_neUI ?_
  | ((with_reducible refine ow_mulI ?hc ?_); (case hc => first | exact cmul_right (by decide) | exact cmul_left (by decide) | exact cmul_right (by omega) | exact cmul_left (by omega)))
  | ((with_reducible refine ow_modN ?hc ?_); (case hc => omega))
  | ((with_reducible refine ow_fdivL ?hc ?_); (case hc => (exact cdivL (by omega) (by omega))))
  | ((with_reducible refine ow_pow ?hc ?_); (case hc => exact ⟨by decide, by decide, by decide⟩))
  | with_reducible refine ow_I0i ?_
  | with_reducible refine cw_int ?_
  | with_reducible refine cw_intB ?_
  | with_reducible refine cw_abs ?_
  | with_reducible refine cw_max2U ?_
  | with_reducible refine cw_min2U ?_
  | with_reducible refine cw_allT ?_
  | with_reducible refine cw_tupleL ?_
  | with_reducible refine cw_tupleT ?_
  | with_reducible refine cw_lenL ?_
  | with_reducible refine cw_lenT ?_
  | with_reducible refine cw_lenScr ?_
  | with_reducible refine ex_int ?_
  | with_reducible refine ex_listT ?_
  | ((with_reducible refine and_sz ?hz ?_); (case hz => (simp; done)))
  | with_reducible refine ex_two ?_
  | with_reducible refine ex_bool ?_
  | with_reducible refine ex_list ?_
  | with_reducible refine ex_tuple ?_
  | with_reducible refine ex_seqL ?_
  | with_reducible refine ex_seqT ?_
  | with_reducible refine and_cases (fun hb => ?_) (fun hb => ?_)
  | with_reducible refine or_cases (fun hb => ?_) (fun hb => ?_))

section
variable {P : Program} {w : World} {K : Fg} {mg : Str → Option Value} {base : Heap}
/-! how often each front comes -/
theorem flat_inj2 : ∀ {t u : Tab}, t.map List.length = u.map List.length → t.flatten = u.flatten → t = u
  | [], [], _, _ => rfl
  | [], _ :: _, h, _ => by simp at h
  | _ :: _, [], h, _ => by simp at h
  | r :: t, q :: u, h, e => by
    rw [List.map_cons, List.map_cons] at h
    injection h with h1 h2
    rw [List.flatten_cons, List.flatten_cons] at e
    obtain ⟨e1, e2⟩ := List.append_inj e h1
    rw [e1, flat_inj2 h2 e2]
theorem front_flat (p : Int) (b : Row) : ∀ (ts : List Tab) (ks : List Nat), (frontT ks (ptOf p ts b)).flatten = imgR p (rowsW ts ks) b
  | [], ks => by cases ks <;> rfl
  | t :: ts, [] => by unfold rowsW; rw [List.zip_nil_right]; rfl
  | t :: ts, k :: ks => by
    have ih := front_flat p b ts ks
    unfold frontT ptOf rowsW imgR at ih ⊢
    rw [List.map_cons, List.zipWith_cons_cons, List.flatten_cons, ih, List.zip_cons_cons, List.flatMap_cons, List.map_append, List.map_take]
theorem front_len (p : Int) (b c : Row) : ∀ (ts : List Tab) (ks : List Nat), (frontT ks (ptOf p ts b)).map List.length = (frontT ks (ptOf p ts c)).map List.length
  | [], ks => by cases ks <;> rfl
  | t :: ts, [] => by simp [frontT]
  | t :: ts, k :: ks => by
    have ih := front_len p b c ts ks
    unfold frontT ptOf at ih ⊢
    rw [List.map_cons, List.map_cons, List.zipWith_cons_cons, List.zipWith_cons_cons, List.map_cons, List.map_cons, ih]
    simp
theorem front_iff2 {p : Int} {ts : List Tab} {ks : List Nat} {b c : Row} : frontT ks (ptOf p ts b) = frontT ks (ptOf p ts c) ↔ imgR p (rowsW ts ks) b = imgR p (rowsW ts ks) c := by
  constructor
  · intro h; rw [← front_flat, h, front_flat]
  · intro h; exact flat_inj2 (front_len p b c ts ks) (by rw [front_flat, h, front_flat])
def frontsOf (x : Net) (ks : List Nat) : List Tab := (ptsOf x).map (frontT ks)
theorem front_mem {x : Net} {ks : List Nat} {f : Tab} : f ∈ frontsOf x ks ↔ ∃ b ∈ allRows x.p.toNat x.m, f = frontT ks (ptOf x.p x.ts b) := by
  unfold frontsOf ptsOf
  rw [List.map_map, List.mem_map]
  exact ⟨fun ⟨b, h, e⟩ => ⟨b, h, e.symm⟩, fun ⟨b, h, e⟩ => ⟨b, h, e.symm⟩⟩
theorem cnt_map {α β : Type} [DecidableEq β] (f : α → β) (l : List α) (k : β) : cnt (l.map f) k = (l.filter fun a => decide (f a = k)).length := by
  unfold cnt
  rw [List.filter_map, List.length_map]
  rfl
theorem front_cnt {x : Net} {ks : List Nat} {f : Tab} (h : f ∈ frontsOf x ks) : cnt (frontsOf x ks) f = x.p.toNat ^ (x.m - rkW x ks) := by
  have hnat := x.nat
  have hp := x.pos
  obtain ⟨s, hs, rfl⟩ := front_mem.mp h
  have hso := allRows_ok (p := x.p.toNat) (by omega) s hs
  unfold frontsOf ptsOf
  rw [List.map_map, cnt_map]
  have sc := sol_count (p := x.p.toNat) (m := x.m) (A := rowsW x.ts ks) (by rw [hnat]; exact x.ok.1) (by rw [hnat]; exact rowsW_ok) hso
  rw [hnat] at sc
  unfold rkW
  rw [← sc]
  congr 1
  exact List.filter_congr fun b _ => decide_eq_decide.mpr front_iff2
theorem front_keys (x : Net) (ks : List Nat) : (tally (frontsOf x ks)).length = x.p.toNat ^ rkW x ks := by
  have hnat := x.nat
  have hp := x.pos
  obtain ⟨h1, h2⟩ := tally_keys (frontsOf x ks)
  have hin : ∀ a ∈ (tally (frontsOf x ks)).map (·.1), ∃ b ∈ allRows x.p.toNat x.m, a = frontT ks (ptOf x.p x.ts b) := fun a ha => front_mem.mp ((h2 a).mp ha)
  have r := img_num (p := x.p.toNat) (m := x.m) (A := rowsW x.ts ks) (by rw [hnat]; exact x.ok.1) (by rw [hnat]; exact rowsW_ok) (keys := ((tally (frontsOf x ks)).map (·.1)).map List.flatten)
    (nodup_map h1 fun a ha b hb e => by
      obtain ⟨b1, _, rfl⟩ := hin a ha
      obtain ⟨b2, _, rfl⟩ := hin b hb
      exact flat_inj2 (front_len _ _ _ _ _) e) fun k => by
      rw [List.mem_map, hnat]
      constructor
      · rintro ⟨t, ht, rfl⟩
        obtain ⟨b, hb, rfl⟩ := hin t ht
        exact ⟨b, hb, (front_flat _ _ _ _).symm⟩
      · rintro ⟨b, hb, rfl⟩
        exact ⟨_, (h2 _).mpr (front_mem.mpr ⟨b, hb, rfl⟩), front_flat _ _ _ _⟩
  rw [List.length_map, List.length_map, hnat] at r
  exact r
theorem rkW_le (x : Net) (ks : List Nat) : rkW x ks ≤ x.m ∧ rkW x ks ≤ (rowsW x.ts ks).length := by
  have hnat := x.nat
  have := rank_le (p := x.p.toNat) (m := x.m) (A := rowsW x.ts ks) (by rw [hnat]; exact x.ok.1) (by rw [hnat]; exact rowsW_ok)
  rw [hnat] at this
  exact this
theorem rowsW_sum {x : Net} {ks : List Nat} (hl : ks.length = x.s) (h : ∀ k ∈ ks, k ≤ x.d) : (rowsW x.ts ks).length = ks.sum := by
  have key : ∀ (ts : List Tab) (ks : List Nat), (∀ t ∈ ts, t.length = x.d) → ks.length = ts.length → (∀ k ∈ ks, k ≤ x.d) → (rowsW ts ks).length = ks.sum := by
    intro ts
    induction ts with
    | nil => intro ks _ h _; rw [List.eq_nil_of_length_eq_zero h]; rfl
    | cons t ts ih =>
      intro ks h1 h2 h3
      cases ks with
      | nil => simp at h2
      | cons k ks =>
        have := ih ks (fun q hq => h1 q (by simp [hq])) (by simpa using h2) fun q hq => h3 q (by simp [hq])
        have hk := h3 k (by simp)
        have ht := h1 t (by simp)
        unfold rowsW at this ⊢
        rw [List.zip_cons_cons, List.flatMap_cons, List.length_append, this, List.length_take, List.sum_cons]
        dsimp only
        omega
  exact key x.ts ks (fun t ht => (x.tab t ht).1) (by rw [hl, x.len]) h
theorem fold_same {n : Int} : ∀ {ns : List Int}, (∀ v ∈ ns, v = n) → ns.foldl min n = n ∧ ns.foldl max n = n
  | [], _ => ⟨rfl, rfl⟩
  | v :: ns, h => by
    have hv := h v (by simp)
    subst hv
    have ih := fold_same (n := v) (ns := ns) fun u hu => h u (by simp [hu])
    rw [List.foldl_cons, List.foldl_cons]
    have e1 : min v v = v := by omega
    have e2 : max v v = v := by omega
    rw [e1, e2]
    exact ih
theorem ev_counts {x : Net} (ks : List Nat) {n : Int} {ns : List Int} (h : EvI.counts ⟨x.p.toNat, ptsOf x, ks⟩ = n :: ns) : (decide ((EvI.counts ⟨x.p.toNat, ptsOf x, ks⟩).length = x.p.toNat ^ ks.sum) && decide (ns.foldl min n = ns.foldl max n)) = decide (rkW x ks = ks.sum) := by
  have hp := x.pos
  have all : ∀ v ∈ EvI.counts ⟨x.p.toNat, ptsOf x, ks⟩, v = ((x.p.toNat ^ (x.m - rkW x ks) : Nat) : Int) := fun v hv => by
    obtain ⟨e, he, rfl⟩ := List.mem_map.mp hv
    obtain ⟨h1, h2⟩ := tally_at he
    rw [h2]
    congr 1
    exact front_cnt h1
  rw [h] at all
  have hn := all n (by simp)
  obtain ⟨f1, f2⟩ := fold_same (n := n) (ns := ns) fun v hv => by rw [all v (by simp [hv]), hn]
  rw [f1, f2, decide_eq_true rfl, Bool.and_true]
  have hl : (EvI.counts ⟨x.p.toNat, ptsOf x, ks⟩).length = x.p.toNat ^ rkW x ks := by
    rw [← front_keys]; unfold EvI.counts; rw [List.length_map]; rfl
  rw [hl]
  exact decide_eq_decide.mpr ⟨fun e => pow_inj2 (by omega) e, fun e => by rw [e]⟩
theorem ev_some (x : Net) (ks : List Nat) : ∃ n ns, EvI.counts ⟨x.p.toNat, ptsOf x, ks⟩ = n :: ns := by
  have hp := x.pos
  have hl : (EvI.counts ⟨x.p.toNat, ptsOf x, ks⟩).length = x.p.toNat ^ rkW x ks := by
    rw [← front_keys]; unfold EvI.counts; rw [List.length_map]; rfl
  have : 0 < x.p.toNat ^ rkW x ks := Nat.pow_pos (by omega)
  cases h : EvI.counts ⟨x.p.toNat, ptsOf x, ks⟩ with
  | nil => rw [h] at hl; simp at hl; omega
  | cons n ns => exact ⟨n, ns, rfl⟩
/-- all depths -/
def allSides (d : Nat) : Nat → List (List Nat)
  | 0 => [[]]
  | s + 1 => (allSides d s).flatMap fun ks => (List.range (d + 1)).map fun k => ks ++ [k]
theorem allSides_len (d : Nat) : ∀ s, (allSides d s).length = (d + 1) ^ s
  | 0 => rfl
  | s + 1 => by
    have key : ∀ l : List (List Nat), (l.flatMap fun ks => (List.range (d + 1)).map fun k => ks ++ [k]).length = l.length * (d + 1) := by
      intro l
      induction l with
      | nil => simp
      | cons a l ih => rw [List.flatMap_cons, List.length_append, ih, List.length_map, List.length_range, List.length_cons, Nat.succ_mul]; omega
    rw [allSides, key, allSides_len d s, Nat.pow_succ]
theorem allSides_ok (d : Nat) : ∀ (s : Nat), ∀ ks ∈ allSides d s, ks.length = s ∧ ∀ k ∈ ks, k ≤ d
  | 0, ks, h => by rcases List.mem_singleton.mp h with rfl; exact ⟨rfl, fun k h => nomatch h⟩
  | s + 1, ks, h => by
    obtain ⟨l, hl, h⟩ := List.mem_flatMap.mp h
    obtain ⟨k, hk, rfl⟩ := List.mem_map.mp h
    obtain ⟨h1, h2⟩ := allSides_ok d s l hl
    refine ⟨by simp [h1], fun q hq => ?_⟩
    rcases List.mem_append.mp hq with z | z
    · exact h2 q z
    · rcases List.mem_singleton.mp z with rfl
      have := List.mem_range.mp hk
      omega
theorem sides_few {p s d : Nat} (hp : 2 ≤ p) {w : Nat} (h : p ^ (s * d) ≤ w) : (d + 1) ^ s ≤ w := by
  have h1 : d + 1 ≤ 2 ^ d := by
    have := @Nat.lt_two_pow_self d
    omega
  have h2 : (d + 1) ^ s ≤ (2 ^ d) ^ s := Nat.pow_le_pow_left h1 s
  rw [← Nat.pow_mul, Nat.mul_comm] at h2
  have h3 : 2 ^ (s * d) ≤ p ^ (s * d) := Nat.pow_le_pow_left hp _
  omega
theorem ok__law_all_sides {f : Addr} {fd : FuncData} (F : Fun K "_law_all_sides" "_law_all_sides" s__law_all_sides f fd) (B : Bi K mg) : FnG P w K mg base CX0 1 f fd ["many", "deep"] (spA K (fun x : Nat × Nat => [.int x.1, .int x.2]) (fun x => x.1 ≤ 10 ∧ x.2 ≤ 20 ∧ (x.2 + 1) ^ x.1 ≤ 5000) (fun x e => e = .list ((allSides x.2 x.1).map fun ks => rowD (rowN ks)))) := by
  refine ok_fnA F sc__law_all_sides (fun _ => rfl) (fun cdv A outer s H E hr hgd => ?_)
  refine ⟨_, (pss_cons (ps_set (i := 2) sc__law_all_sides.nd rfl (by first | exact Or.inl rfl | exact Or.inr rfl) (pe_lst (pa_cons (pe_tup pa_nil) pa_nil)))
      (pss_cons (ps_for PassesOwn.never (by rfl) (pi_range1 (by rfl) B.z_range (pa_cons (pv 0) pa_nil)) (pg_name (i := 3) sc__law_all_sides.nd rfl (by first | exact Or.inl rfl | exact Or.inr rfl))
      (pss_cons (ps_set (i := 4) sc__law_all_sides.nd rfl (by first | exact Or.inl rfl | exact Or.inr rfl) (pe_lst pa_nil))
      (pss_cons (ps_for PassesOwn.never (by rfl) (pi_seqK (K := K) rfl (pv 2)) (pg_name (i := 5) sc__law_all_sides.nd rfl (by first | exact Or.inl rfl | exact Or.inr rfl))
      (pss_one (ps_set (i := 4) sc__law_all_sides.nd rfl (by first | exact Or.inl rfl | exact Or.inr rfl) (pe_op (op_addUK (K := K) rfl) (pv 4) (pe_lc (own := [("k", 6)]) (g := (gName 6)) (tt := tYes) (by rfl) sc__law_all_sides.nd (pi_range1 (by rfl) B.z_range (pa_cons (pe_op (op_addUK (K := K) rfl) (pv 1) pe_int) pa_nil)) (blkOk_by (own := [("k", 6)]) (N := ["many", "deep", "rows", "turn", "later", "row", "k"]) (sc := defScope s__law_all_sides) (by decide +kernel)) (fun _ _ _ _ _ => (pg_name (i := 6) sc__law_all_sides.nd rfl (by first | exact Or.inl rfl | exact Or.inr rfl))) (fun _ _ _ _ _ => pts_nil) (fun _ _ _ _ _ => (pe_op (op_addUK (K := K) rfl) (pv 5) (pe_tup (pa_cons (pv 6) pa_nil)))))))))
      (pss_one (ps_set (i := 2) sc__law_all_sides.nd rfl (by first | exact Or.inl rfl | exact Or.inr rfl) (pv 4))))))
      (pss_one (ps_ret (pv 2))))), ?_⟩
  rintro ⟨s, d⟩ ⟨hs, hd, h5⟩
  dsimp only at hs hd h5
  show WS _ none _ _ [.dat (.int s), .dat (.int d), .no, .no, .no, .no, .no]
  refine ws_seq (ws_set (we_lst (wa_cons (we_tup (wa_nil ⟨szl (by simp), wa_nil ⟨szl (by simp), ?_⟩⟩)))))
  refine ws_seq (ws_for (wj_rng1 (wa_cons (we_var rfl (wa_nil ⟨_, rfl, by omega, ?_⟩)))))
  refine ⟨fun i δ => ∃ c3 c4 c5, δ = [.dat (.int s), .dat (.int d), .dat (.list ((allSides d i).map fun ks => rowD (rowN ks))), c3, c4, c5, .no], ⟨_, _, _, rfl⟩, fun i dd δ' hdd ⟨c3, c4, c5, e⟩ => ?_, fun δ' ⟨c3, c4, c5, e⟩ => ?_⟩
  · subst e
    obtain ⟨hi, rfl⟩ := rngD_inv hdd
    have hi : i < s := by omega
    have hq : (d + 1) ^ (i + 1) ≤ 5000 := Nat.le_trans (Nat.pow_le_pow_right (by omega) (by omega)) h5
    rw [Nat.pow_succ] at hq
    refine wg_name ?_
    refine ws_seq (ws_set (we_lst (wa_nil ⟨szl (by simp), ?_⟩)))
    refine ws_seq (ws_for (wj_seq (we_var rfl ⟨_, .inl rfl, ?_⟩)))
    refine ⟨fun j δ => ∃ c5, δ = [.dat (.int s), .dat (.int d), .dat (.list ((allSides d i).map fun ks => rowD (rowN ks))), .dat (.int (0 + (i : Nat))), .dat (.list ((((allSides d i).take j).flatMap fun ks => (List.range (d + 1)).map fun k => ks ++ [k]).map fun ks => rowD (rowN ks))), c5, .no], ⟨_, rfl⟩, fun j dd δ' hdd ⟨c5, e⟩ => ?_, fun δ' ⟨c5, e⟩ => ?_⟩
    · subst e
      obtain ⟨ks, hks, rfl⟩ := get_map hdd
      have hj : j < (allSides d i).length := (List.getElem?_eq_some_iff.mp hks).1
      have hkl := (allSides_ok d i ks (List.mem_of_getElem? hks)).1
      have hlen : (((allSides d i).take j).flatMap fun ks => (List.range (d + 1)).map fun k => ks ++ [k]).length ≤ 5000 := by
        have key : ∀ l : List (List Nat), (l.flatMap fun ks => (List.range (d + 1)).map fun k => ks ++ [k]).length = l.length * (d + 1) := by
          intro l
          induction l with
          | nil => simp
          | cons a l ih => rw [List.flatMap_cons, List.length_append, ih, List.length_map, List.length_range, List.length_cons, Nat.succ_mul]; omega
        rw [key, List.length_take, allSides_len]
        rw [allSides_len] at hj
        rw [Nat.min_eq_left (by omega)]
        exact Nat.le_trans (Nat.mul_le_mul_right _ (Nat.le_of_lt hj)) hq
      refine wg_name ?_
      refine ws_set (we_catLc (we_var rfl ⟨_, rfl, wf_mapA (fun k : Nat => .int (0 + (k : Nat))) (fun k => rowD (rowN (ks ++ [k]))) (wj_rng1 ?_)⟩))
      (repeat' walk_at "dl")
      refine ⟨_, rfl, by omega, List.range (d + 1), by unfold rngD; rw [show ((d : Int) + 1).toNat = d + 1 by omega], szl (by rw [List.length_range]; omega), fun k hk => ?_, fun a _ b _ e => ?_, szl (by simp only [List.length_map, List.length_range]; omega), ?_⟩
      · refine wgv_name (by simp) ?_
        refine we_op (we_var rfl (we_tup1 (we_var rfl (ow_addT (ds := (rowN ks).map .int) (es := [.int (0 + (k : Nat))]) (szl (by simp [rowN, hkl]; omega)) ?_))))
        have : (0 : Int) + (k : Nat) = (k : Nat) := by omega
        rw [this]
        unfold rowN rowD
        rw [List.map_append, List.map_append]
        rfl
      · have e : (0 : Int) + (a : Nat) = 0 + (b : Nat) := by injection e
        rw [show a = b by omega]
      · refine ⟨.dat (rowD (rowN ks)), ?_⟩
        rw [List.take_add_one, hks, List.flatMap_append, List.map_append]
        show [_, _, _, _, _, _, _] = _
        congr 5
        simp
    · subst e
      rw [List.length_map, List.take_length]
      refine ws_set (we_var rfl ?_)
      exact ⟨_, _, _, rfl⟩
  · subst e
    rw [rngD_len, Int.toNat_natCast]
    exact ws_ret (we_var rfl rfl)
end

end Lw

namespace Lw
open PySem PySem.Spec PyProof.Rows L2 DlP Dl
local macro_rules | `(tactic| walk_at "dl") => `(tactic| first
  | with_reducible refine cw_lenRow ?_
  | with_reducible refine cw_lenTab ?_
  | with_reducible refine ow_net0 ?_
  | with_reducible refine ow_net1 ?_
  | with_reducible refine ow_tabs0 ?_
  | with_reducible refine ow_tab0 ?_
  | with_reducible refine ex_seqRow ?_
  | with_reducible refine ex_seqTab ?_
  | ((with_reducible refine ow_rep0 ?hk ?_); (case hk => (constructor <;> omega)))
  | with_reducible refine wg_three ?_
  | with_reducible refine cw_sumU ?_
  | with_reducible refine cw_sumT ?_
  | with_reducible refine ws_setNil ?_
  | with_reducible refine ow_eqUB ?_
  | with_reducible refine ow_neUB ?_
  | with_reducible refine ow_neUS ?_
  | with_reducible refine ow_eqUS ?_
  | with_reducible refine ws_next ?_
  | with_reducible refine ws_seq ?_
  | with_reducible refine ws_if ?_
  | with_reducible refine wt_not ?_
  | with_reducible refine wt_and ?_
  | with_reducible refine wt_or ?_
  | with_reducible refine wt_chainI ?_
  | with_reducible refine wt_test ?_
  | with_reducible refine wt_B ?_
  | with_reducible refine ws_ret ?_
  | with_reducible refine ws_cont ?_
  | with_reducible refine ws_break ?_
  | with_reducible refine wa_cons ?_
  | with_reducible refine wa_nil ?_
  | ((with_reducible refine we_var (d := ?dd) ?hv ?_); (case hv => exact rfl))
  | with_reducible refine we_int ?_
  | with_reducible refine we_bl ?_
  | with_reducible refine we_non ?_
  | with_reducible refine we_str ?_
  | with_reducible refine we_negI ?_
  | ((with_reducible refine we_spr ?hv ?hw (fun z => ?_)); (case hv => exact rfl); (case hw => decide))
  | ((with_reducible refine ws_spr ?hv ?hw ?_); (case hv => exact rfl); (case hw => decide))
  | with_reducible refine ws_set ?_
  | with_reducible refine ws_asgG ?_
  | with_reducible refine wg_two ?_
  | with_reducible refine wg_name ?_
  | with_reducible refine we_andV ?_
  | with_reducible refine we_orV ?_
  | with_reducible refine we_notV ?_
  | with_reducible refine we_if ?_
  | with_reducible refine we_chainI ?_
  | with_reducible refine we_isN ?_
  | with_reducible refine we_notN ?_
  | with_reducible refine we_repL ?_
  | with_reducible refine we_catLc ?_
  | with_reducible refine we_catLst ?_
  | with_reducible refine we_listof ?_
  | with_reducible refine we_op ?_
  | with_reducible refine we_isInt ?_
  | with_reducible refine we_isBool ?_
  | with_reducible refine we_isTup ?_
  | ((with_reducible refine we_nlen (κ := tabKey) ?hv ?_); (case hv => exact rfl))
  | ((with_reducible refine we_nlen (κ := rowKey) ?hv ?_); (case hv => exact rfl))
  | with_reducible refine we_cb ?_
  | with_reducible refine we_lst ?_
  | with_reducible refine we_dict0 ?_
  | with_reducible refine we_disp1 ?_
  | with_reducible refine we_tup2 ?_
  | with_reducible refine we_tup1 ?_
  | with_reducible refine we_tup ?_
  | with_reducible refine ow_addI ?_
  | with_reducible refine ow_I0b ?_
  | with_reducible refine ow_eqUI ?_
  | with_reducible refine ow_neUI ?_
  | ((with_reducible refine ow_mulI ?hc ?_); (case hc => first | exact cmul_right (by decide) | exact cmul_left (by decide) | exact cmul_right (by omega) | exact cmul_left (by omega)))
  | ((with_reducible refine ow_modN ?hc ?_); (case hc => omega))
  | ((with_reducible refine ow_fdivL ?hc ?_); (case hc => (exact cdivL (by omega) (by omega))))
  | ((with_reducible refine ow_pow ?hc ?_); (case hc => exact ⟨by decide, by decide, by decide⟩))
  | with_reducible refine ow_I0i ?_
  | with_reducible refine cw_int ?_
  | with_reducible refine cw_intB ?_
  | with_reducible refine cw_abs ?_
  | with_reducible refine cw_max2U ?_
  | with_reducible refine cw_min2U ?_
  | with_reducible refine cw_allT ?_
  | with_reducible refine cw_tupleL ?_
  | with_reducible refine cw_tupleT ?_
  | with_reducible refine cw_lenL ?_
  | with_reducible refine cw_lenT ?_
  | with_reducible refine cw_lenScr ?_
  | with_reducible refine ex_int ?_
  | with_reducible refine ex_listT ?_
  | ((with_reducible refine and_sz ?hz ?_); (case hz => (simp; done)))
  | with_reducible refine ex_two ?_
  | with_reducible refine ex_bool ?_
  | with_reducible refine ex_list ?_
  | with_reducible refine ex_tuple ?_
  | with_reducible refine ex_seqL ?_
  | with_reducible refine ex_seqT ?_
  | with_reducible refine and_cases (fun hb => ?_) (fun hb => ?_)
  | with_reducible refine or_cases (fun hb => ?_) (fun hb => ?_))

section
variable {P : Program} {w : World} {K : Fg} {mg : Str → Option Value} {base : Heap}
/-! the first tie within depths, and the box that it shows to be empty -/
def firstN (r : Row) : Option Nat := r.findIdx? fun v => decide (v ≠ 0)
def optN : Option Nat → D | none => .none | some i => .int (i : Nat)
theorem firstN_some {r : Row} {i : Nat} (h : firstN r = some i) : i < r.length ∧ r.getD i 0 ≠ 0 ∧ ∀ j, j < i → r.getD j 0 = 0 := by
  unfold firstN at h
  obtain ⟨hi, h1, h2⟩ := List.findIdx?_eq_some_iff_getElem.mp h
  refine ⟨hi, ?_, fun j hj => ?_⟩
  · rw [List.getD_eq_getElem?_getD, List.getElem?_eq_getElem hi]; simpa using h1
  · have := h2 j hj
    rw [List.getD_eq_getElem?_getD, List.getElem?_eq_getElem (by omega)]; simpa using this
theorem ok_first_place {f : Addr} {fd : FuncData} (F : Fun K "first_place" "first_place" s_first_place f fd) (B : Bi K mg) : FnG P w K mg base CX0 1 f fd ["row"] (spA K (fun x : Bool × Row => [seqD x.1 (x.2.map .int)]) (fun _ => True) (fun x e => e = optN (firstN x.2))) := by
  refine ok_fnA F sc_first_place (fun _ => rfl) (fun cdv A outer s H E hr hgd => ?_)
  refine ⟨_, (pss_cons (ps_for PassesOwn.never (by rfl) (pi_enumUK (K := K) rfl (by rfl) B.z_enumerate (pa_cons (pv 0) pa_nil)) (pg_tupK (K := K) (n := 2) rfl (by rfl) (pgs_cons (pg_name (i := 1) sc_first_place.nd rfl (by first | exact Or.inl rfl | exact Or.inr rfl)) (pgs_cons (pg_name (i := 2) sc_first_place.nd rfl (by first | exact Or.inl rfl | exact Or.inr rfl)) pgs_nil)))
      (pss_one (ps_if (pt_cmpR (op_neUK (K := K) rfl hr.units) (pv 2) pe_int (nomark _))
      (pss_one (ps_ret (pv 1)))
      pss_nil)))
      (pss_one (ps_ret pe_non))), ?_⟩
  rintro ⟨b, r⟩ -
  show WS _ none _ _ [.dat (seqD b (r.map .int)), .no, .no]
  refine ws_seq (ws_for (wj_enum (wa_cons (we_var rfl (wa_nil ⟨_, _, rfl, seqD_seq _ _, ?_⟩)))))
  refine ⟨fun i δ => (∃ c1 c2, δ = [.dat (seqD b (r.map .int)), c1, c2]) ∧ ∀ j, j < i → r.getD j 0 = 0, ⟨⟨_, _, rfl⟩, fun j hj => by omega⟩, fun i dd δ' hd ⟨⟨c1, c2, e⟩, hz⟩ => ?_, fun δ' ⟨⟨c1, c2, e⟩, hz⟩ => ?_⟩
  · subst e
    obtain ⟨d, hd2, rfl⟩ := enumD_inv hd
    obtain ⟨v, hv, rfl⟩ := get_map hd2
    have hi : i < r.length := (List.getElem?_eq_some_iff.mp hv).1
    have hg : r.getD i 0 = v := by rw [List.getD_eq_getElem?_getD, hv]; rfl
    refine wg_two ?_
    refine ws_if ?_
    (repeat' walk_at "dl")
    · rename_i h
      have hne : v ≠ 0 := by simpa using h
      show _ = _
      have : firstN r = some i := by
        unfold firstN
        refine List.findIdx?_eq_some_iff_getElem.mpr ⟨hi, ?_, fun j hj => ?_⟩
        · have e : r[i] = v := by rw [List.getElem?_eq_getElem hi] at hv; exact Option.some.inj hv
          rw [e]; exact decide_eq_true hne
        · have := hz j hj
          rw [List.getD_eq_getElem?_getD, List.getElem?_eq_getElem (by omega)] at this
          simpa using this
      rw [this]
      rfl
    · rename_i h
      have he : v = 0 := by simpa using h
      refine ⟨⟨_, _, rfl⟩, fun j hj => ?_⟩
      rcases Nat.lt_succ_iff_lt_or_eq.mp hj with z | z
      · exact hz j z
      · rw [z, hg, he]
  · subst e
    rw [enumD_len, List.length_map] at hz
    refine ws_ret (we_non ?_)
    show _ = _
    have : firstN r = none := by
      unfold firstN
      rw [List.findIdx?_eq_none_iff]
      intro v hv
      obtain ⟨j, hj, e⟩ := List.getElem_of_mem hv
      have := hz j hj
      rw [List.getD_eq_getElem?_getD, List.getElem?_eq_getElem hj, e] at this
      simpa using this
    rw [this]
    rfl
def tiesW (x : Net) (ks : List Nat) : Tab := tiesF x.p x.m (rowsW x.ts ks)
def headRow : Tab → D | [] => .none | r :: _ => rowD r
theorem tiesF_nil {p : Int} (hp : 2 ≤ p) (m : Nat) : tiesF p m [] = [] := by
  have := (tiesF_ok (p := p) (m := m) (rs := []) hp (fun _ h => nomatch h)).2
  exact List.eq_nil_of_length_eq_zero (by simpa using this)
def padR (d : Nat) (r : Row) : Row := r ++ List.replicate (d - r.length) 0
structure WwI where
  x : Net
  ks : List Nat
  l : Row
  len : ks.length = x.s
  le : ∀ k ∈ ks, k ≤ x.d
  ll : l.length = ks.sum
def WwI.A (y : WwI) : List D := [y.x.D, rowD (rowN y.ks), rowD y.l]
def WwI.wd (y : WwI) : Tab := (partR y.l y.ks).map (padR y.x.d)
theorem partR_lens : ∀ (ks : List Nat) (l : Row), l.length = ks.sum → (partR l ks).map List.length = ks
  | [], _, _ => rfl
  | k :: ks, l, h => by
    rw [List.sum_cons] at h
    rw [partR, List.map_cons, partR_lens ks (l.drop k) (by rw [List.length_drop]; omega), List.length_take]
    congr 1
    omega
/-- the word and the box that a tie shows -/
def emptyD (x : Net) (ks : List Nat) (l : Row) (i : Nat) : D := .tuple [tabD ((partR l ks).map (padR x.d)), tabD (partR (unitR l.length i) ks)]
def emptyW (x : Net) (ks : List Nat) : D := match tiesW x ks with
  | [] => .none
  | l :: _ => match firstN l with | none => .none | some i => emptyD x ks l i
theorem tiesW_ok (x : Net) {ks : List Nat} (hl : ks.length = x.s) (hk : ∀ k ∈ ks, k ≤ x.d) : ∃ L, tiesW x ks = sndR L ∧ Piv L ∧ (∀ a ∈ L, a.1 < ks.sum ∧ RowOk x.p ks.sum a.2) ∧ ∀ w : Row, w.length = ks.sum → (Comb x.p ks.sum (sndR L) w ↔ ∀ j, j < x.m → x.p ∣ dot w (colAt (rowsW x.ts ks) j)) := by
  have := ties_main x.ok.1 (rowsW_ok (x := x) (ks := ks))
  rw [rowsW_sum hl hk] at this
  exact this
theorem piv_first {L : List (Nat × Row)} {a : Nat × Row} (h : Piv L) (ha : a ∈ L) (hl : a.1 < a.2.length) : firstN a.2 = some a.1 := by
  obtain ⟨h1, h2⟩ := h.1 a ha
  unfold firstN
  refine List.findIdx?_eq_some_iff_getElem.mpr ⟨hl, ?_, fun j hj => ?_⟩
  · rw [List.getD_eq_getElem?_getD, List.getElem?_eq_getElem hl] at h1
    have h1 : a.2[a.1] = 1 := h1
    rw [h1]; rfl
  · have := h2 j hj
    rw [List.getD_eq_getElem?_getD, List.getElem?_eq_getElem (by omega)] at this
    simpa using this
end

end Lw

namespace Lw
open PySem PySem.Spec PyProof.Rows L2 DlP Dl
local macro_rules | `(tactic| walk_at "dl") => `(tactic| first
  | with_reducible refine cw_lenRow ?_
  | with_reducible refine cw_lenTab ?_
  | with_reducible refine ow_net0 ?_
  | with_reducible refine ow_net1 ?_
  | with_reducible refine ow_tabs0 ?_
  | with_reducible refine ow_tab0 ?_
  | with_reducible refine ex_seqRow ?_
  | with_reducible refine ex_seqTab ?_
  | ((with_reducible refine ow_rep0 ?hk ?_); (case hk => (constructor <;> omega)))
  | with_reducible refine wg_three ?_
  | with_reducible refine cw_sumU ?_
  | with_reducible refine cw_sumT ?_
  | with_reducible refine ws_setNil ?_
  | with_reducible refine ow_eqUB ?_
  | with_reducible refine ow_neUB ?_
  | with_reducible refine ow_neUS ?_
  | with_reducible refine ow_eqUS ?_
  | with_reducible refine ws_next ?_
  | with_reducible refine ws_seq ?_
  | with_reducible refine ws_if ?_
  | with_reducible refine wt_not ?_
  | with_reducible refine wt_and ?_
  | with_reducible refine wt_or ?_
  | with_reducible refine wt_chainI ?_
  | with_reducible refine wt_test ?_
  | with_reducible refine wt_B ?_
  | with_reducible refine ws_ret ?_
  | with_reducible refine ws_cont ?_
  | with_reducible refine ws_break ?_
  | with_reducible refine wa_cons ?_
  | with_reducible refine wa_nil ?_
  | ((with_reducible refine we_var (d := ?dd) ?hv ?_); (case hv => exact rfl))
  | with_reducible refine we_int ?_
  | with_reducible refine we_bl ?_
  | with_reducible refine we_non ?_
  | with_reducible refine we_str ?_
  | with_reducible refine we_negI ?_
  | ((with_reducible refine we_spr ?hv ?hw (fun z => ?_)); (case hv => exact rfl); (case hw => decide))
  | ((with_reducible refine ws_spr ?hv ?hw ?_); (case hv => exact rfl); (case hw => decide))
  | with_reducible refine ws_set ?_
  | with_reducible refine ws_asgG ?_
  | with_reducible refine wg_two ?_
  | with_reducible refine wg_name ?_
  | with_reducible refine we_andV ?_
  | with_reducible refine we_orV ?_
  | with_reducible refine we_notV ?_
  | with_reducible refine we_if ?_
  | with_reducible refine we_chainI ?_
  | with_reducible refine we_isN ?_
  | with_reducible refine we_notN ?_
  | with_reducible refine we_repL ?_
  | with_reducible refine we_catLc ?_
  | with_reducible refine we_catLst ?_
  | with_reducible refine we_listof ?_
  | with_reducible refine we_op ?_
  | with_reducible refine we_isInt ?_
  | with_reducible refine we_isBool ?_
  | with_reducible refine we_isTup ?_
  | ((with_reducible refine we_nlen (κ := tabKey) ?hv ?_); (case hv => exact rfl))
  | ((with_reducible refine we_nlen (κ := rowKey) ?hv ?_); (case hv => exact rfl))
  | with_reducible refine we_cb ?_
  | with_reducible refine we_lst ?_
  | with_reducible refine we_dict0 ?_
  | with_reducible refine we_disp1 ?_
  | with_reducible refine we_tup2 ?_
  | with_reducible refine we_tup1 ?_
  | with_reducible refine we_tup ?_
  | with_reducible refine ow_addI ?_
  | with_reducible refine ow_I0b ?_
  | with_reducible refine ow_eqUI ?_
  | with_reducible refine ow_neUI ?_
  | ((with_reducible refine ow_mulI ?hc ?_); (case hc => first | exact cmul_right (by decide) | exact cmul_left (by decide) | exact cmul_right (by omega) | exact cmul_left (by omega)))
  | ((with_reducible refine ow_modN ?hc ?_); (case hc => omega))
  | ((with_reducible refine ow_fdivL ?hc ?_); (case hc => (exact cdivL (by omega) (by omega))))
  | ((with_reducible refine ow_pow ?hc ?_); (case hc => exact ⟨by decide, by decide, by decide⟩))
  | with_reducible refine ow_I0i ?_
  | with_reducible refine cw_int ?_
  | with_reducible refine cw_intB ?_
  | with_reducible refine cw_abs ?_
  | with_reducible refine cw_max2U ?_
  | with_reducible refine cw_min2U ?_
  | with_reducible refine cw_allT ?_
  | with_reducible refine cw_tupleL ?_
  | with_reducible refine cw_tupleT ?_
  | with_reducible refine cw_lenL ?_
  | with_reducible refine cw_lenT ?_
  | with_reducible refine cw_lenScr ?_
  | with_reducible refine ex_int ?_
  | with_reducible refine ex_listT ?_
  | ((with_reducible refine and_sz ?hz ?_); (case hz => (simp; done)))
  | with_reducible refine ex_two ?_
  | with_reducible refine ex_bool ?_
  | with_reducible refine ex_list ?_
  | with_reducible refine ex_tuple ?_
  | with_reducible refine ex_seqL ?_
  | with_reducible refine ex_seqT ?_
  | with_reducible refine and_cases (fun hb => ?_) (fun hb => ?_)
  | with_reducible refine or_cases (fun hb => ?_) (fun hb => ?_))

section
variable {P : Program} {w : World} {K : Fg} {mg : Str → Option Value} {base : Heap}
/-! spans -/
def leadD (a : Nat × Row) : D := .tuple [.int (a.1 : Nat), rowD a.2]
def spanD (σ : Spn) : D := .tuple (σ.map leadD)
theorem leadD_inj {a b : Nat × Row} (h : leadD a = leadD b) : a = b := by
  unfold leadD at h
  injection h with h
  injection h with h1 h
  injection h with h2 _
  injection h1 with h1
  obtain ⟨a1, a2⟩ := a
  obtain ⟨b1, b2⟩ := b
  have e2 := rowD_inj h2
  dsimp only at e2 h1
  rw [e2, show a1 = b1 by omega]
theorem spanD_inj {a b : Spn} (h : spanD a = spanD b) : a = b := by
  unfold spanD at h
  injection h with h
  exact List.map_inj_right (fun x y e => leadD_inj e) |>.mp h
def restQ (p : Int) (σ : Spn) (q : QRow) : QRow := σ.foldl (fun q a => clrQ p a.2 a.1 q) q
theorem restQ_row (p : Int) : ∀ (σ : Spn) (q : QRow), (restQ p σ q).2 = restF p σ q.2
  | [], _ => rfl
  | a :: σ, q => restQ_row p σ (clrQ p a.2 a.1 q)
structure RsI where
  p : Int
  m : Nat
  σ : Spn
  q : QRow
theorem ok_rest {f f_cleared : Addr} {fd fd_cleared : FuncData} (F : Fun K "rest" "rest" s_rest f fd) (B : Bi K mg) (d_cleared : Df P w K mg base 1 "cleared" f_cleared fd_cleared ["base", "row", "lead", "place"] (spA K (fun x : Clr => [.int x.p, encQ x.q, seqD x.lb (x.ld.map .int), .int x.c]) (fun x => 0 < x.p ∧ (∀ v ∈ x.q.2, 0 ≤ v ∧ v < 1000) ∧ x.q.2.length ≤ 1000 ∧ x.c < x.q.2.length) (fun x e => e = encQ (clrQ x.p x.ld x.c x.q)))) : FnG P w K mg base CX0 2 f fd ["base", "span", "row"] (spA K (fun x : RsI => [.int x.p, spanD x.σ, encQ x.q]) (fun x => (2 ≤ x.p ∧ x.p ≤ 7) ∧ x.m ≤ 300 ∧ (∀ a ∈ x.σ, a.1 < x.m ∧ RowOk x.p x.m a.2) ∧ RowOk x.p x.m x.q.2) (fun x e => e = encQ (restQ x.p x.σ x.q))) := by
  refine ok_fnA F sc_rest (fun _ => rfl) (fun cdv A outer s H E hr hgd => ?_)
  refine ⟨_, (pss_cons (ps_for PassesOwn.never (by rfl) (pi_seqK (K := K) rfl (pv 1)) (pg_tupK (K := K) (n := 2) rfl (by rfl) (pgs_cons (pg_name (i := 3) sc_rest.nd rfl (by first | exact Or.inl rfl | exact Or.inr rfl)) (pgs_cons (pg_name (i := 4) sc_rest.nd rfl (by first | exact Or.inl rfl | exact Or.inr rfl)) pgs_nil)))
      (pss_one (ps_set (i := 2) sc_rest.nd rfl (by first | exact Or.inl rfl | exact Or.inr rfl) (pe_callG d_cleared.ok (hr.mono (by decide)) hgd (by rfl) d_cleared.g d_cleared.kp d_cleared.b .nil pass0 (pa_cons (pv 0) (pa_cons (pv 2) (pa_cons (pv 4) (pa_cons (pv 3) pa_nil))))))))
      (pss_one (ps_ret (pv 2)))), ?_⟩
  rintro ⟨p, m, σ, q⟩ ⟨hp, hm, hσ, hq⟩
  dsimp only at hp hm hσ hq
  show WS _ none _ _ [.dat (.int p), .dat (spanD σ), .dat (encQ q), .no, .no]
  refine ws_seq (ws_for (wj_seq (we_var rfl ⟨_, .inr rfl, ?_⟩)))
  refine ⟨fun i δ => ∃ c3 c4, δ = [.dat (.int p), .dat (spanD σ), .dat (encQ (restQ p (σ.take i) q)), c3, c4], ⟨_, _, rfl⟩, fun i dd δ' hdd ⟨c3, c4, e⟩ => ?_, fun δ' ⟨c3, c4, e⟩ => ?_⟩
  · subst e
    obtain ⟨a, ha, rfl⟩ := get_map hdd
    have ham := hσ a (List.mem_of_getElem? ha)
    have hro : RowOk p m (restQ p (σ.take i) q).2 := by
      rw [restQ_row]
      exact rest_ok (by omega) (fun b hb => (hσ b (List.mem_of_mem_take hb)).2.1) hq
    have etk : restQ p (σ.take (i + 1)) q = clrQ p a.2 a.1 (restQ p (σ.take i) q) := by
      unfold restQ
      rw [List.take_add_one, ha, List.foldl_append]
      rfl
    refine wg_two (d := .int (a.1 : Nat)) (e := rowD a.2) ?_
    refine ws_set ?_
    refine we_callA ?_; (repeat' walk_at "dl"); refine ⟨(⟨p, restQ p (σ.take i) q, a.2, a.1, false⟩ : Clr), rfl, (by exact ⟨by dsimp only; omega, fun v hv => by have := hro.2 v hv; omega, by dsimp only; rw [hro.1]; omega, by dsimp only; rw [hro.1]; exact ham.1⟩), fun e he => ?_⟩; rw [show e = _ from he]; (try dsimp only)
    rw [← etk]
    exact ⟨_, _, rfl⟩
  · subst e
    rw [List.length_map, List.take_length]
    exact ws_ret (we_var rfl rfl)
theorem ok_widened {f f_rest f_first_place f_multiple f_inverse : Addr} {fd fd_rest fd_first_place fd_multiple fd_inverse : FuncData} (F : Fun K "widened" "widened" s_widened f fd) (B : Bi K mg) (d_rest : Df P w K mg base 2 "rest" f_rest fd_rest ["base", "span", "row"] (spA K (fun x : RsI => [.int x.p, spanD x.σ, encQ x.q]) (fun x => (2 ≤ x.p ∧ x.p ≤ 7) ∧ x.m ≤ 300 ∧ (∀ a ∈ x.σ, a.1 < x.m ∧ RowOk x.p x.m a.2) ∧ RowOk x.p x.m x.q.2) (fun x e => e = encQ (restQ x.p x.σ x.q)))) (d_first_place : Df P w K mg base 1 "first_place" f_first_place fd_first_place ["row"] (spA K (fun x : Bool × Row => [seqD x.1 (x.2.map .int)]) (fun _ => True) (fun x e => e = optN (firstN x.2)))) (d_multiple : Df P w K mg base 1 "multiple" f_multiple fd_multiple ["base", "figure", "row"] (spA K (fun x : Mul1 => [.int x.p, .int x.f, encQ x.q]) (fun x => 0 < x.p ∧ (0 ≤ x.f ∧ x.f < 1000) ∧ x.q.2.length ≤ 1000) (fun x e => e = .list ((mulF x.p x.f x.q.2).map .int)))) (d_inverse : Df P w K mg base 1 "inverse" f_inverse fd_inverse ["base", "figure"] (spA K (fun x : Int × Int => [.int x.1, .int x.2]) (fun x => Base x.1 ∧ 1 ≤ x.2 ∧ x.2 < x.1) (fun x e => e = .int (invF x.1 x.2)))) : FnG P w K mg base CX0 3 f fd ["base", "span", "row"] (spA K (fun x : RsI => [.int x.p, spanD x.σ, encQ x.q]) (fun x => Base x.p ∧ x.m ≤ 300 ∧ x.σ.length ≤ 300 ∧ (∀ a ∈ x.σ, a.1 < x.m ∧ RowOk x.p x.m a.2) ∧ RowOk x.p x.m x.q.2) (fun x e => e = spanD (widF x.p x.σ x.q.2))) := by
  refine ok_fnA F sc_widened (fun _ => rfl) (fun cdv A outer s H E hr hgd => ?_)
  refine ⟨_, (pss_cons (ps_set (i := 3) sc_widened.nd rfl (by first | exact Or.inl rfl | exact Or.inr rfl) (pe_callG d_rest.ok (hr.mono (by decide)) hgd (by rfl) d_rest.g d_rest.kp d_rest.b .nil pass0 (pa_cons (pv 0) (pa_cons (pv 1) (pa_cons (pv 2) pa_nil)))))
      (pss_cons (ps_set (i := 4) sc_widened.nd rfl (by first | exact Or.inl rfl | exact Or.inr rfl) (pe_callG d_first_place.ok (hr.mono (by decide)) hgd (by rfl) d_first_place.g d_first_place.kp d_first_place.b .nil pass0 (pa_cons (pv 3) pa_nil)))
      (pss_cons (ps_if (pt_cmpR op_isN (pv 4) pe_non (nomark _))
      (pss_one (ps_ret (pv 1)))
      pss_nil)
      (pss_one (ps_ret (pe_op (op_addUK (K := K) rfl) (pv 1) (pe_tup (pa_cons (pe_tup (pa_cons (pv 4) (pa_cons (pe_callTy (call_tuple_ofK (K := K) rfl) (by rfl) B.z_tuple (by decide +kernel) (pa_cons (pe_callG d_multiple.ok (hr.mono (by decide)) hgd (by rfl) d_multiple.g d_multiple.kp d_multiple.b .nil pass0 (pa_cons (pv 0) (pa_cons (pe_callG d_inverse.ok (hr.mono (by decide)) hgd (by rfl) d_inverse.g d_inverse.kp d_inverse.b .nil pass0 (pa_cons (pv 0) (pa_cons (pe_ix (ix_seqK (K := K) rfl) (pv 3) (pv 4) (fun _ _ => rfl)) pa_nil))) (pa_cons (pv 3) pa_nil)))) pa_nil)) pa_nil))) pa_nil)))))))), ?_⟩
  rintro ⟨p, m, σ, q⟩ ⟨hb, hm, hl, hσ, hq⟩
  dsimp only at hb hm hl hσ hq
  have hp := hb.pos
  show WS _ none _ _ [.dat (.int p), .dat (spanD σ), .dat (encQ q), .no, .no]
  refine ws_seq (ws_set ?_)
  refine we_callA ?_; (repeat' walk_at "dl"); refine ⟨(⟨p, m, σ, q⟩ : RsI), rfl, (by exact ⟨by dsimp only; omega, hm, hσ, hq⟩), fun e he => ?_⟩; rw [show e = _ from he]; (try dsimp only)
  refine ws_seq (ws_set ?_)
  refine we_callA ?_; (repeat' walk_at "dl"); refine ⟨(restQ p σ q : Bool × Row), rfl, trivial, fun e he => ?_⟩; rw [show e = _ from he]; (try dsimp only)
  have hro : RowOk p m (restQ p σ q).2 := by
    rw [restQ_row]
    exact rest_ok (by omega) (fun b hb => (hσ b hb).2.1) hq
  have er : widF p σ q.2 = match firstN (restQ p σ q).2 with | none => σ | some c => σ ++ [(c, leadP p c (restQ p σ q).2)] := by rw [restQ_row]; rfl
  rw [er]
  generalize restQ p σ q = z at hro er
  cases hf : firstN z.2 with
  | none =>
    show WS _ none _ _ [.dat (.int p), .dat (spanD σ), .dat (encQ q), .dat (encQ z), .dat .none]
    (repeat' walk_at "dl")
    · rfl
    · rename_i h; cases h
  | some c =>
    obtain ⟨hc, h1, h2⟩ := firstN_some hf
    have hg := getD_range2 (show 0 < p by omega) hro c
    have hi := (invF_ok (p := p) (f := z.2.getD c 0) hb ⟨by omega, hg.2⟩).1
    have hrl := hro.1
    show WS _ none _ _ [.dat (.int p), .dat (spanD σ), .dat (encQ q), .dat (encQ z), .dat (.int (c : Nat))]
    (repeat' walk_at "dl")
    · rename_i h; cases h
    · refine we_callA ?_
      (repeat' walk_at "dl")
      refine we_callA (wa_cons (we_var rfl (wa_cons ((?_ : WE _ _ _ _ fun d => d = .int (z.2.getD c 0)).imp ?_))))
      · obtain ⟨b, r⟩ := z
        have hcr : r.getD c 0 = r[c] := by rw [List.getD_eq_getElem?_getD, List.getElem?_eq_getElem hc]; rfl
        refine we_op (we_var rfl (we_var rfl ?_))
        cases b with
        | true => exact ow_ixL' (x := .int r[c]) (atI_nat (by rw [List.getElem?_map, List.getElem?_eq_getElem hc]; rfl)) (by rw [hcr])
        | false => exact ow_ixT' (x := .int r[c]) (atI_nat (by rw [List.getElem?_map, List.getElem?_eq_getElem hc]; rfl)) (by rw [hcr])
      rintro d rfl
      refine wa_nil ⟨(p, z.2.getD c 0), rfl, ⟨hb, by dsimp only; omega, hg.2⟩, fun e he => ?_⟩
      rw [show e = _ from he]
      dsimp only
      (repeat' walk_at "dl")
      refine ⟨⟨p, invF p (z.2.getD c 0), z⟩, rfl, ⟨by dsimp only; omega, by dsimp only; omega, by dsimp only; omega⟩, fun e he => ?_⟩
      rw [show e = _ from he]
      (repeat' walk_at "dl")
      refine ow_addT (szl (by simp; omega)) ?_
      show _ = _
      unfold spanD
      rw [List.map_append]
      rfl
structure FrS where
  p : Int
  m : Nat
  σ : Spn
  t : Tab
def GoodS (p : Int) (m : Nat) (σ : Spn) : Prop := ∃ A : Tab, (∀ r ∈ A, RowOk p m r) ∧ A.length ≤ 100 ∧ σ = spanF p A
theorem GoodS.span {p : Int} {m : Nat} {σ : Spn} (hb : Base p) (h : GoodS p m σ) : σ.length ≤ 100 ∧ ∀ a ∈ σ, a.1 < m ∧ RowOk p m a.2 := by
  obtain ⟨A, hA, hl, rfl⟩ := h
  have := span_len p A
  exact ⟨by omega, fun a ha => ⟨((span_ok hb hA).ok a ha).1, ((span_ok hb hA).ok a ha).2.1⟩⟩
structure FsI where
  p : Int
  m : Nat
  A : Tab
  t : Tab
def FsI.σ (x : FsI) : Spn := spanF x.p x.A
def FsI.A1 (x : FsI) (j : Nat) : Tab := x.A ++ x.t.take j
theorem FsI.pre (x : FsI) (j : Nat) : preS x.p x.σ x.t j = spanF x.p (x.A1 j) := by unfold FsI.A1; rw [span_app]; rfl
theorem FsI.good {x : FsI} (hb : Base x.p) (hA : ∀ r ∈ x.A, RowOk x.p x.m r) (ht : ∀ r ∈ x.t, RowOk x.p x.m r) (hl : x.A.length ≤ 72 ∧ x.t.length ≤ 12) (j : Nat) : (preS x.p x.σ x.t j).length ≤ 300 ∧ ∀ a ∈ preS x.p x.σ x.t j, a.1 < x.m ∧ RowOk x.p x.m a.2 := by
  rw [FsI.pre]
  have hAA : ∀ r ∈ x.A1 j, RowOk x.p x.m r := fun r hr => by
    rcases List.mem_append.mp hr with z | z
    · exact hA r z
    · exact ht r (List.mem_of_mem_take z)
  have h1 := span_len x.p (x.A1 j)
  have h2 : (x.A1 j).length ≤ 84 := by unfold FsI.A1; rw [List.length_append, List.length_take]; omega
  exact ⟨by omega, fun a ha => ⟨((span_ok hb hAA).ok a ha).1, ((span_ok hb hAA).ok a ha).2.1⟩⟩
theorem ok_free_spans_over {f f_widened : Addr} {fd fd_widened : FuncData} (F : Fun K "free_spans_over" "free_spans_over" s_free_spans_over f fd) (B : Bi K mg) (d_widened : Df P w K mg base 3 "widened" f_widened fd_widened ["base", "span", "row"] (spA K (fun x : RsI => [.int x.p, spanD x.σ, encQ x.q]) (fun x => Base x.p ∧ x.m ≤ 300 ∧ x.σ.length ≤ 300 ∧ (∀ a ∈ x.σ, a.1 < x.m ∧ RowOk x.p x.m a.2) ∧ RowOk x.p x.m x.q.2) (fun x e => e = spanD (widF x.p x.σ x.q.2)))) : FnG P w K mg base CX0 4 f fd ["base", "span", "table"] (spA K (fun x : FsI => [.int x.p, spanD x.σ, tabD x.t]) (fun x => Base x.p ∧ x.m ≤ 300 ∧ (∀ r ∈ x.A, RowOk x.p x.m r) ∧ (∀ r ∈ x.t, RowOk x.p x.m r) ∧ (x.A.length ≤ 72 ∧ x.t.length ≤ 12)) (fun x e => e = .list (((List.range (goN x.p x.σ x.t + 1)).map (preS x.p x.σ x.t)).map spanD))) := by
  refine ok_fnA F sc_free_spans_over (fun _ => rfl) (fun cdv A outer s H E hr hgd => ?_)
  refine ⟨_, (pss_cons (ps_set (i := 3) sc_free_spans_over.nd rfl (by first | exact Or.inl rfl | exact Or.inr rfl) (pe_lst (pa_cons (pv 1) pa_nil)))
      (pss_cons (ps_for PassesOwn.never (by rfl) (pi_seqK (K := K) rfl (pv 2)) (pg_name (i := 4) sc_free_spans_over.nd rfl (by first | exact Or.inl rfl | exact Or.inr rfl))
      (pss_cons (ps_set (i := 5) sc_free_spans_over.nd rfl (by first | exact Or.inl rfl | exact Or.inr rfl) (pe_callG d_widened.ok (hr.mono (by decide)) hgd (by rfl) d_widened.g d_widened.kp d_widened.b .nil pass0 (pa_cons (pv 0) (pa_cons (pe_ix (ix_seqK (K := K) rfl) (pv 3) (pe_un un_neg pe_int) (fun _ _ => rfl)) (pa_cons (pv 4) pa_nil)))))
      (pss_cons (ps_if (pt_cmpR (op_eqUK (K := K) rfl hr.units) (pe_callB (call_lenK (K := K) rfl) (by rfl) B.z_len (by decide +kernel) (pa_cons (pv 5) pa_nil)) (pe_callB (call_lenK (K := K) rfl) (by rfl) B.z_len (by decide +kernel) (pa_cons (pe_ix (ix_seqK (K := K) rfl) (pv 3) (pe_un un_neg pe_int) (fun _ _ => rfl)) pa_nil)) (nomark _))
      (pss_one ps_break)
      pss_nil)
      (pss_one (ps_expr (pe_bm PySem.F.plainAttrs_list PySem.F.slot_list_append PySem.F.type_list_append mt_append (pv 3) (pa_cons (pv 5) pa_nil)))))))
      (pss_one (ps_ret (pv 3))))), ?_⟩
  rintro x ⟨hb, hm, hA, ht, hl⟩
  have hgood := FsI.good hb hA ht hl
  obtain ⟨p, m, A, t⟩ := x
  dsimp only at hb hm hA ht hl hgood
  generalize hσ : FsI.σ ⟨p, m, A, t⟩ = σ at hgood
  have hgl := goN_le p t σ
  show WS _ none _ _ [.dat (.int p), .dat (spanD σ), .dat (tabD t), .no, .no, .no]
  refine ws_seq (ws_setF (wf_lst (wa_cons (we_var rfl (wa_nil ⟨szl (by simp), ?_⟩)))))
  refine ws_seq (ws_for (wj_seq (we_var rfl ⟨_, .inr rfl, ?_⟩)))
  refine ⟨fun i δ => (∃ c4 c5, δ = [.dat (.int p), .dat (spanD σ), .dat (tabD t), .own (((List.range (i + 1)).map (preS p σ t)).map spanD), c4, c5]) ∧ i ≤ goN p σ t, ⟨⟨_, _, rfl⟩, Nat.zero_le _⟩, fun i dd δ' hdd ⟨⟨c4, c5, e⟩, hgo⟩ => ?_, fun δ' ⟨⟨c4, c5, e⟩, hgo⟩ => ?_⟩
  · subst e
    obtain ⟨r, hr, rfl⟩ := get_map hdd
    have hi : i < t.length := (List.getElem?_eq_some_iff.mp hr).1
    have hro := ht r (List.mem_of_getElem? hr)
    have hend : ((List.range (i + 1)).map (preS p σ t)).map spanD = ((List.range i).map (preS p σ t)).map spanD ++ [spanD (preS p σ t i)] := by rw [List.range_succ, List.map_append, List.map_append]; rfl
    have enx : widF p (preS p σ t i) r = preS p σ t (i + 1) := by
      unfold preS
      rw [List.take_add_one, hr, List.foldl_append]; rfl
    refine wg_name ?_
    refine ws_seq (ws_set ?_)
    refine we_callA (wa_cons (we_var rfl (wa_cons (we_ixOwnA rfl (we_negI (we_int ⟨1, rfl, ?_⟩))))))
    refine ⟨_, _, rfl, by rw [hend]; exact atI_end, wa_cons (we_var rfl (wa_nil ⟨⟨p, m, preS p σ t i, (false, r)⟩, rfl, ⟨hb, hm, (hgood i).1, (hgood i).2, hro⟩, fun e he => ?_⟩))⟩
    rw [show e = _ from he]
    dsimp only
    rw [enx]
    have hg1 := (goN_iff p t σ i (by omega)).mp hgo
    have hw := wid_two p (preS p σ t i) r
    rw [enx] at hw
    refine ws_seq (ws_if ((?_ : WT _ _ _ _ fun b => b = decide ((preS p σ t (i + 1)).length = (preS p σ t i).length)).imp ?_))
    · refine wt_test (we_op (we_cb (wa_cons (we_var rfl (wa_nil (cw_lenT ?_))))))
      refine we_cb (wa_cons (we_ixOwnA rfl (we_negI (we_int ⟨1, rfl, ?_⟩))))
      refine ⟨_, _, rfl, by rw [hend]; exact atI_end, wa_nil (cw_lenT ?_)⟩
      refine ow_eqUI ⟨_, rfl, ?_⟩
      rw [List.length_map, List.length_map, decN]
    rintro bb rfl
    refine ⟨fun h => ?_, fun h => ?_⟩
    · have h := of_decide_eq_true h
      have hstop : goN p σ t = i := by
        rcases Nat.lt_or_ge i (goN p σ t) with z | z
        · have := (goN_iff p t σ (i + 1) (by omega)).mp (by omega); omega
        · omega
      refine ws_break ?_
      refine ws_melt 3 rfl ?_
      refine ws_ret (we_var rfl ?_)
      rw [← hstop]
    · have h := of_decide_eq_false h
      refine ws_next ?_
      refine ws_append rfl (szlt (by simp; omega)) (we_var rfl ?_)
      refine ⟨⟨.dat (rowD r), .dat (spanD (preS p σ t (i + 1))), ?_⟩, (goN_iff p t σ (i + 1) (by omega)).mpr (by omega)⟩
      rw [List.range_succ (n := i + 1), List.map_append, List.map_append]
      rfl
  · subst e
    rw [List.length_map] at hgo ⊢
    refine ws_melt 3 rfl ?_
    refine ws_ret (we_var rfl ?_)
    rw [show goN p σ t = t.length by omega]
theorem we_enumR {α : Type} (f : α → D) (as : List α) : enumD (as.map f) = as.zipIdx.map fun q => .tuple [.int (q.2 : Nat), f q.1] := by
  refine List.ext_getElem? fun i => ?_
  rw [List.getElem?_map, List.getElem?_zipIdx]
  cases h : as[i]? with
  | none => rw [List.getElem?_eq_none (by rw [enumD_len, List.length_map]; exact List.getElem?_eq_none_iff.mp h)]; rfl
  | some a => rw [enumD_get (d := f a) (by rw [List.getElem?_map, h]; rfl)]; simp
theorem ok_deeper_ones {f f_depth_of : Addr} {fd fd_depth_of : FuncData} (F : Fun K "deeper_ones" "deeper_ones" s_deeper_ones f fd) (B : Bi K mg) (d_depth_of : Df P w K mg base 1 "depth_of" f_depth_of fd_depth_of ["net"] (spA K (fun x : Net => [x.D]) (fun _ => True) (fun x e => e = .int x.d))) : FnG P w K mg base CX0 2 f fd ["net", "depths"] (spA K NK.A (fun _ => True) (fun y e => e = .list ((deepK y.x.d y.ks).map fun l => rowD (rowN l)))) := by
  refine ok_fnA F sc_deeper_ones (fun _ => rfl) (fun cdv A outer s H E hr hgd => ?_)
  refine ⟨_, (pss_cons (ps_set (i := 2) sc_deeper_ones.nd rfl (by first | exact Or.inl rfl | exact Or.inr rfl) (pe_callG d_depth_of.ok (hr.mono (by decide)) hgd (by rfl) d_depth_of.g d_depth_of.kp d_depth_of.b .nil pass0 (pa_cons (pv 0) pa_nil)))
      (pss_one (ps_ret (pe_lc (own := [("at", 3), ("one", 4)]) (g := (gTup K 2 (gCons (gName 3) (gCons (gName 4) gNil)))) (tt := _) (by rfl) sc_deeper_ones.nd (pi_enumUK (K := K) rfl (by rfl) B.z_enumerate (pa_cons (pv 1) pa_nil)) (blkOk_by (own := [("at", 3), ("one", 4)]) (N := ["net", "depths", "depth", "at", "one"]) (sc := defScope s_deeper_ones) (by decide +kernel)) (fun _ _ _ _ _ => (pg_tupK (K := K) (n := 2) rfl (by rfl) (pgs_cons (pg_name (i := 3) sc_deeper_ones.nd rfl (by first | exact Or.inl rfl | exact Or.inr rfl)) (pgs_cons (pg_name (i := 4) sc_deeper_ones.nd rfl (by first | exact Or.inl rfl | exact Or.inr rfl)) pgs_nil)))) (fun _ _ _ _ _ => (pts_one (pt_cmpR op_lt (pv 4) (pv 2) (nomark _)))) (fun _ _ _ _ _ => (pe_op (op_addUK (K := K) rfl) (pe_op (op_addUK (K := K) rfl) (pe_slice (sl_anyK (K := K) rfl) (pv 1) po_none (po_some (pv 3))) (pe_tup (pa_cons (pe_op (op_addUK (K := K) rfl) (pv 4) pe_int) pa_nil))) (pe_slice (sl_anyK (K := K) rfl) (pv 1) (po_some (pe_op (op_addUK (K := K) rfl) (pv 3) pe_int)) po_none))))))), ?_⟩
  rintro ⟨x, ks, hl, hk⟩ -
  have hs := x.sb
  have hd := x.db
  show WS _ none _ _ [.dat (netD x.p x.ts), .dat (rowD (rowN ks)), .no, .no, .no]
  refine ws_seq (ws_set ?_)
  refine we_callA ?_; (repeat' walk_at "dl"); refine ⟨x, rfl, trivial, fun e he => ?_⟩; rw [show e = _ from he]; (try dsimp only)
  refine ws_ret (we_fresh (wf_filterA (fun q : Nat × Nat => .tuple [.int (q.2 : Nat), .int (q.1 : Nat)]) (fun q => rowD (rowN (ks.take q.2 ++ [q.1 + 1] ++ ks.drop (q.2 + 1)))) (fun q => decide (q.1 < x.d)) (wj_enum (wa_cons (we_var rfl (wa_nil ⟨_, _, rfl, .inr rfl, ?_⟩))))))
  have eR : (rowN ks).map PyData.int = ks.map fun (k : Nat) => PyData.int k := by unfold rowN; rw [List.map_map]; rfl
  refine ⟨ks.zipIdx, by rw [eR]; exact we_enumR (fun (k : Nat) => PyData.int k) ks, szl (by simp; omega), fun q hq => ?_, fun a _ b _ e => ?_, ?_⟩
  · obtain ⟨k, i⟩ := q
    have hq := List.mk_mem_zipIdx_iff_getElem?.mp hq
    have hi : i < ks.length := (List.getElem?_eq_some_iff.mp hq).1
    refine wgv_two (by simp) (by simp) ?_
    refine wt_test ?_
    (repeat' walk_at "dl")
    refine ⟨decide_eq_decide.mpr (by dsimp only; omega), fun _ => ?_⟩
    refine we_op (we_op (we_slTU (we_var rfl ⟨_, rfl, wo_none (wo_some (we_var rfl ⟨_, rfl, ?_⟩))⟩)))
    rw [cut_pre]
    (repeat' walk_at "dl")
    refine ow_addT (szl (by simp [rowN]; omega)) ?_
    refine we_slTU (we_var rfl ⟨_, rfl, wo_some (we_op (we_var rfl (we_int (ow_addI ⟨_, rfl, wo_none ?_⟩)))) ⟩)
    rw [show ((i : Nat) : Int) + 1 = ((i + 1 : Nat) : Int) by omega, cut_lo _ _ (by simp [rowN]; omega)]
    refine ow_addT (szl (by simp [rowN]; omega)) ?_
    show _ = _
    unfold rowD rowN
    simp only [List.map_append, List.map_take, List.map_drop, List.map_cons, List.map_nil]
    rfl
  · obtain ⟨a1, a2⟩ := a
    obtain ⟨b1, b2⟩ := b
    injection e with e
    injection e with e1 e
    injection e with e2 _
    injection e1 with e1
    injection e2 with e2
    dsimp only at e1 e2
    rw [show a1 = b1 by omega, show a2 = b2 by omega]
  · show _ = _
    unfold deepK
    rw [List.map_map]
    rfl
end

end Lw

namespace Lw
open PySem PySem.Spec PyProof.Rows L2 DlP Dl
local macro_rules | `(tactic| walk_at "dl") => `(tactic| first
  | with_reducible refine cw_lenRow ?_
  | with_reducible refine cw_lenTab ?_
  | with_reducible refine ow_net0 ?_
  | with_reducible refine ow_net1 ?_
  | with_reducible refine ow_tabs0 ?_
  | with_reducible refine ow_tab0 ?_
  | with_reducible refine ex_seqRow ?_
  | with_reducible refine ex_seqTab ?_
  | ((with_reducible refine ow_rep0 ?hk ?_); (case hk => (constructor <;> omega)))
  | with_reducible refine wg_three ?_
  | with_reducible refine cw_sumU ?_
  | with_reducible refine cw_sumT ?_
  | with_reducible refine ws_setNil ?_
  | with_reducible refine ow_eqUB ?_
  | with_reducible refine ow_neUB ?_
  | with_reducible refine ow_neUS ?_
  | with_reducible refine ow_eqUS ?_
  | with_reducible refine ws_next ?_
  | with_reducible refine ws_seq ?_
  | with_reducible refine ws_if ?_
  | with_reducible refine wt_not ?_
  | with_reducible refine wt_and ?_
  | with_reducible refine wt_or ?_
  | with_reducible refine wt_chainI ?_
  | with_reducible refine wt_test ?_
  | with_reducible refine wt_B ?_
  | with_reducible refine ws_ret ?_
  | with_reducible refine ws_cont ?_
  | with_reducible refine ws_break ?_
  | with_reducible refine wa_cons ?_
  | with_reducible refine wa_nil ?_
  | ((with_reducible refine we_var (d := ?dd) ?hv ?_); (case hv => exact rfl))
  | with_reducible refine we_int ?_
  | with_reducible refine we_bl ?_
  | with_reducible refine we_non ?_
  | with_reducible refine we_str ?_
  | with_reducible refine we_negI ?_
  | ((with_reducible refine we_spr ?hv ?hw (fun z => ?_)); (case hv => exact rfl); (case hw => decide))
  | ((with_reducible refine ws_spr ?hv ?hw ?_); (case hv => exact rfl); (case hw => decide))
  | with_reducible refine ws_set ?_
  | with_reducible refine ws_asgG ?_
  | with_reducible refine wg_two ?_
  | with_reducible refine wg_name ?_
  | with_reducible refine we_andV ?_
  | with_reducible refine we_orV ?_
  | with_reducible refine we_notV ?_
  | with_reducible refine we_if ?_
  | with_reducible refine we_chainI ?_
  | with_reducible refine we_isN ?_
  | with_reducible refine we_notN ?_
  | with_reducible refine we_repL ?_
  | with_reducible refine we_catLc ?_
  | with_reducible refine we_catLst ?_
  | with_reducible refine we_listof ?_
  | with_reducible refine we_op ?_
  | with_reducible refine we_isInt ?_
  | with_reducible refine we_isBool ?_
  | with_reducible refine we_isTup ?_
  | ((with_reducible refine we_nlen (κ := tabKey) ?hv ?_); (case hv => exact rfl))
  | ((with_reducible refine we_nlen (κ := rowKey) ?hv ?_); (case hv => exact rfl))
  | with_reducible refine we_cb ?_
  | with_reducible refine we_lst ?_
  | with_reducible refine we_dict0 ?_
  | with_reducible refine we_disp1 ?_
  | with_reducible refine we_tup2 ?_
  | with_reducible refine we_tup1 ?_
  | with_reducible refine we_tup ?_
  | with_reducible refine ow_addI ?_
  | with_reducible refine ow_I0b ?_
  | with_reducible refine ow_eqUI ?_
  | with_reducible refine ow_neUI ?_
  | ((with_reducible refine ow_mulI ?hc ?_); (case hc => first | exact cmul_right (by decide) | exact cmul_left (by decide) | exact cmul_right (by omega) | exact cmul_left (by omega)))
  | ((with_reducible refine ow_modN ?hc ?_); (case hc => omega))
  | ((with_reducible refine ow_fdivL ?hc ?_); (case hc => (exact cdivL (by omega) (by omega))))
  | ((with_reducible refine ow_pow ?hc ?_); (case hc => exact ⟨by decide, by decide, by decide⟩))
  | with_reducible refine ow_I0i ?_
  | with_reducible refine cw_int ?_
  | with_reducible refine cw_intB ?_
  | with_reducible refine cw_abs ?_
  | with_reducible refine cw_max2U ?_
  | with_reducible refine cw_min2U ?_
  | with_reducible refine cw_allT ?_
  | with_reducible refine cw_tupleL ?_
  | with_reducible refine cw_tupleT ?_
  | with_reducible refine cw_lenL ?_
  | with_reducible refine cw_lenT ?_
  | with_reducible refine cw_lenScr ?_
  | with_reducible refine ex_int ?_
  | with_reducible refine ex_listT ?_
  | ((with_reducible refine and_sz ?hz ?_); (case hz => (simp; done)))
  | with_reducible refine ex_two ?_
  | with_reducible refine ex_bool ?_
  | with_reducible refine ex_list ?_
  | with_reducible refine ex_tuple ?_
  | with_reducible refine ex_seqL ?_
  | with_reducible refine ex_seqT ?_
  | with_reducible refine and_cases (fun hb => ?_) (fun hb => ?_)
  | with_reducible refine or_cases (fun hb => ?_) (fun hb => ?_))

section
variable {P : Program} {w : World} {K : Fg} {mg : Str → Option Value} {base : Heap}
/-! the spans within depths -/
theorem rowN_inj {a b : List Nat} (h : rowN a = rowN b) : a = b := List.map_inj_right (fun x y e => by omega) |>.mp h
def toK (L : List (List Nat × Spn)) : List (Row × D) := L.map fun e => (rowN e.1, spanD e.2)
def evD (b : Bool) (p : Int) (ts : List Tab) : List (Row × D) := toK (evS b p ts)
theorem pow13 {d i : Nat} (hd : d ≤ 12) (hi : i ≤ 6) : (d + 1) ^ i ≤ 4826809 := by
  have h1 : (d + 1) ^ i ≤ 13 ^ i := Nat.pow_le_pow_left (by omega) i
  have h2 : 13 ^ i ≤ 13 ^ 6 := Nat.pow_le_pow_right (by omega) hi
  have h3 : (13 : Nat) ^ 6 = 4826809 := by decide
  omega
theorem step_snoc (b : Bool) (p : Int) (L : List (List Nat × Spn)) (t : Tab) (e : List Nat × Spn) : evStep b p (L ++ [e]) t = evStep b p L t ++ (List.range (cntF b p e.2 t + 1)).map fun j => (e.1 ++ [j], preS p e.2 t j) := by
  unfold evStep
  rw [List.flatMap_append]
  simp
theorem step_new {b : Bool} {p : Int} {L : List (List Nat × Spn)} {t : Tab} {j k : Nat} {e : List Nat × Spn} (hn : (L.map (·.1)).Nodup) (he : L[j]? = some e) :
    rowN (e.1 ++ [k]) ∉ (toK (evStep b p (L.take j) t ++ (List.range k).map fun q => (e.1 ++ [q], preS p e.2 t q))).map (·.1) := by
  intro h
  unfold toK at h
  rw [List.map_map] at h
  obtain ⟨u, hu, e1⟩ := List.mem_map.mp h
  have e1 : u.1 = e.1 ++ [k] := rowN_inj e1
  rcases List.mem_append.mp hu with z | z
  · obtain ⟨e2, h2, hu2⟩ := List.mem_flatMap.mp z
    obtain ⟨j2, _, rfl⟩ := List.mem_map.mp hu2
    have e3 := (List.append_inj' e1 rfl).1
    obtain ⟨j3, hj3, hlt⟩ : ∃ j3, L[j3]? = some e2 ∧ j3 < j := by
      obtain ⟨j3, hj3, rfl⟩ := List.getElem_of_mem h2
      rw [List.length_take] at hj3
      exact ⟨j3, by rw [List.getElem_take, List.getElem?_eq_getElem (by omega)], by omega⟩
    have := (List.getElem?_inj (l := L.map (·.1)) (i := j3) (j := j) (by rw [List.length_map]; exact (List.getElem?_eq_some_iff.mp hj3).1) hn).mp (by rw [List.getElem?_map, List.getElem?_map, hj3, he]; exact congrArg some e3)
    omega
  · obtain ⟨q, hq, rfl⟩ := List.mem_map.mp z
    have := List.mem_range.mp hq
    have e3 : e.1 ++ [q] = e.1 ++ [k] := e1
    have := (List.cons.inj (List.append_cancel_left e3)).1
    omega
theorem toK_app (L M : List (List Nat × Spn)) : toK (L ++ M) = toK L ++ toK M := by unfold toK; rw [List.map_append]
theorem rowsX_sub {x : Net} {i : Nat} {ks : List Nat} : (∀ r ∈ rowsX (x.ts.take i) ks, RowOk x.p x.m r) ∧ (rowsX (x.ts.take i) ks).length ≤ 72 := by
  have h : ∀ (ts : List Tab), (∀ t ∈ ts, t ∈ x.ts) → ts.length ≤ 6 → ∀ ks, (∀ r ∈ rowsX ts ks, RowOk x.p x.m r) ∧ (rowsX ts ks).length ≤ ts.length * 12 := by
    intro ts
    induction ts with
    | nil => intro _ _ ks; cases ks <;> exact ⟨fun r hr => (nomatch hr), Nat.le_refl _⟩
    | cons t ts ih =>
      intro h1 h2 ks
      cases ks with
      | nil => unfold rowsX; rw [List.zip_nil_right]; exact ⟨fun r hr => (nomatch hr), Nat.zero_le _⟩
      | cons k ks =>
        obtain ⟨i1, i2⟩ := ih (fun u hu => h1 u (by simp [hu])) (by simp at h2; omega) ks
        have ht := x.tab t (h1 t (by simp))
        have hd := x.db
        have e : rowsX (t :: ts) (k :: ks) = t.take k ++ rowsX ts ks := by unfold rowsX; rw [List.zip_cons_cons, List.flatMap_cons]
        rw [e]
        refine ⟨fun r hr => ?_, ?_⟩
        · rcases List.mem_append.mp hr with z | z
          · exact ht.2 r (List.mem_of_mem_take z)
          · exact i1 r z
        · rw [List.length_append, List.length_take, ht.1, List.length_cons]; omega
  have hs := x.sb
  have hl := x.len
  have := h (x.ts.take i) (fun t ht => List.mem_of_mem_take ht) (by rw [List.length_take]; omega) ks
  refine ⟨this.1, ?_⟩
  have h2 := this.2
  rw [List.length_take] at h2
  omega
theorem ok_spans_by_depths {f f_free_spans_over : Addr} {fd fd_free_spans_over : FuncData} (F : Fun K "spans_by_depths" "spans_by_depths" s_spans_by_depths f fd) (B : Bi K mg) (d_free_spans_over : Df P w K mg base 4 "free_spans_over" f_free_spans_over fd_free_spans_over ["base", "span", "table"] (spA K (fun x : FsI => [.int x.p, spanD x.σ, tabD x.t]) (fun x => Base x.p ∧ x.m ≤ 300 ∧ (∀ r ∈ x.A, RowOk x.p x.m r) ∧ (∀ r ∈ x.t, RowOk x.p x.m r) ∧ (x.A.length ≤ 72 ∧ x.t.length ≤ 12)) (fun x e => e = .list (((List.range (goN x.p x.σ x.t + 1)).map (preS x.p x.σ x.t)).map spanD)))) : FnG P w K mg base CX0 5 f fd ["net", "spans_of_table"] (spAF K (fun _ : Net => f_free_spans_over) Net.D (fun _ => True) (fun x e => e = dixA rowKey (evD true x.p x.ts))) := by
  refine ok_fnAF F sc_spans_by_depths rfl (fun cdv A outer s H E hr hgd => ?_)
  refine ⟨_, (pss_cons (ps_asg (pv 0) (pg_tupK (K := K) (n := 2) rfl (by rfl) (pgs_cons (pg_name (i := 4) sc_spans_by_depths.nd rfl (by first | exact Or.inl rfl | exact Or.inr rfl)) (pgs_cons (pg_name (i := 5) sc_spans_by_depths.nd rfl (by first | exact Or.inl rfl | exact Or.inr rfl)) pgs_nil))))
      (pss_cons (ps_set (i := 2) sc_spans_by_depths.nd rfl (by first | exact Or.inl rfl | exact Or.inr rfl) (pe_none1 hr.units (pe_tup pa_nil) (pe_tup pa_nil)))
      (pss_cons (ps_for PassesOwn.never (by rfl) (pi_seqK (K := K) rfl (pv 5)) (pg_name (i := 3) sc_spans_by_depths.nd rfl (by first | exact Or.inl rfl | exact Or.inr rfl))
      (pss_cons (ps_set (i := 6) sc_spans_by_depths.nd rfl (by first | exact Or.inl rfl | exact Or.inr rfl) pe_nnew)
      (pss_cons (ps_for PassesOwn.never (by rfl) (pi_nitems (pv 2)) (pg_tupK (K := K) (n := 2) rfl (by rfl) (pgs_cons (pg_name (i := 7) sc_spans_by_depths.nd rfl (by first | exact Or.inl rfl | exact Or.inr rfl)) (pgs_cons (pg_name (i := 8) sc_spans_by_depths.nd rfl (by first | exact Or.inl rfl | exact Or.inr rfl)) pgs_nil)))
      (pss_one (ps_for PassesOwn.never (by rfl) (pi_enumUK (K := K) rfl (by rfl) B.z_enumerate (pa_cons (pe_callV (i := 1) d_free_spans_over.ok (hr.mono (by decide)) hgd d_free_spans_over.kp d_free_spans_over.b .nil pass0 rfl (by first | exact Or.inl rfl | exact Or.inr (Or.inl rfl)) (pa_cons (pv 4) (pa_cons (pv 8) (pa_cons (pv 3) pa_nil)))) pa_nil)) (pg_tupK (K := K) (n := 2) rfl (by rfl) (pgs_cons (pg_name (i := 9) sc_spans_by_depths.nd rfl (by first | exact Or.inl rfl | exact Or.inr rfl)) (pgs_cons (pg_name (i := 10) sc_spans_by_depths.nd rfl (by first | exact Or.inl rfl | exact Or.inr rfl)) pgs_nil)))
      (pss_one (ps_nput hr.units (pv 6) (pe_op (op_addUK (K := K) rfl) (pv 7) (pe_tup (pa_cons (pv 9) pa_nil))) (pv 10) rfl)))))
      (pss_one (ps_set (i := 2) sc_spans_by_depths.nd rfl (by first | exact Or.inl rfl | exact Or.inr rfl) (pv 6))))))
      (pss_one (ps_ret (pv 2)))))), ?_⟩
  rintro x -
  have hs := x.sb
  have hd := x.db
  have hlen := x.len
  show WS _ none _ _ [.dat (netD x.p x.ts), .res (fnR f_free_spans_over), .no, .no, .no, .no, .no, .no, .no, .no, .no]
  refine ws_seq (ws_asgG (we_var rfl (wg_two ?_)))
  refine ws_seq (ws_set (we_none1 rowKey (we_tup (wa_nil ⟨szl (by simp), ⟨[], rfl, we_tup (wa_nil ⟨szl (by simp), ?_⟩)⟩⟩))))
  refine ws_seq (ws_for (wj_seq (we_var rfl ⟨_, .inr rfl, ?_⟩)))
  refine ⟨fun i δ => ∃ c3 c6 c7 c8 c9 c10, δ = [.dat (netD x.p x.ts), .res (fnR f_free_spans_over), .dat (dixA rowKey (evD true x.p (x.ts.take i))), c3, .dat (.int x.p), .dat (.tuple (x.ts.map tabD)), c6, c7, c8, c9, c10], ⟨_, _, _, _, _, _, rfl⟩, fun i dd δ' hdd ⟨c3, c6, c7, c8, c9, c10, e⟩ => ?_, fun δ' ⟨c3, c6, c7, c8, c9, c10, e⟩ => ?_⟩
  · subst e
    obtain ⟨t, ht, rfl⟩ := get_map hdd
    have hi : i < x.ts.length := (List.getElem?_eq_some_iff.mp ht).1
    have hto := x.tab t (List.mem_of_getElem? ht)
    have etk : x.ts.take (i + 1) = x.ts.take i ++ [t] := by rw [List.take_add_one, ht]; rfl
    have hts : ∀ u ∈ x.ts.take i, u.length = x.d := fun u hu => (x.tab u (List.mem_of_mem_take hu)).1
    have hevl := evS_len (b := true) (p := x.p) (d := x.d) (x.ts.take i) fun u hu => Nat.le_of_eq (hts u hu)
    rw [List.length_take, Nat.min_eq_left (by omega)] at hevl
    have hp13 := pow13 (d := x.d) (i := i + 1) (by omega) (by omega)
    rw [Nat.pow_succ] at hp13
    have hmul := Nat.mul_le_mul_right (x.d + 1) hevl
    refine wg_name ?_
    refine ws_seq (ws_nnew rowKey ?_)
    refine ws_seq (ws_for (wj_nitems (κ := rowKey) (we_var rfl ⟨_, rfl, ?_⟩)))
    refine ⟨fun j δ => ∃ c7 c8 c9 c10, δ = [.dat (netD x.p x.ts), .res (fnR f_free_spans_over), .dat (dixA rowKey (evD true x.p (x.ts.take i))), .dat (tabD t), .dat (.int x.p), .dat (.tuple (x.ts.map tabD)), .res (dictN rowKey (toK (evStep true x.p ((evS true x.p (x.ts.take i)).take j) t))), c7, c8, c9, c10], ⟨_, _, _, _, rfl⟩, fun j dd δ' hdd ⟨c7, c8, c9, c10, e⟩ => ?_, fun δ' ⟨c7, c8, c9, c10, e⟩ => ?_⟩
    · subst e
      obtain ⟨e0, he0, rfl⟩ := get_map hdd
      obtain ⟨e, he, rfl⟩ : ∃ e, (evS true x.p (x.ts.take i))[j]? = some e ∧ e0 = (rowN e.1, spanD e.2) := by
        unfold evD toK at he0
        rw [List.getElem?_map] at he0
        obtain ⟨e, h1, h2⟩ := Option.map_eq_some_iff.mp he0
        exact ⟨e, h1, h2.symm⟩
      obtain ⟨a1, a2, a3⟩ := evS_at (b := true) (x.ts.take i) hts e (List.mem_of_getElem? he)
      have hj : j < (evS true x.p (x.ts.take i)).length := (List.getElem?_eq_some_iff.mp he).1
      have hsub := rowsX_sub (x := x) (i := i) (ks := e.1)
      have etj : (evS true x.p (x.ts.take i)).take (j + 1) = (evS true x.p (x.ts.take i)).take j ++ [e] := by rw [List.take_add_one, he]; rfl
      have hlj := step_len (b := true) (p := x.p) (t := t) (d := x.d) (Nat.le_of_eq hto.1) ((evS true x.p (x.ts.take i)).take (j + 1))
      have hlj2 : ((evS true x.p (x.ts.take i)).take (j + 1)).length * (x.d + 1) ≤ (evS true x.p (x.ts.take i)).length * (x.d + 1) := Nat.mul_le_mul_right _ (by rw [List.length_take]; omega)
      rw [etj, step_snoc, List.length_append, List.length_map, List.length_range] at hlj
      rw [etj] at hlj2
      dsimp only
      refine wg_two (d := rowD (rowN e.1)) (e := spanD e.2) ?_
      refine ws_for (wj_enum (wa_cons (we_callV rfl (we_callA ?_))))
      (repeat' walk_at "dl")
      refine ⟨⟨x.p, x.m, rowsX (x.ts.take i) e.1, t⟩, by rw [a2]; rfl, ⟨x.ok.1, by have := x.mb; dsimp only; omega, hsub.1, hto.2, ⟨hsub.2, by dsimp only; rw [hto.1]; omega⟩⟩, fun d hd => ?_⟩
      rw [show d = _ from hd]
      dsimp only
      have esp : FsI.σ ⟨x.p, x.m, rowsX (x.ts.take i) e.1, t⟩ = e.2 := a2.symm
      rw [esp]
      refine wa_nil ⟨_, _, rfl, .inl rfl, ?_⟩
      refine ⟨fun k δ => ∃ c9 c10, δ = [.dat (netD x.p x.ts), .res (fnR f_free_spans_over), .dat (dixA rowKey (evD true x.p (x.ts.take i))), .dat (tabD t), .dat (.int x.p), .dat (.tuple (x.ts.map tabD)), .res (dictN rowKey (toK (evStep true x.p ((evS true x.p (x.ts.take i)).take j) t ++ (List.range k).map fun q => (e.1 ++ [q], preS x.p e.2 t q)))), .dat (rowD (rowN e.1)), .dat (spanD e.2), c9, c10], ⟨c9, c10, by rw [List.range_zero, List.map_nil, List.append_nil]; rfl⟩, fun k dd δ' hdd ⟨c9, c10, ec⟩ => ?_, fun δ' ⟨c9, c10, ec⟩ => ?_⟩
      · subst ec
        obtain ⟨d, hd2, rfl⟩ := enumD_inv hdd
        obtain ⟨σ, hσ, rfl⟩ := get_map hd2
        rw [List.getElem?_map] at hσ
        obtain ⟨q, hq, rfl⟩ := Option.map_eq_some_iff.mp hσ
        have hk : k < cntF true x.p e.2 t + 1 := by have := (List.getElem?_eq_some_iff.mp hq).1; rw [List.length_range] at this; exact this
        rw [List.getElem?_range (by exact hk)] at hq
        cases hq
        refine wg_two ?_
        refine ws_nput (κ := rowKey) rfl (szlt ?_) (we_var rfl (we_op (we_var rfl (we_tup1 (we_var rfl (ow_addT (ds := (rowN e.1).map .int) (es := [.int (k : Nat)]) (szl ?_) ⟨rowN (e.1 ++ [k]), ?_, ?_⟩))))))
        · unfold toK
          rw [List.length_map, List.length_append, List.length_map, List.length_range]
          omega
        · have : e.1.length ≤ 6 := by rw [a1, List.length_take]; omega
          simp [rowN]; omega
        · show PyData.tuple _ = rowD _
          unfold rowD rowN
          simp only [List.map_append, List.map_cons, List.map_nil]
        · rw [putA_new (step_new (evS_keys true x.p (x.ts.take i)) he)]
          refine ⟨.dat (.int (k : Nat)), .dat (spanD (preS x.p e.2 t k)), ?_⟩
          have et : toK (evStep true x.p ((evS true x.p (x.ts.take i)).take j) t ++ (List.range (k + 1)).map fun q => (e.1 ++ [q], preS x.p e.2 t q)) = toK (evStep true x.p ((evS true x.p (x.ts.take i)).take j) t ++ (List.range k).map fun q => (e.1 ++ [q], preS x.p e.2 t q)) ++ [(rowN (e.1 ++ [k]), spanD (preS x.p e.2 t k))] := by
            rw [List.range_succ, List.map_append, ← List.append_assoc, toK_app]; rfl
          rw [et]
          rfl
      · subst ec
        rw [enumD_len, List.length_map, List.length_map, List.length_range]
        rw [etj, step_snoc]
        exact ⟨_, _, _, _, rfl⟩
    · subst e
      have el : (evS true x.p (x.ts.take i)).take ((evD true x.p (x.ts.take i)).map fun e => PyData.tuple [rowKey.enc e.1, e.2]).length = evS true x.p (x.ts.take i) := by
        unfold evD toK
        rw [List.length_map, List.length_map, List.take_length]
      rw [el]
      refine ws_meltD 6 rfl ?_
      refine ws_set (we_var rfl ?_)
      have et : evD true x.p (x.ts.take i ++ [t]) = toK (evStep true x.p (evS true x.p (x.ts.take i)) t) := by unfold evD; rw [evS_snoc]
      dsimp only
      rw [etk, et]
      exact ⟨_, _, _, _, _, _, rfl⟩
  · subst e
    rw [List.length_map, List.take_length]
    exact ws_ret (we_var rfl rfl)
end

end Lw

namespace Lw
open PySem PySem.Spec PyProof.Rows L2 DlP Dl
local macro_rules | `(tactic| walk_at "dl") => `(tactic| first
  | with_reducible refine cw_lenRow ?_
  | with_reducible refine cw_lenTab ?_
  | with_reducible refine ow_net0 ?_
  | with_reducible refine ow_net1 ?_
  | with_reducible refine ow_tabs0 ?_
  | with_reducible refine ow_tab0 ?_
  | with_reducible refine ex_seqRow ?_
  | with_reducible refine ex_seqTab ?_
  | ((with_reducible refine ow_rep0 ?hk ?_); (case hk => (constructor <;> omega)))
  | with_reducible refine wg_three ?_
  | with_reducible refine cw_sumU ?_
  | with_reducible refine cw_sumT ?_
  | with_reducible refine ws_setNil ?_
  | with_reducible refine ow_eqUB ?_
  | with_reducible refine ow_neUB ?_
  | with_reducible refine ow_neUS ?_
  | with_reducible refine ow_eqUS ?_
  | with_reducible refine ws_next ?_
  | with_reducible refine ws_seq ?_
  | with_reducible refine ws_if ?_
  | with_reducible refine wt_not ?_
  | with_reducible refine wt_and ?_
  | with_reducible refine wt_or ?_
  | with_reducible refine wt_chainI ?_
  | with_reducible refine wt_test ?_
  | with_reducible refine wt_B ?_
  | with_reducible refine ws_ret ?_
  | with_reducible refine ws_cont ?_
  | with_reducible refine ws_break ?_
  | with_reducible refine wa_cons ?_
  | with_reducible refine wa_nil ?_
  | ((with_reducible refine we_var (d := ?dd) ?hv ?_); (case hv => exact rfl))
  | with_reducible refine we_int ?_
  | with_reducible refine we_bl ?_
  | with_reducible refine we_non ?_
  | with_reducible refine we_str ?_
  | with_reducible refine we_negI ?_
  | ((with_reducible refine we_spr ?hv ?hw (fun z => ?_)); (case hv => exact rfl); (case hw => decide))
  | ((with_reducible refine ws_spr ?hv ?hw ?_); (case hv => exact rfl); (case hw => decide))
  | with_reducible refine ws_set ?_
  | with_reducible refine ws_asgG ?_
  | with_reducible refine wg_two ?_
  | with_reducible refine wg_name ?_
  | with_reducible refine we_andV ?_
  | with_reducible refine we_orV ?_
  | with_reducible refine we_notV ?_
  | with_reducible refine we_if ?_
  | with_reducible refine we_chainI ?_
  | with_reducible refine we_isN ?_
  | with_reducible refine we_notN ?_
  | with_reducible refine we_repL ?_
  | with_reducible refine we_catLc ?_
  | with_reducible refine we_catLst ?_
  | with_reducible refine we_listof ?_
  | with_reducible refine we_op ?_
  | with_reducible refine we_isInt ?_
  | with_reducible refine we_isBool ?_
  | with_reducible refine we_isTup ?_
  | ((with_reducible refine we_nlen (κ := tabKey) ?hv ?_); (case hv => exact rfl))
  | ((with_reducible refine we_nlen (κ := rowKey) ?hv ?_); (case hv => exact rfl))
  | with_reducible refine we_cb ?_
  | with_reducible refine we_lst ?_
  | with_reducible refine we_dict0 ?_
  | with_reducible refine we_disp1 ?_
  | with_reducible refine we_tup2 ?_
  | with_reducible refine we_tup1 ?_
  | with_reducible refine we_tup ?_
  | with_reducible refine ow_addI ?_
  | with_reducible refine ow_I0b ?_
  | with_reducible refine ow_eqUI ?_
  | with_reducible refine ow_neUI ?_
  | ((with_reducible refine ow_mulI ?hc ?_); (case hc => first | exact cmul_right (by decide) | exact cmul_left (by decide) | exact cmul_right (by omega) | exact cmul_left (by omega)))
  | ((with_reducible refine ow_modN ?hc ?_); (case hc => omega))
  | ((with_reducible refine ow_fdivL ?hc ?_); (case hc => (exact cdivL (by omega) (by omega))))
  | ((with_reducible refine ow_pow ?hc ?_); (case hc => exact ⟨by decide, by decide, by decide⟩))
  | with_reducible refine ow_I0i ?_
  | with_reducible refine cw_int ?_
  | with_reducible refine cw_intB ?_
  | with_reducible refine cw_abs ?_
  | with_reducible refine cw_max2U ?_
  | with_reducible refine cw_min2U ?_
  | with_reducible refine cw_allT ?_
  | with_reducible refine cw_tupleL ?_
  | with_reducible refine cw_tupleT ?_
  | with_reducible refine cw_lenL ?_
  | with_reducible refine cw_lenT ?_
  | with_reducible refine cw_lenScr ?_
  | with_reducible refine ex_int ?_
  | with_reducible refine ex_listT ?_
  | ((with_reducible refine and_sz ?hz ?_); (case hz => (simp; done)))
  | with_reducible refine ex_two ?_
  | with_reducible refine ex_bool ?_
  | with_reducible refine ex_list ?_
  | with_reducible refine ex_tuple ?_
  | with_reducible refine ex_seqL ?_
  | with_reducible refine ex_seqT ?_
  | with_reducible refine and_cases (fun hb => ?_) (fun hb => ?_)
  | with_reducible refine or_cases (fun hb => ?_) (fun hb => ?_))

section
variable {P : Program} {w : World} {K : Fg} {mg : Str → Option Value} {base : Heap}
/-! even depths; the least that are not; strength, loss -/
def keysE (x : Net) : List (List Nat) := (evS true x.p x.ts).map (·.1)
theorem keysE_row (x : Net) : (evD true x.p x.ts).map (·.1) = (keysE x).map rowN := by unfold evD toK keysE; rw [List.map_map, List.map_map]; rfl
theorem keysE_in (x : Net) (l : List Nat) : (valA (evD true x.p x.ts) (rowN l)).isSome = decide (l ∈ keysE x) := by
  rw [valA_some, keysE_row]
  refine decide_eq_decide.mpr ⟨fun h => ?_, fun h => List.mem_map.mpr ⟨l, h, rfl⟩⟩
  obtain ⟨q, hq, e⟩ := List.mem_map.mp h
  rw [← rowN_inj e]; exact hq
theorem keysE_iff (x : Net) (ks : List Nat) : ks ∈ keysE x ↔ ks.length = x.s ∧ (∀ k ∈ ks, k ≤ x.d) ∧ rkW x ks = ks.sum := by
  have h := ev_free (p := x.p) (d := x.d) x.ts (fun t ht => (x.tab t ht).1) ks
  unfold keysE
  rw [h, x.len]
  constructor
  · rintro ⟨a, b, c⟩
    refine ⟨a, b, ?_⟩
    rw [← c]; exact (span_rank x.ok.1 rowsW_ok).symm
  · rintro ⟨a, b, c⟩
    refine ⟨a, b, ?_⟩
    rw [← c]; exact span_rank x.ok.1 rowsW_ok
theorem even_zero {x : Net} {ks : List Nat} (h0 : ks.sum = 0) : rkW x ks = ks.sum := by
  have h1 := (rkW_le x ks).2
  have key : ∀ (ts : List Tab) (ks : List Nat), ks.sum = 0 → rowsW ts ks = [] := by
    intro ts
    induction ts with
    | nil => intro ks _; cases ks <;> rfl
    | cons t ts ih =>
      intro ks h
      cases ks with
      | nil => unfold rowsW; rw [List.zip_nil_right]; rfl
      | cons k ks =>
        rw [List.sum_cons] at h
        have := ih ks (by omega)
        unfold rowsW at this ⊢
        rw [List.zip_cons_cons, List.flatMap_cons, this, show k = 0 by omega]
        rfl
  rw [key x.ts ks h0] at h1
  simp at h1
  omega
theorem ok_even_depths {f f_spans_by_depths f_free_spans_over : Addr} {fd fd_spans_by_depths fd_free_spans_over : FuncData} (F : Fun K "even_depths" "even_depths" s_even_depths f fd) (B : Bi K mg) (d_spans_by_depths : Df P w K mg base 5 "spans_by_depths" f_spans_by_depths fd_spans_by_depths ["net", "spans_of_table"] (spAF K (fun _ : Net => f_free_spans_over) Net.D (fun _ => True) (fun x e => e = dixA rowKey (evD true x.p x.ts)))) (d_free_spans_over : Df P w K mg base 4 "free_spans_over" f_free_spans_over fd_free_spans_over ["base", "span", "table"] (spA K (fun x : FsI => [.int x.p, spanD x.σ, tabD x.t]) (fun x => Base x.p ∧ x.m ≤ 300 ∧ (∀ r ∈ x.A, RowOk x.p x.m r) ∧ (∀ r ∈ x.t, RowOk x.p x.m r) ∧ (x.A.length ≤ 72 ∧ x.t.length ≤ 12)) (fun x e => e = .list (((List.range (goN x.p x.σ x.t + 1)).map (preS x.p x.σ x.t)).map spanD)))) : FnG P w K mg base CX0 6 f fd ["net"] (spA K (fun x : Net => [x.D]) (fun _ => True) (fun x e => e = dixA rowKey (evD true x.p x.ts))) := by
  refine ok_fnA F sc_even_depths (fun _ => rfl) (fun cdv A outer s H E hr hgd => ?_)
  refine ⟨_, (pss_one (ps_ret (pe_callG d_spans_by_depths.ok (hr.mono (by decide)) hgd (by rfl) d_spans_by_depths.g d_spans_by_depths.kp d_spans_by_depths.b .nil pass0 (pa_cons (pv 0) (pa_cons (pe_glob (v := .ref f_free_spans_over) (by rfl) d_free_spans_over.g rfl) pa_nil))))), ?_⟩
  rintro x -
  show WS _ none _ _ [.dat x.D]
  exact ws_ret (we_callAF (we_var rfl ⟨x, rfl, rfl, trivial, fun d hd => hd⟩))
def optK : Option (List Nat) → D | none => .none | some q => rowD (rowN q)
def unevN (x : Net) : Option (List Nat) := leastK (unevenL x.d (keysE x))
theorem unevN_is (x : Net) : match unevN x with
    | none => ∀ ks : List Nat, ks.length = x.s → (∀ k ∈ ks, k ≤ x.d) → rkW x ks = ks.sum
    | some q => (q.length = x.s ∧ (∀ k ∈ q, k ≤ x.d) ∧ ¬ rkW x q = q.sum) ∧ ∀ ks : List Nat, ks.length = x.s → (∀ k ∈ ks, k ≤ x.d) → ¬ rkW x ks = ks.sum → q.sum ≤ ks.sum :=
  uneven_least (even := fun ks => rkW x ks = ks.sum) (keysE_iff x) fun ks h _ => even_zero h
def seenK (x : Net) (i : Nat) : List (List Nat) := (((keysE x).take i).flatMap (deepK x.d)).filter fun l => !decide (l ∈ keysE x)
/-- the greatest size up to all rows all depths of which are even -/
def strN (x : Net) : Nat := match unevN x with | none => x.s * x.d | some q => q.sum - 1
theorem unev_pos {x : Net} {q : List Nat} (h : unevN x = some q) : 1 ≤ q.sum := by
  have := unevN_is x
  rw [h] at this
  rcases Nat.eq_zero_or_pos q.sum with z | z
  · exact absurd (even_zero z) this.1.2.2
  · exact z
theorem strN_is (x : Net) : strN x ≤ x.m ∧ strN x ≤ x.s * x.d ∧ (∀ ks : List Nat, ks.length = x.s → (∀ k ∈ ks, k ≤ x.d) → ks.sum ≤ strN x → rkW x ks = ks.sum) ∧
    (strN x < x.m → strN x < x.s * x.d → ∃ ks : List Nat, ks.length = x.s ∧ (∀ k ∈ ks, k ≤ x.d) ∧ ks.sum = strN x + 1 ∧ ¬ rkW x ks = ks.sum) := by
  have hu := unevN_is x
  unfold strN
  cases h : unevN x with
  | none =>
    rw [h] at hu
    dsimp only at hu ⊢
    have hfull := hu (List.replicate x.s x.d) (by simp) fun k hk => by rw [List.eq_of_mem_replicate hk]; omega
    have hr := (rkW_le x (List.replicate x.s x.d)).1
    rw [List.sum_replicate_nat] at hfull
    exact ⟨by omega, Nat.le_refl _, fun ks a b _ => hu ks a b, fun _ z => absurd z (by omega)⟩
  | some q =>
    rw [h] at hu
    obtain ⟨⟨h1, h2, h3⟩, h4⟩ := hu
    have hq := unev_pos h
    dsimp only
    have hb : ∃ l : List Nat, l.length = x.s ∧ (∀ k ∈ l, k ≤ x.d) ∧ q.sum = l.sum + 1 := by
      obtain ⟨l, _, a, b, c⟩ := deep_back h2 (by omega)
      exact ⟨l, by omega, b, c⟩
    obtain ⟨l, l1, l2, l3⟩ := hb
    have hle : rkW x l = l.sum := Decidable.byContradiction fun z => by have := h4 l l1 l2 z; omega
    have hr := (rkW_le x l).1
    have hsum := rowsW_sum h1 h2
    have hqle : q.sum ≤ x.s * x.d := by
      have key : ∀ (l : List Nat), (∀ k ∈ l, k ≤ x.d) → l.sum ≤ l.length * x.d := by
        intro l
        induction l with
        | nil => intro _; simp
        | cons a l ih => intro h; have := ih fun k hk => h k (by simp [hk]); have := h a (by simp); rw [List.sum_cons, List.length_cons, Nat.succ_mul]; omega
      have := key q h2
      rw [h1] at this
      exact this
    refine ⟨by omega, by omega, fun ks a b c => Decidable.byContradiction fun z => by have := h4 ks a b z; omega, fun _ _ => ⟨q, h1, h2, by omega, h3⟩⟩
end

end Lw

namespace Lw
open PySem PySem.Spec PyProof.Rows L2 DlP Dl
local macro_rules | `(tactic| walk_at "dl") => `(tactic| first
  | with_reducible refine cw_lenRow ?_
  | with_reducible refine cw_lenTab ?_
  | with_reducible refine ow_net0 ?_
  | with_reducible refine ow_net1 ?_
  | with_reducible refine ow_tabs0 ?_
  | with_reducible refine ow_tab0 ?_
  | with_reducible refine ex_seqRow ?_
  | with_reducible refine ex_seqTab ?_
  | ((with_reducible refine ow_rep0 ?hk ?_); (case hk => (constructor <;> omega)))
  | with_reducible refine wg_three ?_
  | with_reducible refine cw_sumU ?_
  | with_reducible refine cw_sumT ?_
  | with_reducible refine ws_setNil ?_
  | with_reducible refine ow_eqUB ?_
  | with_reducible refine ow_neUB ?_
  | with_reducible refine ow_neUS ?_
  | with_reducible refine ow_eqUS ?_
  | with_reducible refine ws_next ?_
  | with_reducible refine ws_seq ?_
  | with_reducible refine ws_if ?_
  | with_reducible refine wt_not ?_
  | with_reducible refine wt_and ?_
  | with_reducible refine wt_or ?_
  | with_reducible refine wt_chainI ?_
  | with_reducible refine wt_test ?_
  | with_reducible refine wt_B ?_
  | with_reducible refine ws_ret ?_
  | with_reducible refine ws_cont ?_
  | with_reducible refine ws_break ?_
  | with_reducible refine wa_cons ?_
  | with_reducible refine wa_nil ?_
  | ((with_reducible refine we_var (d := ?dd) ?hv ?_); (case hv => exact rfl))
  | with_reducible refine we_int ?_
  | with_reducible refine we_bl ?_
  | with_reducible refine we_non ?_
  | with_reducible refine we_str ?_
  | with_reducible refine we_negI ?_
  | ((with_reducible refine we_spr ?hv ?hw (fun z => ?_)); (case hv => exact rfl); (case hw => decide))
  | ((with_reducible refine ws_spr ?hv ?hw ?_); (case hv => exact rfl); (case hw => decide))
  | with_reducible refine ws_set ?_
  | with_reducible refine ws_asgG ?_
  | with_reducible refine wg_two ?_
  | with_reducible refine wg_name ?_
  | with_reducible refine we_andV ?_
  | with_reducible refine we_orV ?_
  | with_reducible refine we_notV ?_
  | with_reducible refine we_if ?_
  | with_reducible refine we_chainI ?_
  | with_reducible refine we_isN ?_
  | with_reducible refine we_notN ?_
  | with_reducible refine we_repL ?_
  | with_reducible refine we_catLc ?_
  | with_reducible refine we_catLst ?_
  | with_reducible refine we_listof ?_
  | with_reducible refine we_op ?_
  | with_reducible refine we_isInt ?_
  | with_reducible refine we_isBool ?_
  | with_reducible refine we_isTup ?_
  | ((with_reducible refine we_nlen (κ := tabKey) ?hv ?_); (case hv => exact rfl))
  | ((with_reducible refine we_nlen (κ := rowKey) ?hv ?_); (case hv => exact rfl))
  | with_reducible refine we_cb ?_
  | with_reducible refine we_lst ?_
  | with_reducible refine we_dict0 ?_
  | with_reducible refine we_disp1 ?_
  | with_reducible refine we_tup2 ?_
  | with_reducible refine we_tup1 ?_
  | with_reducible refine we_tup ?_
  | with_reducible refine ow_addI ?_
  | with_reducible refine ow_I0b ?_
  | with_reducible refine ow_eqUI ?_
  | with_reducible refine ow_neUI ?_
  | ((with_reducible refine ow_mulI ?hc ?_); (case hc => first | exact cmul_right (by decide) | exact cmul_left (by decide) | exact cmul_right (by omega) | exact cmul_left (by omega)))
  | ((with_reducible refine ow_modN ?hc ?_); (case hc => omega))
  | ((with_reducible refine ow_fdivL ?hc ?_); (case hc => (exact cdivL (by omega) (by omega))))
  | ((with_reducible refine ow_pow ?hc ?_); (case hc => exact ⟨by decide, by decide, by decide⟩))
  | with_reducible refine ow_I0i ?_
  | with_reducible refine cw_int ?_
  | with_reducible refine cw_intB ?_
  | with_reducible refine cw_abs ?_
  | with_reducible refine cw_max2U ?_
  | with_reducible refine cw_min2U ?_
  | with_reducible refine cw_allT ?_
  | with_reducible refine cw_tupleL ?_
  | with_reducible refine cw_tupleT ?_
  | with_reducible refine cw_lenL ?_
  | with_reducible refine cw_lenT ?_
  | with_reducible refine cw_lenScr ?_
  | with_reducible refine ex_int ?_
  | with_reducible refine ex_listT ?_
  | ((with_reducible refine and_sz ?hz ?_); (case hz => (simp; done)))
  | with_reducible refine ex_two ?_
  | with_reducible refine ex_bool ?_
  | with_reducible refine ex_list ?_
  | with_reducible refine ex_tuple ?_
  | with_reducible refine ex_seqL ?_
  | with_reducible refine ex_seqT ?_
  | with_reducible refine and_cases (fun hb => ?_) (fun hb => ?_)
  | with_reducible refine or_cases (fun hb => ?_) (fun hb => ?_))

section
variable {P : Program} {w : World} {K : Fg} {mg : Str → Option Value} {base : Heap}
/-! the law's own strength -/
theorem strN_from {x : Net} {f : Nat} (h1 : f ≤ x.m ∧ f ≤ x.s * x.d) (h2 : ∀ ks : List Nat, ks.length = x.s → (∀ k ∈ ks, k ≤ x.d) → ks.sum ≤ f → rkW x ks = ks.sum)
    (h3 : f < x.m → f < x.s * x.d → ∃ ks : List Nat, ks.length = x.s ∧ (∀ k ∈ ks, k ≤ x.d) ∧ ks.sum = f + 1 ∧ ¬ rkW x ks = ks.sum) : strN x = f := by
  obtain ⟨a, b, c, d⟩ := strN_is x
  rcases Nat.lt_trichotomy (strN x) f with z | z | z
  · obtain ⟨ks, k1, k2, k3, k4⟩ := d (by omega) (by omega)
    exact absurd (h2 ks k1 k2 (by omega)) k4
  · exact z
  · obtain ⟨ks, k1, k2, k3, k4⟩ := h3 (by omega) (by omega)
    exact absurd (c ks k1 k2 (by omega)) k4
theorem shaped_rowsT (t : Tab) : SeqAt.shaped (.list (t.map rowD)) = true := by
  unfold SeqAt.shaped
  simp only [PyData.canLay0, PyData.depth]
  have h1 : PyData.canLayAll0 (t.map rowD) = true := lay_all2 fun d hd => by
    obtain ⟨r, _, rfl⟩ := List.mem_map.mp hd
    unfold rowD; simp only [PyData.canLay0]; exact lay_ints r
  have h2 : PyData.depthAll (t.map rowD) ≤ 1 := depthAll_of fun d hd => by
    obtain ⟨r, _, rfl⟩ := List.mem_map.mp hd
    unfold rowD
    simp only [PyData.depth]
    have : PyData.depthAll (r.map PyData.int) ≤ 0 := depthAll_of fun d hd => by obtain ⟨x, _, rfl⟩ := List.mem_map.mp hd; simp only [PyData.depth]; omega
    omega
  rw [h1, Bool.true_and]
  exact decide_eq_true (by omega)
theorem shaped_rowsN (l : List (List Nat)) : SeqAt.shaped (.list (l.map fun ks => rowD (rowN ks))) = true := by
  have := shaped_rowsT (l.map rowN)
  rw [List.map_map] at this
  exact this
def badK (x : Net) (k : Nat) : List (List Nat) := (allSides x.d x.s).filter fun ks => decide (ks.sum = k) && !decide (rkW x ks = ks.sum)
theorem allSides_in (d : Nat) : ∀ (s : Nat) (ks : List Nat), ks.length = s → (∀ k ∈ ks, k ≤ d) → ks ∈ allSides d s
  | 0, ks, h, _ => by rw [List.length_eq_zero_iff.mp h]; exact List.mem_singleton.mpr rfl
  | s + 1, ks, h, hk => by
    obtain ⟨q, k, rfl, hq⟩ := row_last h
    exact List.mem_flatMap.mpr ⟨q, allSides_in d s q hq fun u hu => hk u (by simp [hu]), List.mem_map.mpr ⟨k, List.mem_range.mpr (by have := hk k (by simp); omega), rfl⟩⟩
theorem badK_nil {x : Net} {k : Nat} : badK x k = [] ↔ ∀ ks : List Nat, ks.length = x.s → (∀ k ∈ ks, k ≤ x.d) → ks.sum = k → rkW x ks = ks.sum := by
  unfold badK
  rw [List.filter_eq_nil_iff]
  constructor
  · intro h ks h1 h2 h3
    have := h ks (allSides_in x.d x.s ks h1 h2)
    rw [decide_eq_true h3, Bool.true_and] at this
    simpa using this
  · intro h ks hks
    obtain ⟨h1, h2⟩ := allSides_ok x.d x.s ks hks
    simp only [Bool.and_eq_true, decide_eq_true_eq, Bool.not_eq_true', decide_eq_false_iff_not, not_and, Classical.not_not]
    exact fun h3 => h ks h1 h2 h3
end

end Lw

namespace Lw
open PySem PySem.Spec PyProof.Rows L2 DlP Dl
local macro_rules | `(tactic| walk_at "dl") => `(tactic| first
  | with_reducible refine cw_lenRow ?_
  | with_reducible refine cw_lenTab ?_
  | with_reducible refine ow_net0 ?_
  | with_reducible refine ow_net1 ?_
  | with_reducible refine ow_tabs0 ?_
  | with_reducible refine ow_tab0 ?_
  | with_reducible refine ex_seqRow ?_
  | with_reducible refine ex_seqTab ?_
  | ((with_reducible refine ow_rep0 ?hk ?_); (case hk => (constructor <;> omega)))
  | with_reducible refine wg_three ?_
  | with_reducible refine cw_sumU ?_
  | with_reducible refine cw_sumT ?_
  | with_reducible refine ws_setNil ?_
  | with_reducible refine ow_eqUB ?_
  | with_reducible refine ow_neUB ?_
  | with_reducible refine ow_neUS ?_
  | with_reducible refine ow_eqUS ?_
  | with_reducible refine ws_next ?_
  | with_reducible refine ws_seq ?_
  | with_reducible refine ws_if ?_
  | with_reducible refine wt_not ?_
  | with_reducible refine wt_and ?_
  | with_reducible refine wt_or ?_
  | with_reducible refine wt_chainI ?_
  | with_reducible refine wt_test ?_
  | with_reducible refine wt_B ?_
  | with_reducible refine ws_ret ?_
  | with_reducible refine ws_cont ?_
  | with_reducible refine ws_break ?_
  | with_reducible refine wa_cons ?_
  | with_reducible refine wa_nil ?_
  | ((with_reducible refine we_var (d := ?dd) ?hv ?_); (case hv => exact rfl))
  | with_reducible refine we_int ?_
  | with_reducible refine we_bl ?_
  | with_reducible refine we_non ?_
  | with_reducible refine we_str ?_
  | with_reducible refine we_negI ?_
  | ((with_reducible refine we_spr ?hv ?hw (fun z => ?_)); (case hv => exact rfl); (case hw => decide))
  | ((with_reducible refine ws_spr ?hv ?hw ?_); (case hv => exact rfl); (case hw => decide))
  | with_reducible refine ws_set ?_
  | with_reducible refine ws_asgG ?_
  | with_reducible refine wg_two ?_
  | with_reducible refine wg_name ?_
  | with_reducible refine we_andV ?_
  | with_reducible refine we_orV ?_
  | with_reducible refine we_notV ?_
  | with_reducible refine we_if ?_
  | with_reducible refine we_chainI ?_
  | with_reducible refine we_isN ?_
  | with_reducible refine we_notN ?_
  | with_reducible refine we_repL ?_
  | with_reducible refine we_catLc ?_
  | with_reducible refine we_catLst ?_
  | with_reducible refine we_listof ?_
  | with_reducible refine we_op ?_
  | with_reducible refine we_isInt ?_
  | with_reducible refine we_isBool ?_
  | with_reducible refine we_isTup ?_
  | ((with_reducible refine we_nlen (κ := tabKey) ?hv ?_); (case hv => exact rfl))
  | ((with_reducible refine we_nlen (κ := rowKey) ?hv ?_); (case hv => exact rfl))
  | with_reducible refine we_cb ?_
  | with_reducible refine we_lst ?_
  | with_reducible refine we_dict0 ?_
  | with_reducible refine we_disp1 ?_
  | with_reducible refine we_tup2 ?_
  | with_reducible refine we_tup1 ?_
  | with_reducible refine we_tup ?_
  | with_reducible refine ow_addI ?_
  | with_reducible refine ow_I0b ?_
  | with_reducible refine ow_eqUI ?_
  | with_reducible refine ow_neUI ?_
  | ((with_reducible refine ow_mulI ?hc ?_); (case hc => first | exact cmul_right (by decide) | exact cmul_left (by decide) | exact cmul_right (by omega) | exact cmul_left (by omega)))
  | ((with_reducible refine ow_modN ?hc ?_); (case hc => omega))
  | ((with_reducible refine ow_fdivL ?hc ?_); (case hc => (exact cdivL (by omega) (by omega))))
  | ((with_reducible refine ow_pow ?hc ?_); (case hc => exact ⟨by decide, by decide, by decide⟩))
  | with_reducible refine ow_I0i ?_
  | with_reducible refine cw_int ?_
  | with_reducible refine cw_intB ?_
  | with_reducible refine cw_abs ?_
  | with_reducible refine cw_max2U ?_
  | with_reducible refine cw_min2U ?_
  | with_reducible refine cw_allT ?_
  | with_reducible refine cw_tupleL ?_
  | with_reducible refine cw_tupleT ?_
  | with_reducible refine cw_lenL ?_
  | with_reducible refine cw_lenT ?_
  | with_reducible refine cw_lenScr ?_
  | with_reducible refine ex_int ?_
  | with_reducible refine ex_listT ?_
  | ((with_reducible refine and_sz ?hz ?_); (case hz => (simp; done)))
  | with_reducible refine ex_two ?_
  | with_reducible refine ex_bool ?_
  | with_reducible refine ex_list ?_
  | with_reducible refine ex_tuple ?_
  | with_reducible refine ex_seqL ?_
  | with_reducible refine ex_seqT ?_
  | with_reducible refine and_cases (fun hb => ?_) (fun hb => ?_)
  | with_reducible refine or_cases (fun hb => ?_) (fun hb => ?_))

section
variable {P : Program} {w : World} {K : Fg} {mg : Str → Option Value} {base : Heap}

theorem sides_eq (d : Nat) : ∀ s, allSides d s = sidesX d s
  | 0 => rfl
  | s + 1 => by unfold allSides sidesX; rw [sides_eq d s]
theorem keysE_all (x : Net) : keysE x = (allSides x.d x.s).filter fun ks => decide (rkW x ks = ks.sum) := by
  have h := ev_order (p := x.p) (d := x.d) x.ts fun t ht => (x.tab t ht).1
  unfold keysE
  rw [h, x.len, sides_eq]
  refine List.filter_congr fun ks _ => ?_
  have e : (spanF x.p (rowsX x.ts ks)).length = rkW x ks := span_rank x.ok.1 rowsW_ok
  rw [e]
def topsK (x : Net) : List (List Nat) := (keysE x).filter fun ks => !((deepK x.d ks).any fun l => decide (l ∈ keysE x))
theorem topsK_is (x : Net) : topsK x = (keysE x).filter fun ks => decide (((keysE x).filter (withinB ks)).length = 1) := by
  unfold topsK
  refine List.filter_congr fun ks hks => ?_
  have h := top_iff (p := x.p) (d := x.d) (m := x.m) (ts := x.ts) x.ok.1 (fun t ht => (x.tab t ht).1) (fun ls r hr => rowsW_ok r hr) (fun ls h1 h2 => rowsW_sum (by rw [h1, x.len]) h2) hks
  rw [Bool.eq_iff_iff, decide_eq_true_iff]
  refine Iff.trans ?_ h
  rw [Bool.not_eq_true', ← Bool.not_eq_true, List.any_eq_true]
  constructor
  · intro z l hl hin
    exact z ⟨l, hl, decide_eq_true hin⟩
  · rintro z ⟨l, hl, hin⟩
    exact z l hl (of_decide_eq_true hin)
theorem ok_even_tops {f f_check_net f_even_depths f_deeper_ones : Addr} {fd fd_check_net fd_even_depths fd_deeper_ones : FuncData} (F : Fun K "even_tops" "even_tops" s_even_tops f fd) (B : Bi K mg) (d_check_net : Df P w K mg base 8 "check_net" f_check_net fd_check_net ["net"] (spA K (fun x : Net => [x.D]) (fun _ => True) (fun _ _ => True))) (d_even_depths : Df P w K mg base 6 "even_depths" f_even_depths fd_even_depths ["net"] (spA K (fun x : Net => [x.D]) (fun _ => True) (fun x e => e = dixA rowKey (evD true x.p x.ts)))) (d_deeper_ones : Df P w K mg base 2 "deeper_ones" f_deeper_ones fd_deeper_ones ["net", "depths"] (spA K NK.A (fun _ => True) (fun y e => e = .list ((deepK y.x.d y.ks).map fun l => rowD (rowN l))))) : FnG P w K mg base CX0 9 f fd ["net"] (spA K (fun x : Net => [x.D]) (fun _ => True) (fun x e => e = tabD ((topsK x).map rowN))) := by
  refine ok_fnA F sc_even_tops (fun _ => rfl) (fun cdv A outer s H E hr hgd => ?_)
  refine ⟨_, (pss_cons (ps_expr (pe_callG d_check_net.ok (hr.mono (by decide)) hgd (by rfl) d_check_net.g d_check_net.kp d_check_net.b .nil pass0 (pa_cons (pv 0) pa_nil)))
      (pss_cons (ps_set (i := 1) sc_even_tops.nd rfl (by first | exact Or.inl rfl | exact Or.inr rfl) (pe_callG d_even_depths.ok (hr.mono (by decide)) hgd (by rfl) d_even_depths.g d_even_depths.kp d_even_depths.b .nil pass0 (pa_cons (pv 0) pa_nil)))
      (pss_one (ps_ret (pe_callTy (call_tuple_ofK (K := K) rfl) (by rfl) B.z_tuple (by decide +kernel) (pa_cons (pe_lc (own := [("depths", 2)]) (g := (gName 2)) (tt := _) (by rfl) sc_even_tops.nd (pi_nkeys (pv 1)) (blkOk_by (own := [("depths", 2)]) (N := ["net", "even", "depths", "deeper"]) (sc := defScope s_even_tops) (by decide +kernel)) (fun _ _ _ _ _ => (pg_name (i := 2) sc_even_tops.nd rfl (by first | exact Or.inl rfl | exact Or.inr rfl))) (fun _ _ _ _ _ => (pts_one (pt_not (pt_val (pe_callB (call_anyVK (K := K) rfl (by rfl)) (by rfl) B.z_any (by decide +kernel) (pa_cons (pe_lc (own := [("deeper", 3)]) (g := (gName 3)) (tt := tYes) (by rfl) sc_even_tops.nd (pi_seqK (K := K) rfl (pe_callG d_deeper_ones.ok (hr.mono (by decide)) hgd (by rfl) d_deeper_ones.g d_deeper_ones.kp d_deeper_ones.b .nil pass0 (pa_cons (pv 0) (pa_cons (pv 2) pa_nil)))) (blkOk_by (own := [("deeper", 3)]) (N := ["net", "even", "depths", "deeper"]) (sc := ({ kind := .function, names := [(".0", .local), ("depths", .local), ("any", .globalImplicit), ("deeper_ones", .globalImplicit), ("even", .cell), ("net", .cell)], isGenerator := false, isCoroutine := false } : Scope)) (by decide +kernel)) (fun _ _ _ _ _ => (pg_name (i := 3) sc_even_tops.nd rfl (by first | exact Or.inl rfl | exact Or.inr rfl))) (fun _ _ _ _ _ => pts_nil) (fun _ _ _ _ _ => (pe_cmpR (op_nin hr.units) (pv 3) (pv 1) (by rfl)))) pa_nil)))))) (fun _ _ _ _ _ => (pv 2))) pa_nil)))))), ?_⟩
  rintro x -
  have hs := x.sb
  have hd := x.db
  show WS _ none _ _ [.dat x.D, .no, .no, .no]
  refine ws_seq (ws_expr ?_); refine we_callA ?_; (repeat' walk_at "dl"); refine ⟨x, rfl, trivial, fun _ _ => ?_⟩
  refine ws_seq (ws_set ?_)
  refine we_callA ?_; (repeat' walk_at "dl"); refine ⟨x, rfl, trivial, fun e he => ?_⟩; rw [show e = _ from he]; (try dsimp only)
  have eK : (evD true x.p x.ts).map (fun e => rowKey.enc e.1) = (keysE x).map fun l => rowD (rowN l) := by unfold evD toK keysE; rw [List.map_map, List.map_map]; rfl
  have hlen : (keysE x).length ≤ 4826809 := by
    have h1 := evS_len (b := true) (p := x.p) (d := x.d) x.ts fun t ht => Nat.le_of_eq (x.tab t ht).1
    have h2 := pow13 (d := x.d) (i := x.ts.length) (by omega) (by rw [x.len]; omega)
    unfold keysE
    rw [List.length_map]; omega
  refine ws_ret (we_cb (wa_cons (we_fresh (wf_filterA (fun ks => rowD (rowN ks)) (fun ks => rowD (rowN ks)) (fun ks => !((deepK x.d ks).any fun l => decide (l ∈ keysE x))) (wj_nkeys (κ := rowKey) (we_var rfl ⟨_, rfl, keysE x, eK, szl (by omega), fun ks hks => ?_, fun a _ b _ e => rowN_inj (rowD_inj e), ?_⟩))))))
  · obtain ⟨k1, k2, k3⟩ := (keysE_iff x ks).mp hks
    refine wgv_name (by simp) ?_
    refine wt_not (wt_test (we_cb (wa_cons (we_fresh (wf_mapA (fun l => rowD (rowN l)) (fun l => .bool (decide (l ∈ keysE x))) (wj_seq ?_))))))
    refine we_callA ?_; (repeat' walk_at "dl"); refine ⟨(⟨x, ks, k1, k2⟩ : NK), rfl, trivial, fun e he => ?_⟩; rw [show e = _ from he]; (try dsimp only)
    have hdl : (deepK x.d ks).length ≤ 6 := by
      unfold deepK
      rw [List.length_map]
      have := List.length_filter_le (fun q : Nat × Nat => decide (q.1 < x.d)) ks.zipIdx
      rw [List.length_zipIdx] at this
      omega
    refine ⟨_, .inl rfl, deepK x.d ks, rfl, szl (by omega), fun l hl => ?_, fun a _ b _ e => by rw [rowN_inj (rowD_inj e)], ?_⟩
    · refine wgv_name (by simp) ?_
      refine we_op (we_var rfl (we_var rfl (ow_nin (κ := rowKey) (a := rowN l) ?_)))
      rw [if_neg (by decide), keysE_in]
    · refine wa_nil ?_
      have em : (deepK x.d ks).map (fun l => PyData.bool (decide (l ∈ keysE x))) = ((deepK x.d ks).map fun l => decide (l ∈ keysE x)).map PyData.bool := by rw [List.map_map]; rfl
      rw [em]
      refine cw_anyLB ⟨_, rfl, ?_, fun _ => we_var rfl rfl⟩
      rw [List.any_map]
      rfl
  · refine wa_nil (cw_tupleL ?_)
    show _ = _
    unfold topsK tabD
    rw [List.map_map]
    rfl
theorem ok__law_within {f : Addr} {fd : FuncData} (F : Fun K "_law_within" "_law_within" s__law_within f fd) (B : Bi K mg) : FnG P w K mg base CX0 1 f fd ["sides", "others"] (spA K (fun x : List Nat × List Nat => [rowD (rowN x.1), rowD (rowN x.2)]) (fun x => x.1.length ≤ 1000) (fun x e => e = .bool (withinB x.1 x.2))) := by
  refine ok_fnA F sc__law_within (fun _ => rfl) (fun cdv A outer s H E hr hgd => ?_)
  refine ⟨_, (pss_one (ps_ret (pe_cmpR (op_eqUK (K := K) rfl hr.units) (pe_lc (own := [("k", 2), ("most", 3)]) (g := (gTup K 2 (gCons (gName 2) (gCons (gName 3) gNil)))) (tt := _) (by rfl) sc__law_within.nd (pi_zipUK (K := K) rfl (by rfl) B.z_zip (pa_cons (pv 0) (pa_cons (pv 1) pa_nil))) (blkOk_by (own := [("k", 2), ("most", 3)]) (N := ["sides", "others", "k", "most"]) (sc := defScope s__law_within) (by decide +kernel)) (fun _ _ _ _ _ => (pg_tupK (K := K) (n := 2) rfl (by rfl) (pgs_cons (pg_name (i := 2) sc__law_within.nd rfl (by first | exact Or.inl rfl | exact Or.inr rfl)) (pgs_cons (pg_name (i := 3) sc__law_within.nd rfl (by first | exact Or.inl rfl | exact Or.inr rfl)) pgs_nil)))) (fun _ _ _ _ _ => (pts_one (pt_cmpR op_gt (pv 2) (pv 3) (nomark _)))) (fun _ _ _ _ _ => (pv 2))) (pe_lst pa_nil) (nomark _)))), ?_⟩
  rintro ⟨ks, ls⟩ hl
  dsimp only at hl
  show WS _ none _ _ [.dat (rowD (rowN ks)), .dat (rowD (rowN ls)), .no, .no]
  have eR : ∀ l : List Nat, (rowN l).map PyData.int = l.map fun (k : Nat) => PyData.int k := fun l => by unfold rowN; rw [List.map_map]; rfl
  refine ws_ret (we_op (we_fresh (wf_filterA (fun q : Nat × Nat => .tuple [.int (q.1 : Nat), .int (q.2 : Nat)]) (fun q => .int (q.1 : Nat)) (fun q => decide (q.2 < q.1)) (wj_zip (wa_cons (we_var rfl (wa_cons (we_var rfl (wa_nil ⟨_, _, _, _, rfl, .inr rfl, .inr rfl, ks.zip ls, by rw [eR, eR]; exact zipD_map _ _ _ _, szl (by rw [List.length_zip]; omega), fun q hq => ?_, fun a _ b _ e => ?_, ?_⟩)))))))))
  · refine wgv_two (by simp) (by simp) ?_
    (repeat' walk_at "dl")
    exact ⟨decide_eq_decide.mpr (by omega), fun _ => we_var rfl rfl⟩
  · obtain ⟨a1, a2⟩ := a
    obtain ⟨b1, b2⟩ := b
    injection e with e
    injection e with e1 e
    injection e with e2 _
    injection e1 with e1
    injection e2 with e2
    dsimp only at e1 e2
    rw [show a1 = b1 by omega, show a2 = b2 by omega]
  · refine we_lst (wa_nil ⟨szl (by simp), ?_⟩)
    have em : ((ks.zip ls).filter fun q => decide (q.2 < q.1)).map (fun q => PyData.int (q.1 : Nat)) = (((ks.zip ls).filter fun q => decide (q.2 < q.1)).map fun q => ((q.1 : Nat) : Int)).map PyData.int := by rw [List.map_map]; rfl
    rw [em]
    refine ow_eqUD (shaped_ints _) rfl ?_
    rw [eqv_nil]
    show _ = _
    congr 1
    unfold withinB
    clear em hl
    induction ks.zip ls with
    | nil => rfl
    | cons q l ih =>
      rw [List.all_cons, ← ih]
      by_cases h : q.2 < q.1
      · rw [List.filter_cons_of_pos (p := fun q : Nat × Nat => decide (q.2 < q.1)) (decide_eq_true h), decide_eq_false (show ¬ q.1 ≤ q.2 by omega)]; rfl
      · rw [List.filter_cons_of_neg (p := fun q : Nat × Nat => decide (q.2 < q.1)) (by rw [decide_eq_false h]; exact Bool.false_ne_true), decide_eq_true (show q.1 ≤ q.2 by omega), Bool.true_and]
theorem shown_tops {x : Net} {l : List (List Nat)} (h1 : ∀ ks ∈ l, ks.length ≤ 12 ∧ ∀ k ∈ ks, k ≤ 12) (h2 : l.length ≤ 300) : ShowD (tabD (l.map rowN)) := by
  unfold tabD
  refine (Shw.tup (k := 1) (b := 23079) (n := 300) (fun d hd => ?_) (by rw [List.length_map, List.length_map]; exact h2)).showD (by omega) (by omega)
  obtain ⟨r, hr, rfl⟩ := List.mem_map.mp hd
  obtain ⟨ks, hks, rfl⟩ := List.mem_map.mp hr
  obtain ⟨a, b⟩ := h1 ks hks
  refine shw_row (fun v hv => ?_) (by unfold rowN; rw [List.length_map]; exact a)
  obtain ⟨k, hk, rfl⟩ := List.mem_map.mp hv
  have := b k hk
  exact ⟨by omega, by omega⟩
theorem ok_law {f f__law_spring f__law_net f__law_all_sides f__law_points f__law_evenly f_even_tops f__law_within : Addr} {fd fd__law_spring fd__law_net fd__law_all_sides fd__law_points fd__law_evenly fd_even_tops fd__law_within : FuncData} (F : Fun K "law" "law" s_law f fd) (B : Bi K mg) (d__law_spring : Df P w K mg base 1 "_law_spring" f__law_spring fd__law_spring ["script", "turn", "salt"] (spF K preSpr postSpr)) (d__law_net : Df P w K mg base 4 "_law_net" f__law_net fd__law_net ["spring", "top", "walk"] (spS K preNet postNet)) (d__law_all_sides : Df P w K mg base 1 "_law_all_sides" f__law_all_sides fd__law_all_sides ["many", "deep"] (spA K (fun x : Nat × Nat => [.int x.1, .int x.2]) (fun x => x.1 ≤ 10 ∧ x.2 ≤ 20 ∧ (x.2 + 1) ^ x.1 ≤ 5000) (fun x e => e = .list ((allSides x.2 x.1).map fun ks => rowD (rowN ks))))) (d__law_points : Df P w K mg base 3 "_law_points" f__law_points fd__law_points ["web"] (spA K (fun x : Net => [x.D]) (fun x => x.p.toNat ^ x.m ≤ 5000) (fun x e => e = .list ((ptsOf x).map tabD)))) (d__law_evenly : Df P w K mg base 2 "_law_evenly" f__law_evenly fd__law_evenly ["p", "points", "sides"] (spA K (fun x : EvI => [.int x.p, .list (x.pts.map tabD), rowD (rowN x.ks)]) (fun x => (1 ≤ x.p ∧ x.p ≤ 7) ∧ x.pts.length ≤ 5000 ∧ x.ks.length ≤ 1000 ∧ x.ks.sum ≤ 1000 ∧ ∃ n ns, x.counts = n :: ns) (fun x e => ∃ n ns, x.counts = n :: ns ∧ e = .bool (decide (x.counts.length = x.p ^ x.ks.sum) && decide (ns.foldl min n = ns.foldl max n))))) (d_even_tops : Df P w K mg base 9 "even_tops" f_even_tops fd_even_tops ["net"] (spA K (fun x : Net => [x.D]) (fun _ => True) (fun x e => e = tabD ((topsK x).map rowN)))) (d__law_within : Df P w K mg base 1 "_law_within" f__law_within fd__law_within ["sides", "others"] (spA K (fun x : List Nat × List Nat => [rowD (rowN x.1), rowD (rowN x.2)]) (fun x => x.1.length ≤ 1000) (fun x e => e = .bool (withinB x.1 x.2)))) : FnG P w K mg base CX0 10 f fd ["script"] (spF K preLaw postLaw) := by
  refine ok_fn F sc_law (fun ds ⟨ns, e, _⟩ => by rw [e]; rfl) (fun cdv A outer s H E hr hgd => ?_)
  refine ⟨_, (pss_cons (ps_for PassesOwn.never (by rfl) (pi_range1 (by rfl) B.z_range (pa_cons (pe_callB (call_maxUK (K := K) rfl (by rfl) hr.units) (by rfl) B.z_max (by decide +kernel) (pa_cons pe_int (pa_cons (pe_callB (call_minUK (K := K) rfl (by rfl) hr.units) (by rfl) B.z_min (by decide +kernel) (pa_cons (pe_callB (call_lenK (K := K) rfl) (by rfl) B.z_len (by decide +kernel) (pa_cons (pv 0) pa_nil)) (pa_cons pe_int pa_nil))) pa_nil))) pa_nil)) (pg_name (i := 1) sc_law.nd rfl (by first | exact Or.inl rfl | exact Or.inr rfl))
      (pss_cons (ps_set (i := 2) sc_law.nd rfl (by first | exact Or.inl rfl | exact Or.inr rfl) (pe_callG d__law_spring.ok (hr.mono (by decide)) hgd (by rfl) d__law_spring.g d__law_spring.kp d__law_spring.b .nil pass0 (pa_cons (pv 0) (pa_cons (pv 1) (pa_cons pe_int pa_nil)))))
      (pss_cons (ps_set (i := 3) sc_law.nd rfl (by first | exact Or.inl rfl | exact Or.inr rfl) (pe_callG d__law_net.ok (hr.mono (by decide)) hgd (by rfl) d__law_net.g d__law_net.kp d__law_net.b .nil pass0 (pa_cons (pv 2) (pa_cons pe_int (pa_cons pe_int pa_nil)))))
      (pss_cons (ps_par3 (i := 5) (j := 6) (l := 7) (by rfl) sc_law.nd rfl rfl rfl (by decide) (by decide) (by decide) rfl rfl rfl (pa_cons (pe_callG d__law_points.ok (hr.mono (by decide)) hgd (by rfl) d__law_points.g d__law_points.kp d__law_points.b .nil pass0 (pa_cons (pv 3) pa_nil)) (pa_cons (pe_lst pa_nil) (pa_cons (pe_lst pa_nil) pa_nil))) (by rfl))
      (pss_cons (ps_for PassesOwn.never (by rfl) (pi_seqK (K := K) rfl (pe_callG d__law_all_sides.ok (hr.mono (by decide)) hgd (by rfl) d__law_all_sides.g d__law_all_sides.kp d__law_all_sides.b .nil pass0 (pa_cons (pe_callB (call_lenK (K := K) rfl) (by rfl) B.z_len (by decide +kernel) (pa_cons (pe_ix (ix_seqK (K := K) rfl) (pv 3) pe_int (fun _ _ => rfl)) pa_nil)) (pa_cons (pe_callB (call_lenK (K := K) rfl) (by rfl) B.z_len (by decide +kernel) (pa_cons (pe_ix (ix_seqK (K := K) rfl) (pe_ix (ix_seqK (K := K) rfl) (pv 3) pe_int (fun _ _ => rfl)) pe_int (fun _ _ => rfl)) pa_nil)) pa_nil)))) (pg_name (i := 4) sc_law.nd rfl (by first | exact Or.inl rfl | exact Or.inr rfl))
      (pss_one (ps_if (pt_val (pe_callG d__law_evenly.ok (hr.mono (by decide)) hgd (by rfl) d__law_evenly.g d__law_evenly.kp d__law_evenly.b .nil pass0 (pa_cons (pe_ix (ix_seqK (K := K) rfl) (pv 3) pe_int (fun _ _ => rfl)) (pa_cons (pv 5) (pa_cons (pv 4) pa_nil)))))
      (pss_one (ps_expr (pe_bm PySem.F.plainAttrs_list PySem.F.slot_list_append PySem.F.type_list_append mt_append (pv 6) (pa_cons (pv 4) pa_nil))))
      pss_nil)))
      (pss_cons (ps_for PassesOwn.never (by rfl) (pi_seqK (K := K) rfl (pv 6)) (pg_name (i := 4) sc_law.nd rfl (by first | exact Or.inl rfl | exact Or.inr rfl))
      (pss_one (ps_if (pt_cmpR (op_eqUK (K := K) rfl hr.units) (pe_callB (call_lenK (K := K) rfl) (by rfl) B.z_len (by decide +kernel) (pa_cons (pe_lc (own := [("others", 8)]) (g := (gName 8)) (tt := _) (by rfl) sc_law.nd (pi_seqK (K := K) rfl (pv 6)) (blkOk_by (own := [("others", 8)]) (N := ["script", "turn", "spring", "web", "sides", "points", "evenly", "tops", "others"]) (sc := defScope s_law) (by decide +kernel)) (fun _ _ _ _ _ => (pg_name (i := 8) sc_law.nd rfl (by first | exact Or.inl rfl | exact Or.inr rfl))) (fun _ _ _ _ _ => (pts_one (pt_val (pe_callG d__law_within.ok (hr.mono (by decide)) hgd (by rfl) d__law_within.g d__law_within.kp d__law_within.b .nil pass0 (pa_cons (pv 4) (pa_cons (pv 8) pa_nil)))))) (fun _ _ _ _ _ => (pv 8))) pa_nil)) pe_int (nomark _))
      (pss_one (ps_expr (pe_bm PySem.F.plainAttrs_list PySem.F.slot_list_append PySem.F.type_list_append mt_append (pv 7) (pa_cons (pv 4) pa_nil))))
      pss_nil)))
      (pss_one (ps_if (pt_cmpR (op_neUK (K := K) rfl hr.units) (pe_callB (call_reprUK (K := K) rfl hr.units hgd) (by rfl) B.z_repr (by decide +kernel) (pa_cons (pe_callG d_even_tops.ok (hr.mono (by decide)) hgd (by rfl) d_even_tops.g d_even_tops.kp d_even_tops.b .nil pass0 (pa_cons (pv 3) pa_nil)) pa_nil)) (pe_callB (call_reprUK (K := K) rfl hr.units hgd) (by rfl) B.z_repr (by decide +kernel) (pa_cons (pe_callTy (call_tuple_ofK (K := K) rfl) (by rfl) B.z_tuple (by decide +kernel) (pa_cons (pv 7) pa_nil)) pa_nil)) (nomark _))
      (pss_one (ps_ret pe_bl))
      pss_nil))))))))
      (pss_one (ps_ret pe_bl))), ?_⟩
  rintro ds ⟨ns, rfl, hns⟩
  show WS _ none _ _ (.dat (scrD ns) :: List.replicate 8 .no)
  (repeat' walk_at "dl")
  refine ws_for (wj_rng1 ?_)
  (repeat' walk_at "dl")
  refine ⟨_, rfl, by split <;> split <;> omega, fun i δ => ∃ cs : List Cell, δ = .dat (scrD ns) :: cs ∧ cs.length = 8, ⟨_, rfl, rfl⟩, fun i d δ' hd ⟨cs, e, hcs⟩ => ?_, fun δ' ⟨cs, e, hcs⟩ => ?_⟩
  rotate_left
  · subst e
    (repeat' walk_at "dl")
    rfl
  subst e
  obtain ⟨hi, rfl⟩ := rngD_inv hd
  obtain ⟨c1, cs, rfl, hc2⟩ := len_tail hcs
  refine wg_name ?_
  show WS _ none _ _ (.dat (scrD ns) :: .dat (.int (0 + (i : Nat))) :: cs)
  refine ws_clear2 (n := 7) hc2 ?_
  refine ws_spring noOwn2 ?_
  (repeat' walk_at "dl")
  refine ⟨⟨ns, _, _, rfl, hns, by omega⟩, by simp [flatD, scrD], fun d hd => hd, fun a => ?_⟩
  show WS _ (some a) _ _ [.dat (scrD ns), .dat (.int (0 + (i : Nat))), .spr, .no, .no, .no, .no, .no, .no]
  refine ws_seq (ws_set (we_callS rfl ?_))
  (repeat' walk_at "dl")
  refine ⟨⟨32, 256, rfl, by omega, by omega⟩, net_of fun x h64 hw => ?_⟩
  have h64 : x.p.toNat ^ x.m ≤ 32 := by omega
  have hp := x.pos
  have hs := x.sb
  have hd := x.db
  have hm := x.mb
  have h72 := sd_le x
  have hsd : (x.d + 1) ^ x.s ≤ 256 := sides_few (p := x.p.toNat) (by omega) (by omega)
  have hnat := x.nat
  obtain ⟨r0, t0, ts0, e0, h1, h2⟩ := x.first
  have hpl : (ptsOf x).length ≤ 32 := by rw [pts_len]; exact h64
  have one : ∀ {P : Bool → Prop} {ks : List Nat}, ks.length = x.s → (∀ k ∈ ks, k ≤ x.d) → ks.sum ≤ 1000 := fun {P ks} hl hk => by
    have := rowsW_sum hl hk
    have := @rowsW_len x ks
    omega
  refine ws_seq (ws_parP3 (by simp) (by simp) (by simp) (wp_dat ?_))
  refine we_callA ?_; (repeat' walk_at "dl"); refine ⟨x, rfl, (by omega), fun e he => ?_⟩; rw [show e = _ from he]; (try dsimp only)
  refine wp_own (wf_lst (wa_nil ⟨szl (by simp), wp_own (wf_lst (wa_nil ⟨szl (by simp), wp_nil ?_⟩))⟩))
  refine ⟨_, _, _, rfl, ?_⟩
  refine ws_seq (ws_for (wj_seq ?_))
  refine we_callA ?_
  (repeat' walk_at "dl")
  rw [e0]
  (repeat' walk_at "dl")
  rw [← e0, List.length_map, x.len, h2]
  refine ⟨(x.s, x.d), rfl, ⟨by dsimp only; omega, by dsimp only; omega, by dsimp only; omega⟩, fun e he => ?_⟩
  rw [show e = _ from he]
  dsimp only
  refine ⟨_, .inl rfl, fun j δ => ∃ c4, δ = [.dat (scrD ns), .dat (.int (0 + (i : Nat))), .spr, .dat (netD x.p x.ts), c4, .dat (.list ((ptsOf x).map tabD)), .own ((((allSides x.d x.s).take j).filter fun ks => decide (rkW x ks = ks.sum)).map fun ks => rowD (rowN ks)), .own [], .no], ⟨_, rfl⟩, fun j dd δ' hdd ⟨c4, e⟩ => ?_, fun δ' ⟨c4, e⟩ => ?_⟩
  · subst e
    obtain ⟨ks, hks, rfl⟩ := get_map hdd
    obtain ⟨hkl, hkd⟩ := allSides_ok x.d x.s ks (List.mem_of_getElem? hks)
    have etk : ((allSides x.d x.s).take (j + 1)).filter (fun ks => decide (rkW x ks = ks.sum)) = ((allSides x.d x.s).take j).filter (fun ks => decide (rkW x ks = ks.sum)) ++ [ks].filter (fun ks => decide (rkW x ks = ks.sum)) := by
      rw [List.take_add_one, hks, List.filter_append]; rfl
    have hfl : (((allSides x.d x.s).take j).filter fun ks => decide (rkW x ks = ks.sum)).length ≤ 256 := by
      have h3 := List.length_filter_le (fun ks => decide (rkW x ks = ks.sum)) ((allSides x.d x.s).take j)
      rw [List.length_take, allSides_len] at h3
      omega
    refine wg_name ?_
    refine ws_if (wt_test ?_)
    refine we_callA ?_
    (repeat' walk_at "dl")
    refine ⟨⟨x.p.toNat, ptsOf x, ks⟩, by rw [← hnat]; rfl, ⟨by dsimp only; omega, by dsimp only; omega, by dsimp only; omega, one (P := fun _ => True) hkl hkd, ev_some x ks⟩, fun e he => ?_⟩
    obtain ⟨n, ns', hc, rfl⟩ := he
    rw [ev_counts ks hc]
    refine ⟨_, rfl, fun h => ?_, fun h => ?_⟩
    · refine ws_append rfl (szlt (by rw [List.length_map]; omega)) (we_var rfl ?_)
      refine ⟨.dat (rowD (rowN ks)), ?_⟩
      rw [etk, List.filter_cons_of_pos (p := fun ks => decide (rkW x ks = ks.sum)) h, List.map_append]
      rfl
    · refine ws_next ⟨.dat (rowD (rowN ks)), ?_⟩
      rw [etk, List.filter_cons_of_neg (p := fun ks => decide (rkW x ks = ks.sum)) (by rw [h]; exact Bool.false_ne_true), List.filter_nil, List.append_nil]
      rfl
  subst e
  rw [List.length_map, List.take_length, ← keysE_all]
  have hkl : (keysE x).length ≤ 256 := by
    rw [keysE_all]
    have h3 := List.length_filter_le (fun ks => decide (rkW x ks = ks.sum)) (allSides x.d x.s)
    rw [allSides_len] at h3
    omega
  refine ws_melt 6 rfl ?_
  refine ws_seq (ws_for (wj_seq (we_var rfl ⟨_, .inl rfl, ?_⟩)))
  refine ⟨fun j δ => ∃ c4, δ = [.dat (scrD ns), .dat (.int (0 + (i : Nat))), .spr, .dat (netD x.p x.ts), c4, .dat (.list ((ptsOf x).map tabD)), .dat (.list ((keysE x).map fun ks => rowD (rowN ks))), .own ((((keysE x).take j).filter fun ks => decide (((keysE x).filter (withinB ks)).length = 1)).map fun ks => rowD (rowN ks)), .no], ⟨_, rfl⟩, fun j dd δ' hdd ⟨c4, e⟩ => ?_, fun δ' ⟨c4, e⟩ => ?_⟩
  · subst e
    obtain ⟨ks, hks, rfl⟩ := get_map hdd
    obtain ⟨k1, k2, k3⟩ := (keysE_iff x ks).mp (List.mem_of_getElem? hks)
    have etk : ((keysE x).take (j + 1)).filter (fun ks => decide (((keysE x).filter (withinB ks)).length = 1)) = ((keysE x).take j).filter (fun ks => decide (((keysE x).filter (withinB ks)).length = 1)) ++ [ks].filter (fun ks => decide (((keysE x).filter (withinB ks)).length = 1)) := by
      rw [List.take_add_one, hks, List.filter_append]; rfl
    have hfl : (((keysE x).take j).filter fun ks => decide (((keysE x).filter (withinB ks)).length = 1)).length ≤ 256 := by
      have h3 := List.length_filter_le (fun ks => decide (((keysE x).filter (withinB ks)).length = 1)) ((keysE x).take j)
      rw [List.length_take] at h3
      omega
    refine wg_name ?_
    refine ws_if (wt_test (we_op (we_cb (wa_cons (we_fresh (wf_filterA (fun ks => rowD (rowN ks)) (fun ks => rowD (rowN ks)) (withinB ks) (wj_seq (we_var rfl ⟨_, .inl rfl, keysE x, rfl, szl (by omega), fun ls hls => ?_, fun a _ b _ e => rowN_inj (rowD_inj e), ?_⟩))))))))
    · refine wgv_name (by simp) (wt_test ?_)
      refine we_callA ?_; (repeat' walk_at "dl"); refine ⟨(ks, ls), rfl, (by dsimp only; omega), fun e he => ?_⟩; rw [show e = _ from he]; (try dsimp only)
      exact ⟨_, rfl, rfl, fun _ => we_var rfl rfl⟩
    · refine wa_nil (cw_lenL ?_)
      rw [List.length_map]
      refine we_int (ow_eqUI ⟨_, rfl, fun h => ?_, fun h => ?_⟩)
      · refine ws_append rfl (szlt (by rw [List.length_map]; omega)) (we_var rfl ?_)
        refine ⟨.dat (rowD (rowN ks)), ?_⟩
        rw [etk, List.filter_cons_of_pos (p := fun ks => decide (((keysE x).filter (withinB ks)).length = 1)) (decide_eq_true (by have := of_decide_eq_true h; omega)), List.map_append]
        rfl
      · refine ws_next ⟨.dat (rowD (rowN ks)), ?_⟩
        rw [etk, List.filter_cons_of_neg (p := fun ks => decide (((keysE x).filter (withinB ks)).length = 1)) (by rw [decide_eq_false (by have := of_decide_eq_false h; omega)]; exact Bool.false_ne_true), List.filter_nil, List.append_nil]
        rfl
  subst e
  rw [List.length_map, List.take_length, ← topsK_is]
  have hsh : ShowD (tabD ((topsK x).map rowN)) := shown_tops (x := x) (fun ks hks => by
    obtain ⟨k1, k2, k3⟩ := (keysE_iff x ks).mp (List.mem_filter.mp hks).1
    exact ⟨by omega, fun k hk => by have := k2 k hk; omega⟩) (by
    unfold topsK
    have := List.length_filter_le (fun ks => !((deepK x.d ks).any fun l => decide (l ∈ keysE x))) (keysE x)
    omega)
  refine ws_melt 7 rfl ?_
  refine ws_if ((?_ : WT _ _ _ _ fun b => b = false).imp ?_)
  · refine wt_test (we_op (we_cb (wa_cons ?_)))
    refine we_callA ?_; (repeat' walk_at "dl"); refine ⟨x, rfl, trivial, fun e he => ?_⟩; rw [show e = _ from he]; (try dsimp only)
    refine wa_nil (cw_repr hsh (we_cb (wa_cons (we_cb (wa_cons (we_var rfl (wa_nil (cw_tupleL ?_))))))))
    have eT : PyData.tuple ((topsK x).map fun ks => rowD (rowN ks)) = tabD ((topsK x).map rowN) := by unfold tabD; rw [List.map_map]; rfl
    rw [eT]
    refine wa_nil (cw_repr hsh (ow_neUS ?_))
    simp
  rintro bb rfl
  refine ⟨fun h => (nomatch h), fun _ => ?_⟩
  refine ws_next ?_
  exact ⟨_, rfl, rfl⟩
end

end Lw

namespace Lw
open PySem PySem.Spec PyProof.Rows L2 DlP Dl
theorem all_mk {l : PySem.W.OpenLaw} {w : World} {K : PySem.W.Frag} {h : Heap} {mg : Str → Option Value} {fa : Addr} (X : K.In h) (G : h.Ns mainGlobals mg) (hfa : mg "law" = some (.ref fa))
    {f__law_spring : Addr} {od__law_spring an__law_spring : Option Addr} {sl__law_spring : Array (Option Value)} {oc__law_spring kV__law_spring dc__law_spring pm__law_spring cd__law_spring ct__law_spring : Value}
    {f__law_draw : Addr} {od__law_draw an__law_draw : Option Addr} {sl__law_draw : Array (Option Value)} {oc__law_draw kV__law_draw dc__law_draw pm__law_draw cd__law_draw ct__law_draw : Value}
    {f__law_pick : Addr} {od__law_pick an__law_pick : Option Addr} {sl__law_pick : Array (Option Value)} {oc__law_pick kV__law_pick dc__law_pick pm__law_pick cd__law_pick ct__law_pick : Value}
    {f__law_line : Addr} {od__law_line an__law_line : Option Addr} {sl__law_line : Array (Option Value)} {oc__law_line kV__law_line dc__law_line pm__law_line cd__law_line ct__law_line : Value}
    {f__law_table : Addr} {od__law_table an__law_table : Option Addr} {sl__law_table : Array (Option Value)} {oc__law_table kV__law_table dc__law_table pm__law_table cd__law_table ct__law_table : Value}
    {f__law_most : Addr} {od__law_most an__law_most : Option Addr} {sl__law_most : Array (Option Value)} {oc__law_most kV__law_most dc__law_most pm__law_most cd__law_most ct__law_most : Value}
    {f__law_net : Addr} {od__law_net an__law_net : Option Addr} {sl__law_net : Array (Option Value)} {oc__law_net kV__law_net dc__law_net pm__law_net cd__law_net ct__law_net : Value}
    {f__law_all_sides : Addr} {od__law_all_sides an__law_all_sides : Option Addr} {sl__law_all_sides : Array (Option Value)} {oc__law_all_sides kV__law_all_sides dc__law_all_sides pm__law_all_sides cd__law_all_sides ct__law_all_sides : Value}
    {f__law_times : Addr} {od__law_times an__law_times : Option Addr} {sl__law_times : Array (Option Value)} {oc__law_times kV__law_times dc__law_times pm__law_times cd__law_times ct__law_times : Value}
    {f__law_point : Addr} {od__law_point an__law_point : Option Addr} {sl__law_point : Array (Option Value)} {oc__law_point kV__law_point dc__law_point pm__law_point cd__law_point ct__law_point : Value}
    {f__law_starts : Addr} {od__law_starts an__law_starts : Option Addr} {sl__law_starts : Array (Option Value)} {oc__law_starts kV__law_starts dc__law_starts pm__law_starts cd__law_starts ct__law_starts : Value}
    {f__law_points : Addr} {od__law_points an__law_points : Option Addr} {sl__law_points : Array (Option Value)} {oc__law_points kV__law_points dc__law_points pm__law_points cd__law_points ct__law_points : Value}
    {f__law_power : Addr} {od__law_power an__law_power : Option Addr} {sl__law_power : Array (Option Value)} {oc__law_power kV__law_power dc__law_power pm__law_power cd__law_power ct__law_power : Value}
    {f__law_fronts : Addr} {od__law_fronts an__law_fronts : Option Addr} {sl__law_fronts : Array (Option Value)} {oc__law_fronts kV__law_fronts dc__law_fronts pm__law_fronts cd__law_fronts ct__law_fronts : Value}
    {f__law_evenly : Addr} {od__law_evenly an__law_evenly : Option Addr} {sl__law_evenly : Array (Option Value)} {oc__law_evenly kV__law_evenly dc__law_evenly pm__law_evenly cd__law_evenly ct__law_evenly : Value}
    {f_is_whole : Addr} {od_is_whole an_is_whole : Option Addr} {sl_is_whole : Array (Option Value)} {oc_is_whole kV_is_whole dc_is_whole pm_is_whole cd_is_whole ct_is_whole : Value}
    {f_is_base : Addr} {od_is_base an_is_base : Option Addr} {sl_is_base : Array (Option Value)} {oc_is_base kV_is_base dc_is_base pm_is_base cd_is_base ct_is_base : Value}
    {f_is_figure : Addr} {od_is_figure an_is_figure : Option Addr} {sl_is_figure : Array (Option Value)} {oc_is_figure kV_is_figure dc_is_figure pm_is_figure cd_is_figure ct_is_figure : Value}
    {f_is_row : Addr} {od_is_row an_is_row : Option Addr} {sl_is_row : Array (Option Value)} {oc_is_row kV_is_row dc_is_row pm_is_row cd_is_row ct_is_row : Value}
    {f_are_rows : Addr} {od_are_rows an_are_rows : Option Addr} {sl_are_rows : Array (Option Value)} {oc_are_rows kV_are_rows dc_are_rows pm_are_rows cd_are_rows ct_are_rows : Value}
    {f_is_table : Addr} {od_is_table an_is_table : Option Addr} {sl_is_table : Array (Option Value)} {oc_is_table kV_is_table dc_is_table pm_is_table cd_is_table ct_is_table : Value}
    {f_is_of_size : Addr} {od_is_of_size an_is_of_size : Option Addr} {sl_is_of_size : Array (Option Value)} {oc_is_of_size kV_is_of_size dc_is_of_size pm_is_of_size cd_is_of_size ct_is_of_size : Value}
    {f_are_tables : Addr} {od_are_tables an_are_tables : Option Addr} {sl_are_tables : Array (Option Value)} {oc_are_tables kV_are_tables dc_are_tables pm_are_tables cd_are_tables ct_are_tables : Value}
    {f_is_net : Addr} {od_is_net an_is_net : Option Addr} {sl_is_net : Array (Option Value)} {oc_is_net kV_is_net dc_is_net pm_is_net cd_is_net ct_is_net : Value}
    {f_check_net : Addr} {od_check_net an_check_net : Option Addr} {sl_check_net : Array (Option Value)} {oc_check_net kV_check_net dc_check_net pm_check_net cd_check_net ct_check_net : Value}
    {f_cleared : Addr} {od_cleared an_cleared : Option Addr} {sl_cleared : Array (Option Value)} {oc_cleared kV_cleared dc_cleared pm_cleared cd_cleared ct_cleared : Value}
    {f_rest : Addr} {od_rest an_rest : Option Addr} {sl_rest : Array (Option Value)} {oc_rest kV_rest dc_rest pm_rest cd_rest ct_rest : Value}
    {f_first_place : Addr} {od_first_place an_first_place : Option Addr} {sl_first_place : Array (Option Value)} {oc_first_place kV_first_place dc_first_place pm_first_place cd_first_place ct_first_place : Value}
    {f_multiple : Addr} {od_multiple an_multiple : Option Addr} {sl_multiple : Array (Option Value)} {oc_multiple kV_multiple dc_multiple pm_multiple cd_multiple ct_multiple : Value}
    {f_inverse : Addr} {od_inverse an_inverse : Option Addr} {sl_inverse : Array (Option Value)} {oc_inverse kV_inverse dc_inverse pm_inverse cd_inverse ct_inverse : Value}
    {f_widened : Addr} {od_widened an_widened : Option Addr} {sl_widened : Array (Option Value)} {oc_widened kV_widened dc_widened pm_widened cd_widened ct_widened : Value}
    {f_free_spans_over : Addr} {od_free_spans_over an_free_spans_over : Option Addr} {sl_free_spans_over : Array (Option Value)} {oc_free_spans_over kV_free_spans_over dc_free_spans_over pm_free_spans_over cd_free_spans_over ct_free_spans_over : Value}
    {f_spans_by_depths : Addr} {od_spans_by_depths an_spans_by_depths : Option Addr} {sl_spans_by_depths : Array (Option Value)} {oc_spans_by_depths kV_spans_by_depths dc_spans_by_depths pm_spans_by_depths cd_spans_by_depths ct_spans_by_depths : Value}
    {f_even_depths : Addr} {od_even_depths an_even_depths : Option Addr} {sl_even_depths : Array (Option Value)} {oc_even_depths kV_even_depths dc_even_depths pm_even_depths cd_even_depths ct_even_depths : Value}
    {f_depth_of : Addr} {od_depth_of an_depth_of : Option Addr} {sl_depth_of : Array (Option Value)} {oc_depth_of kV_depth_of dc_depth_of pm_depth_of cd_depth_of ct_depth_of : Value}
    {f_deeper_ones : Addr} {od_deeper_ones an_deeper_ones : Option Addr} {sl_deeper_ones : Array (Option Value)} {oc_deeper_ones kV_deeper_ones dc_deeper_ones pm_deeper_ones cd_deeper_ones ct_deeper_ones : Value}
    {f_even_tops : Addr} {od_even_tops an_even_tops : Option Addr} {sl_even_tops : Array (Option Value)} {oc_even_tops kV_even_tops dc_even_tops pm_even_tops cd_even_tops ct_even_tops : Value}
    {f__law_within : Addr} {od__law_within an__law_within : Option Addr} {sl__law_within : Array (Option Value)} {oc__law_within kV__law_within dc__law_within pm__law_within cd__law_within ct__law_within : Value}
    {f_law : Addr} {od_law an_law : Option Addr} {sl_law : Array (Option Value)} {oc_law kV_law dc_law pm_law cd_law ct_law : Value}
    (a__law_spring : PySem.W.nsIn K mainGlobals "_law_spring" = some (some (.ref f__law_spring))) (l__law_spring : K.lookup f__law_spring = some ⟨oc__law_spring, od__law_spring, .func (PySem.W.fnOf "_law_spring" "_law_spring" (defArgs s__law_spring) (defBody s__law_spring) (defScope s__law_spring) .none kV__law_spring dc__law_spring pm__law_spring an__law_spring cd__law_spring ct__law_spring), sl__law_spring⟩) (c__law_spring : PySem.W.codeIn K cd__law_spring "_law_spring" = true) (k__law_spring : PySem.W.keepIn K (.ref f__law_spring) = true)
    (a__law_draw : PySem.W.nsIn K mainGlobals "_law_draw" = some (some (.ref f__law_draw))) (l__law_draw : K.lookup f__law_draw = some ⟨oc__law_draw, od__law_draw, .func (PySem.W.fnOf "_law_draw" "_law_draw" (defArgs s__law_draw) (defBody s__law_draw) (defScope s__law_draw) .none kV__law_draw dc__law_draw pm__law_draw an__law_draw cd__law_draw ct__law_draw), sl__law_draw⟩) (c__law_draw : PySem.W.codeIn K cd__law_draw "_law_draw" = true) (k__law_draw : PySem.W.keepIn K (.ref f__law_draw) = true)
    (a__law_pick : PySem.W.nsIn K mainGlobals "_law_pick" = some (some (.ref f__law_pick))) (l__law_pick : K.lookup f__law_pick = some ⟨oc__law_pick, od__law_pick, .func (PySem.W.fnOf "_law_pick" "_law_pick" (defArgs s__law_pick) (defBody s__law_pick) (defScope s__law_pick) .none kV__law_pick dc__law_pick pm__law_pick an__law_pick cd__law_pick ct__law_pick), sl__law_pick⟩) (c__law_pick : PySem.W.codeIn K cd__law_pick "_law_pick" = true) (k__law_pick : PySem.W.keepIn K (.ref f__law_pick) = true)
    (a__law_line : PySem.W.nsIn K mainGlobals "_law_line" = some (some (.ref f__law_line))) (l__law_line : K.lookup f__law_line = some ⟨oc__law_line, od__law_line, .func (PySem.W.fnOf "_law_line" "_law_line" (defArgs s__law_line) (defBody s__law_line) (defScope s__law_line) .none kV__law_line dc__law_line pm__law_line an__law_line cd__law_line ct__law_line), sl__law_line⟩) (c__law_line : PySem.W.codeIn K cd__law_line "_law_line" = true) (k__law_line : PySem.W.keepIn K (.ref f__law_line) = true)
    (a__law_table : PySem.W.nsIn K mainGlobals "_law_table" = some (some (.ref f__law_table))) (l__law_table : K.lookup f__law_table = some ⟨oc__law_table, od__law_table, .func (PySem.W.fnOf "_law_table" "_law_table" (defArgs s__law_table) (defBody s__law_table) (defScope s__law_table) .none kV__law_table dc__law_table pm__law_table an__law_table cd__law_table ct__law_table), sl__law_table⟩) (c__law_table : PySem.W.codeIn K cd__law_table "_law_table" = true) (k__law_table : PySem.W.keepIn K (.ref f__law_table) = true)
    (a__law_most : PySem.W.nsIn K mainGlobals "_law_most" = some (some (.ref f__law_most))) (l__law_most : K.lookup f__law_most = some ⟨oc__law_most, od__law_most, .func (PySem.W.fnOf "_law_most" "_law_most" (defArgs s__law_most) (defBody s__law_most) (defScope s__law_most) .none kV__law_most dc__law_most pm__law_most an__law_most cd__law_most ct__law_most), sl__law_most⟩) (c__law_most : PySem.W.codeIn K cd__law_most "_law_most" = true) (k__law_most : PySem.W.keepIn K (.ref f__law_most) = true)
    (a__law_net : PySem.W.nsIn K mainGlobals "_law_net" = some (some (.ref f__law_net))) (l__law_net : K.lookup f__law_net = some ⟨oc__law_net, od__law_net, .func (PySem.W.fnOf "_law_net" "_law_net" (defArgs s__law_net) (defBody s__law_net) (defScope s__law_net) .none kV__law_net dc__law_net pm__law_net an__law_net cd__law_net ct__law_net), sl__law_net⟩) (c__law_net : PySem.W.codeIn K cd__law_net "_law_net" = true) (k__law_net : PySem.W.keepIn K (.ref f__law_net) = true)
    (a__law_all_sides : PySem.W.nsIn K mainGlobals "_law_all_sides" = some (some (.ref f__law_all_sides))) (l__law_all_sides : K.lookup f__law_all_sides = some ⟨oc__law_all_sides, od__law_all_sides, .func (PySem.W.fnOf "_law_all_sides" "_law_all_sides" (defArgs s__law_all_sides) (defBody s__law_all_sides) (defScope s__law_all_sides) .none kV__law_all_sides dc__law_all_sides pm__law_all_sides an__law_all_sides cd__law_all_sides ct__law_all_sides), sl__law_all_sides⟩) (c__law_all_sides : PySem.W.codeIn K cd__law_all_sides "_law_all_sides" = true) (k__law_all_sides : PySem.W.keepIn K (.ref f__law_all_sides) = true)
    (a__law_times : PySem.W.nsIn K mainGlobals "_law_times" = some (some (.ref f__law_times))) (l__law_times : K.lookup f__law_times = some ⟨oc__law_times, od__law_times, .func (PySem.W.fnOf "_law_times" "_law_times" (defArgs s__law_times) (defBody s__law_times) (defScope s__law_times) .none kV__law_times dc__law_times pm__law_times an__law_times cd__law_times ct__law_times), sl__law_times⟩) (c__law_times : PySem.W.codeIn K cd__law_times "_law_times" = true) (k__law_times : PySem.W.keepIn K (.ref f__law_times) = true)
    (a__law_point : PySem.W.nsIn K mainGlobals "_law_point" = some (some (.ref f__law_point))) (l__law_point : K.lookup f__law_point = some ⟨oc__law_point, od__law_point, .func (PySem.W.fnOf "_law_point" "_law_point" (defArgs s__law_point) (defBody s__law_point) (defScope s__law_point) .none kV__law_point dc__law_point pm__law_point an__law_point cd__law_point ct__law_point), sl__law_point⟩) (c__law_point : PySem.W.codeIn K cd__law_point "_law_point" = true) (k__law_point : PySem.W.keepIn K (.ref f__law_point) = true)
    (a__law_starts : PySem.W.nsIn K mainGlobals "_law_starts" = some (some (.ref f__law_starts))) (l__law_starts : K.lookup f__law_starts = some ⟨oc__law_starts, od__law_starts, .func (PySem.W.fnOf "_law_starts" "_law_starts" (defArgs s__law_starts) (defBody s__law_starts) (defScope s__law_starts) .none kV__law_starts dc__law_starts pm__law_starts an__law_starts cd__law_starts ct__law_starts), sl__law_starts⟩) (c__law_starts : PySem.W.codeIn K cd__law_starts "_law_starts" = true) (k__law_starts : PySem.W.keepIn K (.ref f__law_starts) = true)
    (a__law_points : PySem.W.nsIn K mainGlobals "_law_points" = some (some (.ref f__law_points))) (l__law_points : K.lookup f__law_points = some ⟨oc__law_points, od__law_points, .func (PySem.W.fnOf "_law_points" "_law_points" (defArgs s__law_points) (defBody s__law_points) (defScope s__law_points) .none kV__law_points dc__law_points pm__law_points an__law_points cd__law_points ct__law_points), sl__law_points⟩) (c__law_points : PySem.W.codeIn K cd__law_points "_law_points" = true) (k__law_points : PySem.W.keepIn K (.ref f__law_points) = true)
    (a__law_power : PySem.W.nsIn K mainGlobals "_law_power" = some (some (.ref f__law_power))) (l__law_power : K.lookup f__law_power = some ⟨oc__law_power, od__law_power, .func (PySem.W.fnOf "_law_power" "_law_power" (defArgs s__law_power) (defBody s__law_power) (defScope s__law_power) .none kV__law_power dc__law_power pm__law_power an__law_power cd__law_power ct__law_power), sl__law_power⟩) (c__law_power : PySem.W.codeIn K cd__law_power "_law_power" = true) (k__law_power : PySem.W.keepIn K (.ref f__law_power) = true)
    (a__law_fronts : PySem.W.nsIn K mainGlobals "_law_fronts" = some (some (.ref f__law_fronts))) (l__law_fronts : K.lookup f__law_fronts = some ⟨oc__law_fronts, od__law_fronts, .func (PySem.W.fnOf "_law_fronts" "_law_fronts" (defArgs s__law_fronts) (defBody s__law_fronts) (defScope s__law_fronts) .none kV__law_fronts dc__law_fronts pm__law_fronts an__law_fronts cd__law_fronts ct__law_fronts), sl__law_fronts⟩) (c__law_fronts : PySem.W.codeIn K cd__law_fronts "_law_fronts" = true) (k__law_fronts : PySem.W.keepIn K (.ref f__law_fronts) = true)
    (a__law_evenly : PySem.W.nsIn K mainGlobals "_law_evenly" = some (some (.ref f__law_evenly))) (l__law_evenly : K.lookup f__law_evenly = some ⟨oc__law_evenly, od__law_evenly, .func (PySem.W.fnOf "_law_evenly" "_law_evenly" (defArgs s__law_evenly) (defBody s__law_evenly) (defScope s__law_evenly) .none kV__law_evenly dc__law_evenly pm__law_evenly an__law_evenly cd__law_evenly ct__law_evenly), sl__law_evenly⟩) (c__law_evenly : PySem.W.codeIn K cd__law_evenly "_law_evenly" = true) (k__law_evenly : PySem.W.keepIn K (.ref f__law_evenly) = true)
    (a_is_whole : PySem.W.nsIn K mainGlobals "is_whole" = some (some (.ref f_is_whole))) (l_is_whole : K.lookup f_is_whole = some ⟨oc_is_whole, od_is_whole, .func (PySem.W.fnOf "is_whole" "is_whole" (defArgs s_is_whole) (defBody s_is_whole) (defScope s_is_whole) .none kV_is_whole dc_is_whole pm_is_whole an_is_whole cd_is_whole ct_is_whole), sl_is_whole⟩) (c_is_whole : PySem.W.codeIn K cd_is_whole "is_whole" = true) (k_is_whole : PySem.W.keepIn K (.ref f_is_whole) = true)
    (a_is_base : PySem.W.nsIn K mainGlobals "is_base" = some (some (.ref f_is_base))) (l_is_base : K.lookup f_is_base = some ⟨oc_is_base, od_is_base, .func (PySem.W.fnOf "is_base" "is_base" (defArgs s_is_base) (defBody s_is_base) (defScope s_is_base) .none kV_is_base dc_is_base pm_is_base an_is_base cd_is_base ct_is_base), sl_is_base⟩) (c_is_base : PySem.W.codeIn K cd_is_base "is_base" = true) (k_is_base : PySem.W.keepIn K (.ref f_is_base) = true)
    (a_is_figure : PySem.W.nsIn K mainGlobals "is_figure" = some (some (.ref f_is_figure))) (l_is_figure : K.lookup f_is_figure = some ⟨oc_is_figure, od_is_figure, .func (PySem.W.fnOf "is_figure" "is_figure" (defArgs s_is_figure) (defBody s_is_figure) (defScope s_is_figure) .none kV_is_figure dc_is_figure pm_is_figure an_is_figure cd_is_figure ct_is_figure), sl_is_figure⟩) (c_is_figure : PySem.W.codeIn K cd_is_figure "is_figure" = true) (k_is_figure : PySem.W.keepIn K (.ref f_is_figure) = true)
    (a_is_row : PySem.W.nsIn K mainGlobals "is_row" = some (some (.ref f_is_row))) (l_is_row : K.lookup f_is_row = some ⟨oc_is_row, od_is_row, .func (PySem.W.fnOf "is_row" "is_row" (defArgs s_is_row) (defBody s_is_row) (defScope s_is_row) .none kV_is_row dc_is_row pm_is_row an_is_row cd_is_row ct_is_row), sl_is_row⟩) (c_is_row : PySem.W.codeIn K cd_is_row "is_row" = true) (k_is_row : PySem.W.keepIn K (.ref f_is_row) = true)
    (a_are_rows : PySem.W.nsIn K mainGlobals "are_rows" = some (some (.ref f_are_rows))) (l_are_rows : K.lookup f_are_rows = some ⟨oc_are_rows, od_are_rows, .func (PySem.W.fnOf "are_rows" "are_rows" (defArgs s_are_rows) (defBody s_are_rows) (defScope s_are_rows) .none kV_are_rows dc_are_rows pm_are_rows an_are_rows cd_are_rows ct_are_rows), sl_are_rows⟩) (c_are_rows : PySem.W.codeIn K cd_are_rows "are_rows" = true) (k_are_rows : PySem.W.keepIn K (.ref f_are_rows) = true)
    (a_is_table : PySem.W.nsIn K mainGlobals "is_table" = some (some (.ref f_is_table))) (l_is_table : K.lookup f_is_table = some ⟨oc_is_table, od_is_table, .func (PySem.W.fnOf "is_table" "is_table" (defArgs s_is_table) (defBody s_is_table) (defScope s_is_table) .none kV_is_table dc_is_table pm_is_table an_is_table cd_is_table ct_is_table), sl_is_table⟩) (c_is_table : PySem.W.codeIn K cd_is_table "is_table" = true) (k_is_table : PySem.W.keepIn K (.ref f_is_table) = true)
    (a_is_of_size : PySem.W.nsIn K mainGlobals "is_of_size" = some (some (.ref f_is_of_size))) (l_is_of_size : K.lookup f_is_of_size = some ⟨oc_is_of_size, od_is_of_size, .func (PySem.W.fnOf "is_of_size" "is_of_size" (defArgs s_is_of_size) (defBody s_is_of_size) (defScope s_is_of_size) .none kV_is_of_size dc_is_of_size pm_is_of_size an_is_of_size cd_is_of_size ct_is_of_size), sl_is_of_size⟩) (c_is_of_size : PySem.W.codeIn K cd_is_of_size "is_of_size" = true) (k_is_of_size : PySem.W.keepIn K (.ref f_is_of_size) = true)
    (a_are_tables : PySem.W.nsIn K mainGlobals "are_tables" = some (some (.ref f_are_tables))) (l_are_tables : K.lookup f_are_tables = some ⟨oc_are_tables, od_are_tables, .func (PySem.W.fnOf "are_tables" "are_tables" (defArgs s_are_tables) (defBody s_are_tables) (defScope s_are_tables) .none kV_are_tables dc_are_tables pm_are_tables an_are_tables cd_are_tables ct_are_tables), sl_are_tables⟩) (c_are_tables : PySem.W.codeIn K cd_are_tables "are_tables" = true) (k_are_tables : PySem.W.keepIn K (.ref f_are_tables) = true)
    (a_is_net : PySem.W.nsIn K mainGlobals "is_net" = some (some (.ref f_is_net))) (l_is_net : K.lookup f_is_net = some ⟨oc_is_net, od_is_net, .func (PySem.W.fnOf "is_net" "is_net" (defArgs s_is_net) (defBody s_is_net) (defScope s_is_net) .none kV_is_net dc_is_net pm_is_net an_is_net cd_is_net ct_is_net), sl_is_net⟩) (c_is_net : PySem.W.codeIn K cd_is_net "is_net" = true) (k_is_net : PySem.W.keepIn K (.ref f_is_net) = true)
    (a_check_net : PySem.W.nsIn K mainGlobals "check_net" = some (some (.ref f_check_net))) (l_check_net : K.lookup f_check_net = some ⟨oc_check_net, od_check_net, .func (PySem.W.fnOf "check_net" "check_net" (defArgs s_check_net) (defBody s_check_net) (defScope s_check_net) .none kV_check_net dc_check_net pm_check_net an_check_net cd_check_net ct_check_net), sl_check_net⟩) (c_check_net : PySem.W.codeIn K cd_check_net "check_net" = true) (k_check_net : PySem.W.keepIn K (.ref f_check_net) = true)
    (a_cleared : PySem.W.nsIn K mainGlobals "cleared" = some (some (.ref f_cleared))) (l_cleared : K.lookup f_cleared = some ⟨oc_cleared, od_cleared, .func (PySem.W.fnOf "cleared" "cleared" (defArgs s_cleared) (defBody s_cleared) (defScope s_cleared) .none kV_cleared dc_cleared pm_cleared an_cleared cd_cleared ct_cleared), sl_cleared⟩) (c_cleared : PySem.W.codeIn K cd_cleared "cleared" = true) (k_cleared : PySem.W.keepIn K (.ref f_cleared) = true)
    (a_rest : PySem.W.nsIn K mainGlobals "rest" = some (some (.ref f_rest))) (l_rest : K.lookup f_rest = some ⟨oc_rest, od_rest, .func (PySem.W.fnOf "rest" "rest" (defArgs s_rest) (defBody s_rest) (defScope s_rest) .none kV_rest dc_rest pm_rest an_rest cd_rest ct_rest), sl_rest⟩) (c_rest : PySem.W.codeIn K cd_rest "rest" = true) (k_rest : PySem.W.keepIn K (.ref f_rest) = true)
    (a_first_place : PySem.W.nsIn K mainGlobals "first_place" = some (some (.ref f_first_place))) (l_first_place : K.lookup f_first_place = some ⟨oc_first_place, od_first_place, .func (PySem.W.fnOf "first_place" "first_place" (defArgs s_first_place) (defBody s_first_place) (defScope s_first_place) .none kV_first_place dc_first_place pm_first_place an_first_place cd_first_place ct_first_place), sl_first_place⟩) (c_first_place : PySem.W.codeIn K cd_first_place "first_place" = true) (k_first_place : PySem.W.keepIn K (.ref f_first_place) = true)
    (a_multiple : PySem.W.nsIn K mainGlobals "multiple" = some (some (.ref f_multiple))) (l_multiple : K.lookup f_multiple = some ⟨oc_multiple, od_multiple, .func (PySem.W.fnOf "multiple" "multiple" (defArgs s_multiple) (defBody s_multiple) (defScope s_multiple) .none kV_multiple dc_multiple pm_multiple an_multiple cd_multiple ct_multiple), sl_multiple⟩) (c_multiple : PySem.W.codeIn K cd_multiple "multiple" = true) (k_multiple : PySem.W.keepIn K (.ref f_multiple) = true)
    (a_inverse : PySem.W.nsIn K mainGlobals "inverse" = some (some (.ref f_inverse))) (l_inverse : K.lookup f_inverse = some ⟨oc_inverse, od_inverse, .func (PySem.W.fnOf "inverse" "inverse" (defArgs s_inverse) (defBody s_inverse) (defScope s_inverse) .none kV_inverse dc_inverse pm_inverse an_inverse cd_inverse ct_inverse), sl_inverse⟩) (c_inverse : PySem.W.codeIn K cd_inverse "inverse" = true) (k_inverse : PySem.W.keepIn K (.ref f_inverse) = true)
    (a_widened : PySem.W.nsIn K mainGlobals "widened" = some (some (.ref f_widened))) (l_widened : K.lookup f_widened = some ⟨oc_widened, od_widened, .func (PySem.W.fnOf "widened" "widened" (defArgs s_widened) (defBody s_widened) (defScope s_widened) .none kV_widened dc_widened pm_widened an_widened cd_widened ct_widened), sl_widened⟩) (c_widened : PySem.W.codeIn K cd_widened "widened" = true) (k_widened : PySem.W.keepIn K (.ref f_widened) = true)
    (a_free_spans_over : PySem.W.nsIn K mainGlobals "free_spans_over" = some (some (.ref f_free_spans_over))) (l_free_spans_over : K.lookup f_free_spans_over = some ⟨oc_free_spans_over, od_free_spans_over, .func (PySem.W.fnOf "free_spans_over" "free_spans_over" (defArgs s_free_spans_over) (defBody s_free_spans_over) (defScope s_free_spans_over) .none kV_free_spans_over dc_free_spans_over pm_free_spans_over an_free_spans_over cd_free_spans_over ct_free_spans_over), sl_free_spans_over⟩) (c_free_spans_over : PySem.W.codeIn K cd_free_spans_over "free_spans_over" = true) (k_free_spans_over : PySem.W.keepIn K (.ref f_free_spans_over) = true)
    (a_spans_by_depths : PySem.W.nsIn K mainGlobals "spans_by_depths" = some (some (.ref f_spans_by_depths))) (l_spans_by_depths : K.lookup f_spans_by_depths = some ⟨oc_spans_by_depths, od_spans_by_depths, .func (PySem.W.fnOf "spans_by_depths" "spans_by_depths" (defArgs s_spans_by_depths) (defBody s_spans_by_depths) (defScope s_spans_by_depths) .none kV_spans_by_depths dc_spans_by_depths pm_spans_by_depths an_spans_by_depths cd_spans_by_depths ct_spans_by_depths), sl_spans_by_depths⟩) (c_spans_by_depths : PySem.W.codeIn K cd_spans_by_depths "spans_by_depths" = true) (k_spans_by_depths : PySem.W.keepIn K (.ref f_spans_by_depths) = true)
    (a_even_depths : PySem.W.nsIn K mainGlobals "even_depths" = some (some (.ref f_even_depths))) (l_even_depths : K.lookup f_even_depths = some ⟨oc_even_depths, od_even_depths, .func (PySem.W.fnOf "even_depths" "even_depths" (defArgs s_even_depths) (defBody s_even_depths) (defScope s_even_depths) .none kV_even_depths dc_even_depths pm_even_depths an_even_depths cd_even_depths ct_even_depths), sl_even_depths⟩) (c_even_depths : PySem.W.codeIn K cd_even_depths "even_depths" = true) (k_even_depths : PySem.W.keepIn K (.ref f_even_depths) = true)
    (a_depth_of : PySem.W.nsIn K mainGlobals "depth_of" = some (some (.ref f_depth_of))) (l_depth_of : K.lookup f_depth_of = some ⟨oc_depth_of, od_depth_of, .func (PySem.W.fnOf "depth_of" "depth_of" (defArgs s_depth_of) (defBody s_depth_of) (defScope s_depth_of) .none kV_depth_of dc_depth_of pm_depth_of an_depth_of cd_depth_of ct_depth_of), sl_depth_of⟩) (c_depth_of : PySem.W.codeIn K cd_depth_of "depth_of" = true) (k_depth_of : PySem.W.keepIn K (.ref f_depth_of) = true)
    (a_deeper_ones : PySem.W.nsIn K mainGlobals "deeper_ones" = some (some (.ref f_deeper_ones))) (l_deeper_ones : K.lookup f_deeper_ones = some ⟨oc_deeper_ones, od_deeper_ones, .func (PySem.W.fnOf "deeper_ones" "deeper_ones" (defArgs s_deeper_ones) (defBody s_deeper_ones) (defScope s_deeper_ones) .none kV_deeper_ones dc_deeper_ones pm_deeper_ones an_deeper_ones cd_deeper_ones ct_deeper_ones), sl_deeper_ones⟩) (c_deeper_ones : PySem.W.codeIn K cd_deeper_ones "deeper_ones" = true) (k_deeper_ones : PySem.W.keepIn K (.ref f_deeper_ones) = true)
    (a_even_tops : PySem.W.nsIn K mainGlobals "even_tops" = some (some (.ref f_even_tops))) (l_even_tops : K.lookup f_even_tops = some ⟨oc_even_tops, od_even_tops, .func (PySem.W.fnOf "even_tops" "even_tops" (defArgs s_even_tops) (defBody s_even_tops) (defScope s_even_tops) .none kV_even_tops dc_even_tops pm_even_tops an_even_tops cd_even_tops ct_even_tops), sl_even_tops⟩) (c_even_tops : PySem.W.codeIn K cd_even_tops "even_tops" = true) (k_even_tops : PySem.W.keepIn K (.ref f_even_tops) = true)
    (a__law_within : PySem.W.nsIn K mainGlobals "_law_within" = some (some (.ref f__law_within))) (l__law_within : K.lookup f__law_within = some ⟨oc__law_within, od__law_within, .func (PySem.W.fnOf "_law_within" "_law_within" (defArgs s__law_within) (defBody s__law_within) (defScope s__law_within) .none kV__law_within dc__law_within pm__law_within an__law_within cd__law_within ct__law_within), sl__law_within⟩) (c__law_within : PySem.W.codeIn K cd__law_within "_law_within" = true) (k__law_within : PySem.W.keepIn K (.ref f__law_within) = true)
    (a_law : PySem.W.nsIn K mainGlobals "law" = some (some (.ref f_law))) (l_law : K.lookup f_law = some ⟨oc_law, od_law, .func (PySem.W.fnOf "law" "law" (defArgs s_law) (defBody s_law) (defScope s_law) .none kV_law dc_law pm_law an_law cd_law ct_law), sl_law⟩) (c_law : PySem.W.codeIn K cd_law "law" = true) (k_law : PySem.W.keepIn K (.ref f_law) = true)
    (z_abs : PySem.W.nsIn K mainGlobals "abs" = some none)
    (z_all : PySem.W.nsIn K mainGlobals "all" = some none)
    (z_any : PySem.W.nsIn K mainGlobals "any" = some none)
    (z_bool : PySem.W.nsIn K mainGlobals "bool" = some none)
    (z_enumerate : PySem.W.nsIn K mainGlobals "enumerate" = some none)
    (z_int : PySem.W.nsIn K mainGlobals "int" = some none)
    (z_isinstance : PySem.W.nsIn K mainGlobals "isinstance" = some none)
    (z_len : PySem.W.nsIn K mainGlobals "len" = some none)
    (z_list : PySem.W.nsIn K mainGlobals "list" = some none)
    (z_max : PySem.W.nsIn K mainGlobals "max" = some none)
    (z_min : PySem.W.nsIn K mainGlobals "min" = some none)
    (z_range : PySem.W.nsIn K mainGlobals "range" = some none)
    (z_repr : PySem.W.nsIn K mainGlobals "repr" = some none)
    (z_sum : PySem.W.nsIn K mainGlobals "sum" = some none)
    (z_tuple : PySem.W.nsIn K mainGlobals "tuple" = some none)
    (z_zip : PySem.W.nsIn K mainGlobals "zip" = some none)
    {a_BASES : Addr} {t0_BASES t1_BASES t2_BASES t3_BASES : Tok} {od_BASES : Option Addr} {n_BASES : Nat} {sl_BASES : Array (Option Value)} (v_BASES : PySem.W.nsIn K mainGlobals "BASES" = some (some (.ref a_BASES))) (w_BASES : K.lookup a_BASES = some ⟨.type "tuple", od_BASES, .seq #[.int 2 t0_BASES, .int 3 t1_BASES, .int 5 t2_BASES, .int 7 t3_BASES] n_BASES, sl_BASES⟩)
    {t_MOST_DIMENSIONS : Tok} (v_MOST_DIMENSIONS : PySem.W.nsIn K mainGlobals "MOST_DIMENSIONS" = some (some (.int 6 t_MOST_DIMENSIONS)))
    {t_MOST_DEPTH : Tok} (v_MOST_DEPTH : PySem.W.nsIn K mainGlobals "MOST_DEPTH" = some (some (.int 12 t_MOST_DEPTH)))
    {t_MOST_WIDTH : Tok} (v_MOST_WIDTH : PySem.W.nsIn K mainGlobals "MOST_WIDTH" = some (some (.int 12 t_MOST_WIDTH)))
    : ∃ fd : FuncData, (∀ (s : Shared) (u : Value), BindsTo s fd ⟨[u], []⟩ [("script", u)]) ∧ ∀ base : Heap, K.In base → base.Ns mainGlobals mg → FnG l.prog w K mg base CX0 10 fa fd ["script"] (spF K preLaw postLaw) := by
  have e := hfa.symm.trans (PySem.W.mg_of X G a_law)
  cases e
  have B : Bi K mg := ⟨PySem.W.mg_none_of X G z_abs, PySem.W.mg_none_of X G z_all, PySem.W.mg_none_of X G z_any, PySem.W.mg_none_of X G z_bool, PySem.W.mg_none_of X G z_enumerate, PySem.W.mg_none_of X G z_int, PySem.W.mg_none_of X G z_isinstance, PySem.W.mg_none_of X G z_len, PySem.W.mg_none_of X G z_list, PySem.W.mg_none_of X G z_max, PySem.W.mg_none_of X G z_min, PySem.W.mg_none_of X G z_range, PySem.W.mg_none_of X G z_repr, PySem.W.mg_none_of X G z_sum, PySem.W.mg_none_of X G z_tuple, PySem.W.mg_none_of X G z_zip, ⟨_, PySem.W.mg_of X G v_BASES, .inr ⟨_, _, _, w_BASES, rfl, rfl, szl (by simp), .cons ⟨_, rfl⟩ (.cons ⟨_, rfl⟩ (.cons ⟨_, rfl⟩ (.cons ⟨_, rfl⟩ (.nil))))⟩⟩, ⟨_, PySem.W.mg_of X G v_MOST_DIMENSIONS⟩, ⟨_, PySem.W.mg_of X G v_MOST_DEPTH⟩, ⟨_, PySem.W.mg_of X G v_MOST_WIDTH⟩⟩
  have F__law_spring := fun_mk (st := s__law_spring) l__law_spring c__law_spring k__law_spring
  have b__law_spring := F__law_spring.binds (ps := ["script", "turn", "salt"]) fun _ _ _ _ _ _ us hl => match us, hl with | [_, _, _], _ => rfl
  have F__law_draw := fun_mk (st := s__law_draw) l__law_draw c__law_draw k__law_draw
  have b__law_draw := F__law_draw.binds (ps := ["spring", "many"]) fun _ _ _ _ _ _ us hl => match us, hl with | [_, _], _ => rfl
  have F__law_pick := fun_mk (st := s__law_pick) l__law_pick c__law_pick k__law_pick
  have b__law_pick := F__law_pick.binds (ps := ["spring", "some"]) fun _ _ _ _ _ _ us hl => match us, hl with | [_, _], _ => rfl
  have F__law_line := fun_mk (st := s__law_line) l__law_line c__law_line k__law_line
  have b__law_line := F__law_line.binds (ps := ["spring", "p", "m"]) fun _ _ _ _ _ _ us hl => match us, hl with | [_, _, _], _ => rfl
  have F__law_table := fun_mk (st := s__law_table) l__law_table c__law_table k__law_table
  have b__law_table := F__law_table.binds (ps := ["spring", "p", "deep", "m"]) fun _ _ _ _ _ _ us hl => match us, hl with | [_, _, _, _], _ => rfl
  have F__law_most := fun_mk (st := s__law_most) l__law_most c__law_most k__law_most
  have b__law_most := F__law_most.binds (ps := ["p", "top"]) fun _ _ _ _ _ _ us hl => match us, hl with | [_, _], _ => rfl
  have F__law_net := fun_mk (st := s__law_net) l__law_net c__law_net k__law_net
  have b__law_net := F__law_net.binds (ps := ["spring", "top", "walk"]) fun _ _ _ _ _ _ us hl => match us, hl with | [_, _, _], _ => rfl
  have F__law_all_sides := fun_mk (st := s__law_all_sides) l__law_all_sides c__law_all_sides k__law_all_sides
  have b__law_all_sides := F__law_all_sides.binds (ps := ["many", "deep"]) fun _ _ _ _ _ _ us hl => match us, hl with | [_, _], _ => rfl
  have F__law_times := fun_mk (st := s__law_times) l__law_times c__law_times k__law_times
  have b__law_times := F__law_times.binds (ps := ["p", "left", "right"]) fun _ _ _ _ _ _ us hl => match us, hl with | [_, _, _], _ => rfl
  have F__law_point := fun_mk (st := s__law_point) l__law_point c__law_point k__law_point
  have b__law_point := F__law_point.binds (ps := ["web", "begin"]) fun _ _ _ _ _ _ us hl => match us, hl with | [_, _], _ => rfl
  have F__law_starts := fun_mk (st := s__law_starts) l__law_starts c__law_starts k__law_starts
  have b__law_starts := F__law_starts.binds (ps := ["p", "m"]) fun _ _ _ _ _ _ us hl => match us, hl with | [_, _], _ => rfl
  have F__law_points := fun_mk (st := s__law_points) l__law_points c__law_points k__law_points
  have b__law_points := F__law_points.binds (ps := ["web"]) fun _ _ _ _ _ _ us hl => match us, hl with | [_], _ => rfl
  have F__law_power := fun_mk (st := s__law_power) l__law_power c__law_power k__law_power
  have b__law_power := F__law_power.binds (ps := ["p", "many"]) fun _ _ _ _ _ _ us hl => match us, hl with | [_, _], _ => rfl
  have F__law_fronts := fun_mk (st := s__law_fronts) l__law_fronts c__law_fronts k__law_fronts
  have b__law_fronts := F__law_fronts.binds (ps := ["points", "sides"]) fun _ _ _ _ _ _ us hl => match us, hl with | [_, _], _ => rfl
  have F__law_evenly := fun_mk (st := s__law_evenly) l__law_evenly c__law_evenly k__law_evenly
  have b__law_evenly := F__law_evenly.binds (ps := ["p", "points", "sides"]) fun _ _ _ _ _ _ us hl => match us, hl with | [_, _, _], _ => rfl
  have F_is_whole := fun_mk (st := s_is_whole) l_is_whole c_is_whole k_is_whole
  have b_is_whole := F_is_whole.binds (ps := ["value"]) fun _ _ _ _ _ _ us hl => match us, hl with | [_], _ => rfl
  have F_is_base := fun_mk (st := s_is_base) l_is_base c_is_base k_is_base
  have b_is_base := F_is_base.binds (ps := ["value"]) fun _ _ _ _ _ _ us hl => match us, hl with | [_], _ => rfl
  have F_is_figure := fun_mk (st := s_is_figure) l_is_figure c_is_figure k_is_figure
  have b_is_figure := F_is_figure.binds (ps := ["base", "value"]) fun _ _ _ _ _ _ us hl => match us, hl with | [_, _], _ => rfl
  have F_is_row := fun_mk (st := s_is_row) l_is_row c_is_row k_is_row
  have b_is_row := F_is_row.binds (ps := ["base", "value", "least", "most"]) fun _ _ _ _ _ _ us hl => match us, hl with | [_, _, _, _], _ => rfl
  have F_are_rows := fun_mk (st := s_are_rows) l_are_rows c_are_rows k_are_rows
  have b_are_rows := F_are_rows.binds (ps := ["base", "value", "most_rows", "most_figures"]) fun _ _ _ _ _ _ us hl => match us, hl with | [_, _, _, _], _ => rfl
  have F_is_table := fun_mk (st := s_is_table) l_is_table c_is_table k_is_table
  have b_is_table := F_is_table.binds (ps := ["base", "value"]) fun _ _ _ _ _ _ us hl => match us, hl with | [_, _], _ => rfl
  have F_is_of_size := fun_mk (st := s_is_of_size) l_is_of_size c_is_of_size k_is_of_size
  have b_is_of_size := F_is_of_size.binds (ps := ["table", "depth", "width"]) fun _ _ _ _ _ _ us hl => match us, hl with | [_, _, _], _ => rfl
  have F_are_tables := fun_mk (st := s_are_tables) l_are_tables c_are_tables k_are_tables
  have b_are_tables := F_are_tables.binds (ps := ["base", "value"]) fun _ _ _ _ _ _ us hl => match us, hl with | [_, _], _ => rfl
  have F_is_net := fun_mk (st := s_is_net) l_is_net c_is_net k_is_net
  have b_is_net := F_is_net.binds (ps := ["value"]) fun _ _ _ _ _ _ us hl => match us, hl with | [_], _ => rfl
  have F_check_net := fun_mk (st := s_check_net) l_check_net c_check_net k_check_net
  have b_check_net := F_check_net.binds (ps := ["net"]) fun _ _ _ _ _ _ us hl => match us, hl with | [_], _ => rfl
  have F_cleared := fun_mk (st := s_cleared) l_cleared c_cleared k_cleared
  have b_cleared := F_cleared.binds (ps := ["base", "row", "lead", "place"]) fun _ _ _ _ _ _ us hl => match us, hl with | [_, _, _, _], _ => rfl
  have F_rest := fun_mk (st := s_rest) l_rest c_rest k_rest
  have b_rest := F_rest.binds (ps := ["base", "span", "row"]) fun _ _ _ _ _ _ us hl => match us, hl with | [_, _, _], _ => rfl
  have F_first_place := fun_mk (st := s_first_place) l_first_place c_first_place k_first_place
  have b_first_place := F_first_place.binds (ps := ["row"]) fun _ _ _ _ _ _ us hl => match us, hl with | [_], _ => rfl
  have F_multiple := fun_mk (st := s_multiple) l_multiple c_multiple k_multiple
  have b_multiple := F_multiple.binds (ps := ["base", "figure", "row"]) fun _ _ _ _ _ _ us hl => match us, hl with | [_, _, _], _ => rfl
  have F_inverse := fun_mk (st := s_inverse) l_inverse c_inverse k_inverse
  have b_inverse := F_inverse.binds (ps := ["base", "figure"]) fun _ _ _ _ _ _ us hl => match us, hl with | [_, _], _ => rfl
  have F_widened := fun_mk (st := s_widened) l_widened c_widened k_widened
  have b_widened := F_widened.binds (ps := ["base", "span", "row"]) fun _ _ _ _ _ _ us hl => match us, hl with | [_, _, _], _ => rfl
  have F_free_spans_over := fun_mk (st := s_free_spans_over) l_free_spans_over c_free_spans_over k_free_spans_over
  have b_free_spans_over := F_free_spans_over.binds (ps := ["base", "span", "table"]) fun _ _ _ _ _ _ us hl => match us, hl with | [_, _, _], _ => rfl
  have F_spans_by_depths := fun_mk (st := s_spans_by_depths) l_spans_by_depths c_spans_by_depths k_spans_by_depths
  have b_spans_by_depths := F_spans_by_depths.binds (ps := ["net", "spans_of_table"]) fun _ _ _ _ _ _ us hl => match us, hl with | [_, _], _ => rfl
  have F_even_depths := fun_mk (st := s_even_depths) l_even_depths c_even_depths k_even_depths
  have b_even_depths := F_even_depths.binds (ps := ["net"]) fun _ _ _ _ _ _ us hl => match us, hl with | [_], _ => rfl
  have F_depth_of := fun_mk (st := s_depth_of) l_depth_of c_depth_of k_depth_of
  have b_depth_of := F_depth_of.binds (ps := ["net"]) fun _ _ _ _ _ _ us hl => match us, hl with | [_], _ => rfl
  have F_deeper_ones := fun_mk (st := s_deeper_ones) l_deeper_ones c_deeper_ones k_deeper_ones
  have b_deeper_ones := F_deeper_ones.binds (ps := ["net", "depths"]) fun _ _ _ _ _ _ us hl => match us, hl with | [_, _], _ => rfl
  have F_even_tops := fun_mk (st := s_even_tops) l_even_tops c_even_tops k_even_tops
  have b_even_tops := F_even_tops.binds (ps := ["net"]) fun _ _ _ _ _ _ us hl => match us, hl with | [_], _ => rfl
  have F__law_within := fun_mk (st := s__law_within) l__law_within c__law_within k__law_within
  have b__law_within := F__law_within.binds (ps := ["sides", "others"]) fun _ _ _ _ _ _ us hl => match us, hl with | [_, _], _ => rfl
  have F_law := fun_mk (st := s_law) l_law c_law k_law
  refine ⟨PySem.W.fnOf "law" "law" (defArgs s_law) (defBody s_law) (defScope s_law) .none kV_law dc_law pm_law an_law cd_law ct_law, fun s u => .of_eq rfl, fun base _ _ => ?_⟩
  have d__law_spring : Df l.prog w K mg base 1 "_law_spring" f__law_spring _ ["script", "turn", "salt"] _ := ⟨PySem.W.mg_of X G a__law_spring, k__law_spring, b__law_spring, ok__law_spring F__law_spring B ⟩
  have d__law_draw : Df l.prog w K mg base 1 "_law_draw" f__law_draw _ ["spring", "many"] _ := ⟨PySem.W.mg_of X G a__law_draw, k__law_draw, b__law_draw, ok__law_draw F__law_draw B ⟩
  have d__law_pick : Df l.prog w K mg base 2 "_law_pick" f__law_pick _ ["spring", "some"] _ := ⟨PySem.W.mg_of X G a__law_pick, k__law_pick, b__law_pick, ok__law_pick F__law_pick B d__law_draw⟩
  have d__law_line : Df l.prog w K mg base 2 "_law_line" f__law_line _ ["spring", "p", "m"] _ := ⟨PySem.W.mg_of X G a__law_line, k__law_line, b__law_line, ok__law_line F__law_line B d__law_draw⟩
  have d__law_table : Df l.prog w K mg base 3 "_law_table" f__law_table _ ["spring", "p", "deep", "m"] _ := ⟨PySem.W.mg_of X G a__law_table, k__law_table, b__law_table, ok__law_table F__law_table B d__law_draw d__law_line d__law_pick⟩
  have d__law_most : Df l.prog w K mg base 1 "_law_most" f__law_most _ ["p", "top"] _ := ⟨PySem.W.mg_of X G a__law_most, k__law_most, b__law_most, ok__law_most F__law_most B ⟩
  have d__law_net : Df l.prog w K mg base 4 "_law_net" f__law_net _ ["spring", "top", "walk"] _ := ⟨PySem.W.mg_of X G a__law_net, k__law_net, b__law_net, ok__law_net F__law_net B d__law_draw d__law_pick d__law_table d__law_most⟩
  have d__law_all_sides : Df l.prog w K mg base 1 "_law_all_sides" f__law_all_sides _ ["many", "deep"] _ := ⟨PySem.W.mg_of X G a__law_all_sides, k__law_all_sides, b__law_all_sides, ok__law_all_sides F__law_all_sides B ⟩
  have d__law_times : Df l.prog w K mg base 1 "_law_times" f__law_times _ ["p", "left", "right"] _ := ⟨PySem.W.mg_of X G a__law_times, k__law_times, b__law_times, ok__law_times F__law_times B ⟩
  have d__law_point : Df l.prog w K mg base 2 "_law_point" f__law_point _ ["web", "begin"] _ := ⟨PySem.W.mg_of X G a__law_point, k__law_point, b__law_point, ok__law_point F__law_point B d__law_times⟩
  have d__law_starts : Df l.prog w K mg base 1 "_law_starts" f__law_starts _ ["p", "m"] _ := ⟨PySem.W.mg_of X G a__law_starts, k__law_starts, b__law_starts, ok__law_starts F__law_starts B ⟩
  have d__law_points : Df l.prog w K mg base 3 "_law_points" f__law_points _ ["web"] _ := ⟨PySem.W.mg_of X G a__law_points, k__law_points, b__law_points, ok__law_points F__law_points B d__law_point d__law_starts⟩
  have d__law_power : Df l.prog w K mg base 1 "_law_power" f__law_power _ ["p", "many"] _ := ⟨PySem.W.mg_of X G a__law_power, k__law_power, b__law_power, ok__law_power F__law_power B ⟩
  have d__law_fronts : Df l.prog w K mg base 1 "_law_fronts" f__law_fronts _ ["points", "sides"] _ := ⟨PySem.W.mg_of X G a__law_fronts, k__law_fronts, b__law_fronts, ok__law_fronts F__law_fronts B ⟩
  have d__law_evenly : Df l.prog w K mg base 2 "_law_evenly" f__law_evenly _ ["p", "points", "sides"] _ := ⟨PySem.W.mg_of X G a__law_evenly, k__law_evenly, b__law_evenly, ok__law_evenly F__law_evenly B d__law_power d__law_fronts⟩
  have d_is_whole : Df l.prog w K mg base 1 "is_whole" f_is_whole _ ["value"] _ := ⟨PySem.W.mg_of X G a_is_whole, k_is_whole, b_is_whole, ok_is_whole F_is_whole B ⟩
  have d_is_base : Df l.prog w K mg base 2 "is_base" f_is_base _ ["value"] _ := ⟨PySem.W.mg_of X G a_is_base, k_is_base, b_is_base, ok_is_base F_is_base B d_is_whole⟩
  have d_is_figure : Df l.prog w K mg base 2 "is_figure" f_is_figure _ ["base", "value"] _ := ⟨PySem.W.mg_of X G a_is_figure, k_is_figure, b_is_figure, ok_is_figure F_is_figure B d_is_whole⟩
  have d_is_row : Df l.prog w K mg base 3 "is_row" f_is_row _ ["base", "value", "least", "most"] _ := ⟨PySem.W.mg_of X G a_is_row, k_is_row, b_is_row, ok_is_row F_is_row B d_is_figure⟩
  have d_are_rows : Df l.prog w K mg base 4 "are_rows" f_are_rows _ ["base", "value", "most_rows", "most_figures"] _ := ⟨PySem.W.mg_of X G a_are_rows, k_are_rows, b_are_rows, ok_are_rows F_are_rows B d_is_row⟩
  have d_is_table : Df l.prog w K mg base 5 "is_table" f_is_table _ ["base", "value"] _ := ⟨PySem.W.mg_of X G a_is_table, k_is_table, b_is_table, ok_is_table F_is_table B d_are_rows⟩
  have d_is_of_size : Df l.prog w K mg base 1 "is_of_size" f_is_of_size _ ["table", "depth", "width"] _ := ⟨PySem.W.mg_of X G a_is_of_size, k_is_of_size, b_is_of_size, ok_is_of_size F_is_of_size B ⟩
  have d_are_tables : Df l.prog w K mg base 6 "are_tables" f_are_tables _ ["base", "value"] _ := ⟨PySem.W.mg_of X G a_are_tables, k_are_tables, b_are_tables, ok_are_tables F_are_tables B d_is_table d_is_of_size⟩
  have d_is_net : Df l.prog w K mg base 7 "is_net" f_is_net _ ["value"] _ := ⟨PySem.W.mg_of X G a_is_net, k_is_net, b_is_net, ok_is_net F_is_net B d_is_base d_are_tables⟩
  have d_check_net : Df l.prog w K mg base 8 "check_net" f_check_net _ ["net"] _ := ⟨PySem.W.mg_of X G a_check_net, k_check_net, b_check_net, ok_check_net F_check_net B d_is_net⟩
  have d_cleared : Df l.prog w K mg base 1 "cleared" f_cleared _ ["base", "row", "lead", "place"] _ := ⟨PySem.W.mg_of X G a_cleared, k_cleared, b_cleared, ok_cleared F_cleared B ⟩
  have d_rest : Df l.prog w K mg base 2 "rest" f_rest _ ["base", "span", "row"] _ := ⟨PySem.W.mg_of X G a_rest, k_rest, b_rest, ok_rest F_rest B d_cleared⟩
  have d_first_place : Df l.prog w K mg base 1 "first_place" f_first_place _ ["row"] _ := ⟨PySem.W.mg_of X G a_first_place, k_first_place, b_first_place, ok_first_place F_first_place B ⟩
  have d_multiple : Df l.prog w K mg base 1 "multiple" f_multiple _ ["base", "figure", "row"] _ := ⟨PySem.W.mg_of X G a_multiple, k_multiple, b_multiple, ok_multiple F_multiple B ⟩
  have d_inverse : Df l.prog w K mg base 1 "inverse" f_inverse _ ["base", "figure"] _ := ⟨PySem.W.mg_of X G a_inverse, k_inverse, b_inverse, ok_inverse F_inverse B ⟩
  have d_widened : Df l.prog w K mg base 3 "widened" f_widened _ ["base", "span", "row"] _ := ⟨PySem.W.mg_of X G a_widened, k_widened, b_widened, ok_widened F_widened B d_rest d_first_place d_multiple d_inverse⟩
  have d_free_spans_over : Df l.prog w K mg base 4 "free_spans_over" f_free_spans_over _ ["base", "span", "table"] _ := ⟨PySem.W.mg_of X G a_free_spans_over, k_free_spans_over, b_free_spans_over, ok_free_spans_over F_free_spans_over B d_widened⟩
  have d_spans_by_depths : Df l.prog w K mg base 5 "spans_by_depths" f_spans_by_depths _ ["net", "spans_of_table"] _ := ⟨PySem.W.mg_of X G a_spans_by_depths, k_spans_by_depths, b_spans_by_depths, ok_spans_by_depths F_spans_by_depths B d_free_spans_over⟩
  have d_even_depths : Df l.prog w K mg base 6 "even_depths" f_even_depths _ ["net"] _ := ⟨PySem.W.mg_of X G a_even_depths, k_even_depths, b_even_depths, ok_even_depths F_even_depths B d_spans_by_depths d_free_spans_over⟩
  have d_depth_of : Df l.prog w K mg base 1 "depth_of" f_depth_of _ ["net"] _ := ⟨PySem.W.mg_of X G a_depth_of, k_depth_of, b_depth_of, ok_depth_of F_depth_of B ⟩
  have d_deeper_ones : Df l.prog w K mg base 2 "deeper_ones" f_deeper_ones _ ["net", "depths"] _ := ⟨PySem.W.mg_of X G a_deeper_ones, k_deeper_ones, b_deeper_ones, ok_deeper_ones F_deeper_ones B d_depth_of⟩
  have d_even_tops : Df l.prog w K mg base 9 "even_tops" f_even_tops _ ["net"] _ := ⟨PySem.W.mg_of X G a_even_tops, k_even_tops, b_even_tops, ok_even_tops F_even_tops B d_check_net d_even_depths d_deeper_ones⟩
  have d__law_within : Df l.prog w K mg base 1 "_law_within" f__law_within _ ["sides", "others"] _ := ⟨PySem.W.mg_of X G a__law_within, k__law_within, b__law_within, ok__law_within F__law_within B ⟩
  exact ok_law F_law B d__law_spring d__law_net d__law_all_sides d__law_points d__law_evenly d_even_tops d__law_within
end Lw

open PySem PySem.W PyProof.Rows in
set_option maxRecDepth 100000 in
set_option maxHeartbeats 0 in
theorem PySem.Challenge.cw_evennets_k14_whole_tops_of_even_depths_holds : PySem.Challenge.rw_evennets_k14_whole_tops_of_even_depths.Holds := by
  w_on; o_law; k_head; (case hw => w_witness2)
  k_fill
  refine Dl.walkG (l := PySem.Challenge.rw_evennets_k14_whole_tops_of_even_depths) (x := "script") (k := 10) rfl rfl ⟨rfl, by decide, by decide⟩ (fun w h Y => PySem.W.kIn_of Y) ?F
  case F =>
    intro w mg fa h KX G hmg
    refine' Lw.all_mk KX G hmg ?a__law_spring ?l__law_spring ?c__law_spring ?k__law_spring ?a__law_draw ?l__law_draw ?c__law_draw ?k__law_draw ?a__law_pick ?l__law_pick ?c__law_pick ?k__law_pick ?a__law_line ?l__law_line ?c__law_line ?k__law_line ?a__law_table ?l__law_table ?c__law_table ?k__law_table ?a__law_most ?l__law_most ?c__law_most ?k__law_most ?a__law_net ?l__law_net ?c__law_net ?k__law_net ?a__law_all_sides ?l__law_all_sides ?c__law_all_sides ?k__law_all_sides ?a__law_times ?l__law_times ?c__law_times ?k__law_times ?a__law_point ?l__law_point ?c__law_point ?k__law_point ?a__law_starts ?l__law_starts ?c__law_starts ?k__law_starts ?a__law_points ?l__law_points ?c__law_points ?k__law_points ?a__law_power ?l__law_power ?c__law_power ?k__law_power ?a__law_fronts ?l__law_fronts ?c__law_fronts ?k__law_fronts ?a__law_evenly ?l__law_evenly ?c__law_evenly ?k__law_evenly ?a_is_whole ?l_is_whole ?c_is_whole ?k_is_whole ?a_is_base ?l_is_base ?c_is_base ?k_is_base ?a_is_figure ?l_is_figure ?c_is_figure ?k_is_figure ?a_is_row ?l_is_row ?c_is_row ?k_is_row ?a_are_rows ?l_are_rows ?c_are_rows ?k_are_rows ?a_is_table ?l_is_table ?c_is_table ?k_is_table ?a_is_of_size ?l_is_of_size ?c_is_of_size ?k_is_of_size ?a_are_tables ?l_are_tables ?c_are_tables ?k_are_tables ?a_is_net ?l_is_net ?c_is_net ?k_is_net ?a_check_net ?l_check_net ?c_check_net ?k_check_net ?a_cleared ?l_cleared ?c_cleared ?k_cleared ?a_rest ?l_rest ?c_rest ?k_rest ?a_first_place ?l_first_place ?c_first_place ?k_first_place ?a_multiple ?l_multiple ?c_multiple ?k_multiple ?a_inverse ?l_inverse ?c_inverse ?k_inverse ?a_widened ?l_widened ?c_widened ?k_widened ?a_free_spans_over ?l_free_spans_over ?c_free_spans_over ?k_free_spans_over ?a_spans_by_depths ?l_spans_by_depths ?c_spans_by_depths ?k_spans_by_depths ?a_even_depths ?l_even_depths ?c_even_depths ?k_even_depths ?a_depth_of ?l_depth_of ?c_depth_of ?k_depth_of ?a_deeper_ones ?l_deeper_ones ?c_deeper_ones ?k_deeper_ones ?a_even_tops ?l_even_tops ?c_even_tops ?k_even_tops ?a__law_within ?l__law_within ?c__law_within ?k__law_within ?a_law ?l_law ?c_law ?k_law ?z_abs ?z_all ?z_any ?z_bool ?z_enumerate ?z_int ?z_isinstance ?z_len ?z_list ?z_max ?z_min ?z_range ?z_repr ?z_sum ?z_tuple ?z_zip ?v_BASES ?w_BASES ?v_MOST_DIMENSIONS ?v_MOST_DEPTH ?v_MOST_WIDTH
    (case a__law_spring => k_is)
    (case l__law_spring => k_is)
    (case c__law_spring => k_is)
    (case k__law_spring => k_is)
    (case a__law_draw => k_is)
    (case l__law_draw => k_is)
    (case c__law_draw => k_is)
    (case k__law_draw => k_is)
    (case a__law_pick => k_is)
    (case l__law_pick => k_is)
    (case c__law_pick => k_is)
    (case k__law_pick => k_is)
    (case a__law_line => k_is)
    (case l__law_line => k_is)
    (case c__law_line => k_is)
    (case k__law_line => k_is)
    (case a__law_table => k_is)
    (case l__law_table => k_is)
    (case c__law_table => k_is)
    (case k__law_table => k_is)
    (case a__law_most => k_is)
    (case l__law_most => k_is)
    (case c__law_most => k_is)
    (case k__law_most => k_is)
    (case a__law_net => k_is)
    (case l__law_net => k_is)
    (case c__law_net => k_is)
    (case k__law_net => k_is)
    (case a__law_all_sides => k_is)
    (case l__law_all_sides => k_is)
    (case c__law_all_sides => k_is)
    (case k__law_all_sides => k_is)
    (case a__law_times => k_is)
    (case l__law_times => k_is)
    (case c__law_times => k_is)
    (case k__law_times => k_is)
    (case a__law_point => k_is)
    (case l__law_point => k_is)
    (case c__law_point => k_is)
    (case k__law_point => k_is)
    (case a__law_starts => k_is)
    (case l__law_starts => k_is)
    (case c__law_starts => k_is)
    (case k__law_starts => k_is)
    (case a__law_points => k_is)
    (case l__law_points => k_is)
    (case c__law_points => k_is)
    (case k__law_points => k_is)
    (case a__law_power => k_is)
    (case l__law_power => k_is)
    (case c__law_power => k_is)
    (case k__law_power => k_is)
    (case a__law_fronts => k_is)
    (case l__law_fronts => k_is)
    (case c__law_fronts => k_is)
    (case k__law_fronts => k_is)
    (case a__law_evenly => k_is)
    (case l__law_evenly => k_is)
    (case c__law_evenly => k_is)
    (case k__law_evenly => k_is)
    (case a_is_whole => k_is)
    (case l_is_whole => k_is)
    (case c_is_whole => k_is)
    (case k_is_whole => k_is)
    (case a_is_base => k_is)
    (case l_is_base => k_is)
    (case c_is_base => k_is)
    (case k_is_base => k_is)
    (case a_is_figure => k_is)
    (case l_is_figure => k_is)
    (case c_is_figure => k_is)
    (case k_is_figure => k_is)
    (case a_is_row => k_is)
    (case l_is_row => k_is)
    (case c_is_row => k_is)
    (case k_is_row => k_is)
    (case a_are_rows => k_is)
    (case l_are_rows => k_is)
    (case c_are_rows => k_is)
    (case k_are_rows => k_is)
    (case a_is_table => k_is)
    (case l_is_table => k_is)
    (case c_is_table => k_is)
    (case k_is_table => k_is)
    (case a_is_of_size => k_is)
    (case l_is_of_size => k_is)
    (case c_is_of_size => k_is)
    (case k_is_of_size => k_is)
    (case a_are_tables => k_is)
    (case l_are_tables => k_is)
    (case c_are_tables => k_is)
    (case k_are_tables => k_is)
    (case a_is_net => k_is)
    (case l_is_net => k_is)
    (case c_is_net => k_is)
    (case k_is_net => k_is)
    (case a_check_net => k_is)
    (case l_check_net => k_is)
    (case c_check_net => k_is)
    (case k_check_net => k_is)
    (case a_cleared => k_is)
    (case l_cleared => k_is)
    (case c_cleared => k_is)
    (case k_cleared => k_is)
    (case a_rest => k_is)
    (case l_rest => k_is)
    (case c_rest => k_is)
    (case k_rest => k_is)
    (case a_first_place => k_is)
    (case l_first_place => k_is)
    (case c_first_place => k_is)
    (case k_first_place => k_is)
    (case a_multiple => k_is)
    (case l_multiple => k_is)
    (case c_multiple => k_is)
    (case k_multiple => k_is)
    (case a_inverse => k_is)
    (case l_inverse => k_is)
    (case c_inverse => k_is)
    (case k_inverse => k_is)
    (case a_widened => k_is)
    (case l_widened => k_is)
    (case c_widened => k_is)
    (case k_widened => k_is)
    (case a_free_spans_over => k_is)
    (case l_free_spans_over => k_is)
    (case c_free_spans_over => k_is)
    (case k_free_spans_over => k_is)
    (case a_spans_by_depths => k_is)
    (case l_spans_by_depths => k_is)
    (case c_spans_by_depths => k_is)
    (case k_spans_by_depths => k_is)
    (case a_even_depths => k_is)
    (case l_even_depths => k_is)
    (case c_even_depths => k_is)
    (case k_even_depths => k_is)
    (case a_depth_of => k_is)
    (case l_depth_of => k_is)
    (case c_depth_of => k_is)
    (case k_depth_of => k_is)
    (case a_deeper_ones => k_is)
    (case l_deeper_ones => k_is)
    (case c_deeper_ones => k_is)
    (case k_deeper_ones => k_is)
    (case a_even_tops => k_is)
    (case l_even_tops => k_is)
    (case c_even_tops => k_is)
    (case k_even_tops => k_is)
    (case a__law_within => k_is)
    (case l__law_within => k_is)
    (case c__law_within => k_is)
    (case k__law_within => k_is)
    (case a_law => k_is)
    (case l_law => k_is)
    (case c_law => k_is)
    (case k_law => k_is)
    (case z_abs => k_is)
    (case z_all => k_is)
    (case z_any => k_is)
    (case z_bool => k_is)
    (case z_enumerate => k_is)
    (case z_int => k_is)
    (case z_isinstance => k_is)
    (case z_len => k_is)
    (case z_list => k_is)
    (case z_max => k_is)
    (case z_min => k_is)
    (case z_range => k_is)
    (case z_repr => k_is)
    (case z_sum => k_is)
    (case z_tuple => k_is)
    (case z_zip => k_is)
    (case v_BASES => k_is)
    (case w_BASES => k_is)
    (case v_MOST_DIMENSIONS => k_is)
    (case v_MOST_DEPTH => k_is)
    (case v_MOST_WIDTH => k_is)

