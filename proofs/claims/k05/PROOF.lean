import PyProof.Rows.All
import Wide.All
import OpenK.AllK
import Wide.FinOn
import HandS.ForMost
import HandS.IsInst
import HandS.TupAny
import HandS.TupMul
import HandS.Lambda
import HandS.Gcd
import KE.GoesNew
import PyProof.ReprRoads
import PyProof.ConsumeWalk
import PyProof.Rows.RegStrFacts
import PySem.Challenge.RW_evennets_k05_whole_points_and_places
set_option Elab.async false
set_option linter.all false
set_option maxRecDepth 100000
set_option maxHeartbeats 4000000
/-! ## data over the layer: values are read as data, heaps are hidden -/
namespace Dl
open PySem PySem.Spec PyProof.Rows L2

abbrev D := PyData
abbrev Fg := PySem.W.Frag
def keyD : Key → D
  | .inl i => .int i
  | .inr x => .str x

/-- a heap without its lists -/
def thin (G : Hp) : Hp := fun b => match G b with | some (.lst _) => none | o => o
theorem thin_same (G : Hp) : Same (thin G) G := fun b o h => by
  unfold thin at h
  cases e : G b with
  | none => rw [e] at h; cases h
  | some u => rw [e] at h; cases u <;> first | exact h | (cases h)
theorem thin_no {G : Hp} {b : Addr} {xs : List V} : thin G b ≠ some (.lst xs) := fun h => by
  unfold thin at h
  cases e : G b with
  | none => rw [e] at h; cases h
  | some u => rw [e] at h; cases u <;> (cases h)
theorem thin_of {G : Hp} {b : Addr} {o : HO} (h : G b = some o) (n : ∀ xs, o ≠ .lst xs) : thin G b = some o := by
  unfold thin
  rw [h]
  cases o with
  | lst xs => exact absurd rfl (n xs)
  | _ => rfl
theorem thin_mono {G G' : Hp} (e : Same G G') : Same (thin G) (thin G') := fun b o h => thin_of (e _ _ (thin_same G b o h)) fun xs z => by subst z; exact thin_no h
theorem thin_thin (G : Hp) : Same (thin G) (thin (thin G)) := fun b o h => thin_of h fun xs z => by subst z; exact thin_no h
mutual
inductive Rp (K : Fg) (H : Hp) : V → D → Prop
  | non : Rp K H .non .none
  | bl (b : Bool) : Rp K H (.bl b) (.bool b)
  | int (i : Int) : Rp K H (.int i) (.int i)
  | str (x : Str) : Rp K H (.str x) (.str x)
  | lst {a : Addr} {xs : List V} {ds : List D} : H a = some (.lst xs) → RpA K H xs ds → Rp K H (.ref a) (.list ds)
  | tup {a : Addr} {xs : List V} {ds : List D} : SqT K H a xs → RpA K H xs ds → Rp K H (.ref a) (.tuple ds)
  | dic {a : Addr} {kvs : List (Key × V)} {ds : List (D × D)} : H a = some (.dK kvs) → RpK K H kvs ds → Rp K H (.ref a) (.dict ds)
  | scr {a : Addr} {ns : List Int} : SqL K (thin H) a (ns.map V.int) → Rp K H (.ref a) (.dict [(.list (ns.map PyData.int), .none)])
inductive RpA (K : Fg) (H : Hp) : List V → List D → Prop
  | nil : RpA K H [] []
  | cons {v : V} {vs : List V} {d : D} {ds : List D} : Rp K H v d → RpA K H vs ds → RpA K H (v :: vs) (d :: ds)
inductive RpK (K : Fg) (H : Hp) : List (Key × V) → List (D × D) → Prop
  | nil : RpK K H [] []
  | cons {k : Key} {v : V} {kvs : List (Key × V)} {d : D} {ds : List (D × D)} : Rp K H v d → RpK K H kvs ds → RpK K H ((k, v) :: kvs) ((keyD k, d) :: ds)
end

theorem rd_mono {H H' : Hp} (e : Same H H') {a : Addr} {u : HO} (h : Rd H a u) : Rd H' a u := by
  rcases h with h | ⟨o, h⟩
  · exact .inl (e _ _ h)
  · exact .inr ⟨o, e _ _ h⟩
theorem sqL_mono {K : Fg} {H H' : Hp} (e : Same H H') {a : Addr} {xs : List V} (h : SqL K H a xs) : SqL K H' a xs := h.imp (rd_mono e) id
theorem sqT_mono {K : Fg} {H H' : Hp} (e : Same H H') {a : Addr} {xs : List V} (h : SqT K H a xs) : SqT K H' a xs := h.imp (rd_mono e) id

mutual
theorem Rp.mono {K : Fg} {H H' : Hp} (e : Same H H') : ∀ {v : V} {d : D}, Rp K H v d → Rp K H' v d
  | _, _, .non => .non
  | _, _, .bl b => .bl b
  | _, _, .int i => .int i
  | _, _, .str x => .str x
  | _, _, .lst s r => .lst (e _ _ s) (RpA.mono e r)
  | _, _, .tup s r => .tup (sqT_mono e s) (RpA.mono e r)
  | _, _, .dic h r => .dic (e _ _ h) (RpK.mono e r)
  | _, _, .scr h => .scr (sqL_mono (thin_mono e) h)
theorem RpA.mono {K : Fg} {H H' : Hp} (e : Same H H') : ∀ {vs : List V} {ds : List D}, RpA K H vs ds → RpA K H' vs ds
  | _, _, .nil => .nil
  | _, _, .cons r t => .cons (Rp.mono e r) (RpA.mono e t)
theorem RpK.mono {K : Fg} {H H' : Hp} (e : Same H H') : ∀ {vs : List (Key × V)} {ds : List (D × D)}, RpK K H vs ds → RpK K H' vs ds
  | _, _, .nil => .nil
  | _, _, .cons r t => .cons (Rp.mono e r) (RpK.mono e t)
end

section
variable {K : Fg} {H : Hp}
theorem RpA.length : ∀ {vs : List V} {ds : List D}, RpA K H vs ds → vs.length = ds.length
  | _, _, .nil => rfl
  | _, _, .cons _ t => congrArg (· + 1) t.length
theorem RpA.get : ∀ {vs : List V} {ds : List D} {i : Nat} {d : D}, RpA K H vs ds → ds[i]? = some d → ∃ v, vs[i]? = some v ∧ Rp K H v d
  | _, _, _, _, .nil, e => by simp at e
  | _, _, 0, _, .cons r _, e => by simp at e; subst e; exact ⟨_, rfl, r⟩
  | _, _, i + 1, d, .cons _ t, e => by
    obtain ⟨u, h1, h2⟩ := RpA.get (i := i) (d := d) t (by simpa using e)
    exact ⟨u, by simpa using h1, h2⟩
theorem RpA.getV : ∀ {vs : List V} {ds : List D} {i : Nat} {v : V}, RpA K H vs ds → vs[i]? = some v → ∃ d, ds[i]? = some d ∧ Rp K H v d
  | _, _, _, _, .nil, e => by simp at e
  | _, _, 0, _, .cons r _, e => by simp at e; subst e; exact ⟨_, rfl, r⟩
  | _, _, i + 1, v, .cons _ t, e => by
    obtain ⟨u, h1, h2⟩ := RpA.getV (i := i) (v := v) t (by simpa using e)
    exact ⟨u, by simpa using h1, h2⟩
theorem RpA.append : ∀ {vs ws : List V} {ds es : List D}, RpA K H vs ds → RpA K H ws es → RpA K H (vs ++ ws) (ds ++ es)
  | _, _, _, _, .nil, s => s
  | _, _, _, _, .cons r t, s => .cons r (RpA.append t s)
theorem RpA.take : ∀ {vs : List V} {ds : List D} (n : Nat), RpA K H vs ds → RpA K H (vs.take n) (ds.take n)
  | _, _, 0, _ => .nil
  | _, _, _ + 1, .nil => .nil
  | _, _, n + 1, .cons r t => .cons r (RpA.take n t)
theorem RpA.drop : ∀ {vs : List V} {ds : List D} (n : Nat), RpA K H vs ds → RpA K H (vs.drop n) (ds.drop n)
  | _, _, 0, r => r
  | _, _, _ + 1, .nil => .nil
  | _, _, n + 1, .cons _ t => RpA.drop n t
theorem RpA.eraseIdx : ∀ {vs : List V} {ds : List D} (n : Nat), RpA K H vs ds → RpA K H (vs.eraseIdx n) (ds.eraseIdx n)
  | _, _, _, .nil => .nil
  | _, _, 0, .cons _ t => t
  | _, _, n + 1, .cons r t => .cons r (RpA.eraseIdx n t)
theorem RpA.set {v : V} {d : D} (r : Rp K H v d) : ∀ {vs : List V} {ds : List D} (n : Nat), RpA K H vs ds → RpA K H (vs.set n v) (ds.set n d)
  | _, _, _, .nil => .nil
  | _, _, 0, .cons _ t => .cons r t
  | _, _, n + 1, .cons q t => .cons q (RpA.set r n t)
theorem RpA.snoc {vs : List V} {ds : List D} {v : V} {d : D} (a : RpA K H vs ds) (r : Rp K H v d) : RpA K H (vs ++ [v]) (ds ++ [d]) := a.append (.cons r .nil)
theorem RpA.replicate {v : V} {d : D} (r : Rp K H v d) : ∀ n : Nat, RpA K H (List.replicate n v) (List.replicate n d)
  | 0 => .nil
  | n + 1 => .cons r (RpA.replicate r n)
theorem RpA.isEmpty {vs : List V} {ds : List D} (r : RpA K H vs ds) : vs.isEmpty = ds.isEmpty := by cases r <;> rfl
theorem RpA.ints : ∀ {vs : List V} {ns : List Int}, RpA K H vs (ns.map PyData.int) → vs = ns.map V.int
  | vs, [], r => by cases r; rfl
  | vs, n :: ns, r => by
    cases r with
    | cons r t => cases r; rw [RpA.ints t]; rfl
theorem RpA.of_ints : ∀ (ns : List Int), RpA K H (ns.map V.int) (ns.map PyData.int)
  | [] => .nil
  | n :: ns => .cons (.int n) (RpA.of_ints ns)
theorem RpA.bools : ∀ {vs : List V} {ns : List Bool}, RpA K H vs (ns.map PyData.bool) → vs = ns.map V.bl
  | vs, [], r => by cases r; rfl
  | vs, n :: ns, r => by
    cases r with
    | cons r t => cases r; rw [RpA.bools t]; rfl
theorem Rp.int_inv {v : V} {i : Int} (r : Rp K H v (.int i)) : v = .int i := by cases r; rfl
theorem Rp.bl_inv {v : V} {b : Bool} (r : Rp K H v (.bool b)) : v = .bl b := by cases r; rfl
theorem Rp.str_inv {v : V} {x : Str} (r : Rp K H v (.str x)) : v = .str x := by cases r; rfl
theorem Rp.non_inv {v : V} (r : Rp K H v .none) : v = .non := by cases r; rfl
theorem Rp.lst_inv {v : V} {ds : List D} (r : Rp K H v (.list ds)) : ∃ a xs, v = .ref a ∧ H a = some (.lst xs) ∧ RpA K H xs ds := by
  cases r with
  | lst s r => exact ⟨_, _, rfl, s, r⟩
theorem Rp.tup_inv {v : V} {ds : List D} (r : Rp K H v (.tuple ds)) : ∃ a xs, v = .ref a ∧ SqT K H a xs ∧ RpA K H xs ds := by
  cases r with
  | tup s r => exact ⟨_, _, rfl, s, r⟩
end

/-- the script, told apart from all lists -/
def scrD (ns : List Int) : D := .dict [(.list (ns.map PyData.int), .none)]
theorem keyD_ne (k : Key) (xs : List D) : keyD k ≠ .list xs := by cases k <;> (intro e; cases e)
theorem RpK.no_list {K : Fg} {H : Hp} : ∀ {kvs : List (Key × V)} {ds : List (D × D)}, RpK K H kvs ds → ∀ p ∈ ds, ∀ xs, p.1 ≠ .list xs
  | _, _, .nil, p, hp, _ => by cases hp
  | _, _, .cons (k := k) r t, p, hp, xs => by
    rcases List.mem_cons.mp hp with z | z
    · rw [z]; exact keyD_ne k xs
    · exact RpK.no_list t p z xs
theorem Rp.scr_inv {K : Fg} {H : Hp} {v : V} {ns : List Int} (r : Rp K H v (scrD ns)) : ∃ a, v = .ref a ∧ SqL K H a (ns.map V.int) := by
  generalize e : scrD ns = d at r
  cases r with
  | dic h r =>
    unfold scrD at e
    cases e
    exact absurd rfl (r.no_list _ (List.mem_singleton.mpr rfl) _)
  | scr h =>
    unfold scrD at e
    injection e with e
    injection e with e _
    injection e with e _
    injection e with e
    have inj : ∀ (l l' : List Int), l.map PyData.int = l'.map PyData.int → l = l' := fun l => by
      induction l with
      | nil => intro l' h; cases l' with | nil => rfl | cons _ _ => cases h
      | cons x l ih =>
        intro l' h
        cases l' with
        | nil => cases h
        | cons y l' => injection h with h1 h2; injection h1 with h1; rw [h1, ih l' h2]
    rw [inj _ _ e]
    exact ⟨_, rfl, sqL_mono (thin_same H) h⟩
  | _ => cases e

/-! ### the ground: what data leans on -/
def ExB (sa : Option Addr) (H H' : Hp) : Prop := ∀ b o, sa ≠ some b → H b = some o → H' b = some o
theorem ExB.refl (sa : Option Addr) (H : Hp) : ExB sa H H := fun _ _ _ h => h
theorem ExB.trans {sa : Option Addr} {H H1 H2 : Hp} (a : ExB sa H H1) (b : ExB sa H1 H2) : ExB sa H H2 := fun c o n h => b c o n (a c o n h)
theorem ExB.of {sa : Option Addr} {H H' : Hp} (e : Same H H') : ExB sa H H' := fun b o _ h => e b o h
def SprV (H : Hp) (a : Addr) : Prop := ∃ c s n : Int, H a = some (.lst [.int c, .int s, .int n])

structure Gd (sa : Option Addr) (H0 G0 G H : Hp) : Prop where
  g0 : Same G0 G
  gh : Same G H
  fr : ∀ b, H0 b ≠ none → G0 b = none → G b = none
  hh : ExB sa H0 H
  sp : ∀ a, sa = some a → SprV H a ∧ H0 a ≠ none ∧ G0 a = none

inductive Cell where
  | no
  | dat (d : D)
  | own (ds : List D)
  | spr

def CellOk (K : Fg) (m : Bool) (sa : Option Addr) (H0 G H : Hp) (o : Option V) : Cell → Prop
  | .no => True
  | .dat d => ∃ v, o = some v ∧ Rp K G v d
  | .own ds => ∃ p vs, o = some (.ref p) ∧ H p = some (.lst vs) ∧ G p = none ∧ sa ≠ some p ∧ RpA K G vs ds ∧ (m = true → H0 p = none)
  | .spr => ∃ a, sa = some a ∧ o = some (.ref a)

structure AtG (K : Fg) (m : Bool) (sa : Option Addr) (H0 G0 : Hp) (δ : List Cell) (E : Hp → Prop) (σ : L2.St) (G H : Hp) : Prop where
  gd : Gd sa H0 G0 G H
  len : σ.length = δ.length
  cell : ∀ (i : Nat) (c : Cell) (o : Option V), δ[i]? = some c → σ[i]? = some o → CellOk K m sa H0 G H o c
  dis : ∀ (i j : Nat) (ds es : List D), i ≠ j → δ[i]? = some (.own ds) → δ[j]? = some (.own es) → σ[i]? ≠ σ[j]?
  ex : E G
def At (K : Fg) (m : Bool) (sa : Option Addr) (H0 G0 : Hp) (δ : List Cell) (E : Hp → Prop) (σ : L2.St) (H : Hp) : Prop := ∃ G, AtG K m sa H0 G0 δ E σ G H
def Up (E : Hp → Prop) : Prop := ∀ G G', Same G G' → E G → E G'
theorem up_and {E F : Hp → Prop} (a : Up E) (b : Up F) : Up (fun G => E G ∧ F G) := fun G G' e h => ⟨a G G' e h.1, b G G' e h.2⟩
theorem up_rp {K : Fg} {v : V} {d : D} : Up (fun G => Rp K G v d) := fun _ _ e h => h.mono e
theorem up_rpA {K : Fg} {v : List V} {d : List D} : Up (fun G => RpA K G v d) := fun _ _ e h => h.mono e
theorem up_true : Up (fun _ => True) := fun _ _ _ _ => trivial

section
variable {K : Fg} {m : Bool} {sa : Option Addr} {H0 G0 G G' H H' : Hp} {δ : List Cell} {E E' : Hp → Prop} {σ : L2.St}
theorem AtG.slot (A : AtG K m sa H0 G0 δ E σ G H) {i : Nat} {c : Cell} (h : δ[i]? = some c) : ∃ o, σ[i]? = some o ∧ CellOk K m sa H0 G H o c := by
  have hi : i < σ.length := by rw [A.len]; exact (List.getElem?_eq_some_iff.mp h).1
  exact ⟨σ[i], List.getElem?_eq_getElem hi, A.cell i c _ h (List.getElem?_eq_getElem hi)⟩
theorem Gd.live (g : Gd sa H0 G0 G H) {b : Addr} (h : H0 b ≠ none) : H b ≠ none := by
  by_cases e : sa = some b
  · obtain ⟨⟨c, s, n, q⟩, _⟩ := g.sp b e
    rw [q]; simp
  · cases q : H0 b with
    | none => exact absurd q h
    | some o => rw [g.hh b o e q]; simp
theorem Gd.notIn (g : Gd sa H0 G0 G H) {a : Addr} (e : sa = some a) : G a = none := g.fr a (g.sp a e).2.1 (g.sp a e).2.2
/-- one step on: the ground grows, the heap keeps what it had but the spring -/
theorem AtG.grow (A : AtG K m sa H0 G0 δ E σ G H) (g : Same G G') (gh : Same G' H') (fr : ∀ b, H b ≠ none → G b = none → G' b = none) (hh : ExB sa H H') (sp : ∀ a, sa = some a → SprV H' a) (e : E' G') : AtG K m sa H0 G0 δ E' σ G' H' := by
  refine ⟨⟨A.gd.g0.trans g, gh, fun b h1 h2 => fr b (A.gd.live h1) (A.gd.fr b h1 h2), A.gd.hh.trans hh, fun a ea => ⟨sp a ea, (A.gd.sp a ea).2⟩⟩, A.len, fun i c o h1 h2 => ?_, A.dis, e⟩
  have q := A.cell i c o h1 h2
  cases c with
  | no => trivial
  | dat d => obtain ⟨v, e1, r⟩ := q; exact ⟨v, e1, r.mono g⟩
  | own ds =>
    obtain ⟨p, vs, e1, hp, gp, ne, r, hm⟩ := q
    exact ⟨p, vs, e1, hh p _ ne hp, fr p (by rw [hp]; simp) gp, ne, r.mono g, hm⟩
  | spr => exact q
/-- a new object -/
theorem AtG.new (A : AtG K m sa H0 G0 δ E σ G H) {p : Addr} {o : HO} (hp : H p = none) (e : E' (upd G p o)) : AtG K m sa H0 G0 δ E' σ (upd G p o) (upd H p o) := by
  have gp : G p = none := by
    cases q : G p with
    | none => rfl
    | some u => rw [A.gd.gh p u q] at hp; cases hp
  have s1 : Same G (upd G p o) := fun b x q => by rw [upd_ne (ne_of_none q gp)]; exact q
  have s2 : Same H (upd H p o) := fun b x q => by rw [upd_ne (ne_of_none q hp)]; exact q
  refine A.grow s1 (fun b x q => ?_) (fun b h1 h2 => ?_) (.of s2) (fun a ea => ?_) e
  · by_cases hb : b = p
    · subst hb; rw [upd_same] at q ⊢; exact q
    · rw [upd_ne hb] at q ⊢; exact A.gd.gh b x q
  · by_cases hb : b = p
    · subst hb; exact absurd hp h1
    · rw [upd_ne hb]; exact h2
  · obtain ⟨c, s, n, q⟩ := (A.gd.sp a ea).1
    exact ⟨c, s, n, s2 a _ q⟩
theorem AtG.same (A : AtG K m sa H0 G0 δ E σ G H) (e : E' G) : AtG K m sa H0 G0 δ E' σ G H := ⟨A.gd, A.len, A.cell, A.dis, e⟩
theorem At.imp (A : At K m sa H0 G0 δ E σ H) (h : ∀ G, E G → E' G) : At K m sa H0 G0 δ E' σ H := let ⟨G, a⟩ := A; ⟨G, a.same (h G a.ex)⟩
/-- what stands now is what stood at first: for what changes nothing but by growing -/
theorem AtG.base (A : AtG K m sa H0 G0 δ E σ G H) : AtG K false sa H G δ E σ G H := by
  refine ⟨⟨Same.refl _, A.gd.gh, fun _ _ h => h, .refl _ _, fun a ea => ⟨(A.gd.sp a ea).1, ?_, A.gd.notIn ea⟩⟩, A.len, fun i c o h1 h2 => ?_, A.dis, A.ex⟩
  · obtain ⟨⟨c, s, n, q⟩, _⟩ := A.gd.sp a ea
    rw [q]; simp
  · have q := A.cell i c o h1 h2
    cases c with
    | own ds => obtain ⟨p, vs, e1, hp, gp, ne, r, hm⟩ := q; exact ⟨p, vs, e1, hp, gp, ne, r, fun z => nomatch z⟩
    | no => trivial
    | dat d => exact q
    | spr => exact q
/-- .. and back -/
theorem AtG.back (A : AtG K m sa H0 G0 δ E σ G H) (B : AtG K false sa H G δ E' σ G' H') : AtG K m sa H0 G0 δ E' σ G' H' :=
  A.grow B.gd.g0 B.gd.gh B.gd.fr B.gd.hh (fun a ea => (B.gd.sp a ea).1) B.ex
end

/-! ### what a reading gives, as data -/
def WE (K : Fg) (sa : Option Addr) (te : TE) (δ : List Cell) (P : D → Prop) : Prop := ∀ (m : Bool) (H0 G0 : Hp) (E : Hp → Prop), Up E → ∀ (σ : L2.St) (H : Hp), At K m sa H0 G0 δ E σ H →
  ∀ Q : VK, (∀ v d H', P d → At K m sa H0 G0 δ (fun G => E G ∧ Rp K G v d) σ H' → Q v H') → te σ H Q
def WT (K : Fg) (sa : Option Addr) (tt : TT) (δ : List Cell) (P : Bool → Prop) : Prop := ∀ (m : Bool) (H0 G0 : Hp) (E : Hp → Prop), Up E → ∀ (σ : L2.St) (H : Hp), At K m sa H0 G0 δ E σ H →
  ∀ Q : Bool → Hp → Prop, (∀ b H', P b → At K m sa H0 G0 δ E σ H' → Q b H') → tt σ H Q
def WA (K : Fg) (sa : Option Addr) (ta : TA) (δ : List Cell) (P : List D → Prop) : Prop := ∀ (m : Bool) (H0 G0 : Hp) (E : Hp → Prop), Up E → ∀ (σ : L2.St) (H : Hp), At K m sa H0 G0 δ E σ H →
  ∀ Q : List V → Hp → Prop, (∀ vs ds H', P ds → At K m sa H0 G0 δ (fun G => E G ∧ RpA K G vs ds) σ H' → Q vs H') → ta σ H Q
/-- a new list, held by nobody -/
def WF (K : Fg) (sa : Option Addr) (te : TE) (δ : List Cell) (P : List D → Prop) : Prop := ∀ (m : Bool) (H0 G0 : Hp) (E : Hp → Prop), Up E → ∀ (σ : L2.St) (H : Hp), At K m sa H0 G0 δ E σ H →
  ∀ Q : VK, (∀ p vs ds H', P ds → At K m sa H0 G0 δ (fun G => E G ∧ G p = none ∧ RpA K G vs ds) σ H' → H' p = some (.lst vs) → H0 p = none → sa ≠ some p →
    (∀ (j : Nat) (es : List D), δ[j]? = some (.own es) → σ[j]? ≠ some (some (.ref p))) → Q (.ref p) H') → te σ H Q
/-- a two-place operation, a call of a built-in, on data -/
def OW (K : Fg) (sa : Option Addr) (r : R2) (d e : D) (P : D → Prop) : Prop := ∀ (m : Bool) (H0 G0 : Hp) (δ : List Cell) (E : Hp → Prop), Up E → ∀ (σ : L2.St) (H : Hp) (v w : V), At K m sa H0 G0 δ (fun G => E G ∧ Rp K G v d ∧ Rp K G w e) σ H →
  ∀ Q : VK, (∀ z d' H', P d' → At K m sa H0 G0 δ (fun G => E G ∧ Rp K G z d') σ H' → Q z H') → r v w H Q
def CW (K : Fg) (sa : Option Addr) (r : List V → Hp → VK → Prop) (ds : List D) (P : D → Prop) : Prop := ∀ (m : Bool) (H0 G0 : Hp) (δ : List Cell) (E : Hp → Prop), Up E → ∀ (σ : L2.St) (H : Hp) (vs : List V), At K m sa H0 G0 δ (fun G => E G ∧ RpA K G vs ds) σ H →
  ∀ Q : VK, (∀ z d' H', P d' → At K m sa H0 G0 δ (fun G => E G ∧ Rp K G z d') σ H' → Q z H') → r vs H Q

section
variable {K : Fg} {sa : Option Addr} {δ : List Cell} {P P' : D → Prop} {ta tb te : TE} {t u : TT} {r : R2}
theorem WE.imp (h : WE K sa te δ P') (k : ∀ d, P' d → P d) : WE K sa te δ P := fun m H0 G0 E up σ H A Q q => h m H0 G0 E up σ H A Q fun v d H' p a => q v d H' (k d p) a
theorem WT.imp {P P' : Bool → Prop} (h : WT K sa t δ P') (k : ∀ d, P' d → P d) : WT K sa t δ P := fun m H0 G0 E up σ H A Q q => h m H0 G0 E up σ H A Q fun d H' p a => q d H' (k d p) a
theorem we_var {i : Nat} {d : D} (h : δ[i]? = some (.dat d)) (p : P d) : WE K sa (tVar i) δ P := fun m H0 G0 E up σ H ⟨G, A⟩ Q q => by
  obtain ⟨o, e, v, ev, rv⟩ := A.slot h
  subst ev
  exact ⟨v, e, q v d H p ⟨G, A.same ⟨A.ex, rv⟩⟩⟩
theorem we_int {i : Int} (p : P (.int i)) : WE K sa (tC (.int i)) δ P := fun m H0 G0 E up σ H ⟨G, A⟩ Q q => q _ _ H p ⟨G, A.same ⟨A.ex, .int i⟩⟩
theorem we_bl {i : Bool} (p : P (.bool i)) : WE K sa (tC (.bl i)) δ P := fun m H0 G0 E up σ H ⟨G, A⟩ Q q => q _ _ H p ⟨G, A.same ⟨A.ex, .bl i⟩⟩
theorem we_str {i : Str} (p : P (.str i)) : WE K sa (tC (.str i)) δ P := fun m H0 G0 E up σ H ⟨G, A⟩ Q q => q _ _ H p ⟨G, A.same ⟨A.ex, .str i⟩⟩
theorem we_non (p : P .none) : WE K sa (tC .non) δ P := fun m H0 G0 E up σ H ⟨G, A⟩ Q q => q _ _ H p ⟨G, A.same ⟨A.ex, .non⟩⟩
theorem we_op (h : WE K sa ta δ fun d => WE K sa tb δ fun e => OW K sa r d e P) : WE K sa (tOp r ta tb) δ P := fun m H0 G0 E up σ H A Q q =>
  h m H0 G0 E up σ H A _ fun v d H1 h1 A1 => h1 m H0 G0 _ (up_and up up_rp) σ H1 A1 _ fun w e H2 h2 A2 => h2 m H0 G0 δ E up σ H2 v w (A2.imp fun _ x => ⟨x.1.1, x.1.2, x.2⟩) Q q
theorem wt_test {P : Bool → Prop} (h : WE K sa te δ fun d => ∃ b, d = .bool b ∧ P b) : WT K sa (tTest te) δ P := fun m H0 G0 E up σ H A Q q =>
  h m H0 G0 E up σ H A _ fun v d H1 ⟨b, e, p⟩ A1 => by
    subst e
    obtain ⟨G, a⟩ := A1
    exact ⟨b, a.ex.2.bl_inv, q b H1 p ⟨G, a.same a.ex.1⟩⟩
theorem wt_B {P : Bool → Prop} (h : WE K sa te δ fun d => ∃ b, d = .bool b ∧ P b) : WT K sa (tB te) δ P := wt_test h
theorem wt_not {P : Bool → Prop} (h : WT K sa t δ fun b => P (!b)) : WT K sa (tNot t) δ P := fun m H0 G0 E up σ H A Q q => h m H0 G0 E up σ H A _ fun b H1 p A1 => q _ H1 p A1
theorem wt_and {P : Bool → Prop} (h : WT K sa t δ fun b => (b = true → WT K sa u δ P) ∧ (b = false → P false)) : WT K sa (tAnd t u) δ P := fun m H0 G0 E up σ H A Q q =>
  h m H0 G0 E up σ H A _ fun b H1 p A1 => by
    cases b with
    | true => exact iteT (p.1 rfl m H0 G0 E up σ H1 A1 Q q)
    | false => exact iteF (q false H1 (p.2 rfl) A1)
theorem wt_or {P : Bool → Prop} (h : WT K sa t δ fun b => (b = false → WT K sa u δ P) ∧ (b = true → P true)) : WT K sa (tOr t u) δ P := fun m H0 G0 E up σ H A Q q =>
  h m H0 G0 E up σ H A _ fun b H1 p A1 => by
    cases b with
    | true => exact iteT (q true H1 (p.2 rfl) A1)
    | false => exact iteF (p.1 rfl m H0 G0 E up σ H1 A1 Q q)
theorem we_andV (h : WE K sa ta δ fun d => ∃ b, d = .bool b ∧ (b = true → WE K sa tb δ P) ∧ (b = false → P (.bool false))) : WE K sa (tAndV ta tb) δ P := fun m H0 G0 E up σ H A Q q =>
  h m H0 G0 E up σ H A _ fun v d H1 ⟨b, e, p1, p2⟩ ⟨G, a⟩ => by
    subst e
    refine ⟨b, a.ex.2.bl_inv, ?_⟩
    cases b with
    | true => exact iteT (p1 rfl m H0 G0 E up σ H1 ⟨G, a.same a.ex.1⟩ Q q)
    | false => exact iteF (q _ _ H1 (p2 rfl) ⟨G, a.same ⟨a.ex.1, .bl false⟩⟩)
theorem we_orV (h : WE K sa ta δ fun d => ∃ b, d = .bool b ∧ (b = false → WE K sa tb δ P) ∧ (b = true → P (.bool true))) : WE K sa (tOrV ta tb) δ P := fun m H0 G0 E up σ H A Q q =>
  h m H0 G0 E up σ H A _ fun v d H1 ⟨b, e, p1, p2⟩ ⟨G, a⟩ => by
    subst e
    refine ⟨b, a.ex.2.bl_inv, ?_⟩
    cases b with
    | false => exact iteF (p1 rfl m H0 G0 E up σ H1 ⟨G, a.same a.ex.1⟩ Q q)
    | true => exact iteT (q _ _ H1 (p2 rfl) ⟨G, a.same ⟨a.ex.1, .bl true⟩⟩)
theorem we_notV (h : WE K sa ta δ fun d => ∃ b, d = .bool b ∧ P (.bool (!b))) : WE K sa (tNotV ta) δ P := fun m H0 G0 E up σ H A Q q =>
  h m H0 G0 E up σ H A _ fun v d H1 ⟨b, e, p⟩ ⟨G, a⟩ => by
    subst e
    exact ⟨b, a.ex.2.bl_inv, q _ _ H1 p ⟨G, a.same ⟨a.ex.1, .bl _⟩⟩⟩
theorem we_if (h : WT K sa t δ fun b => (b = true → WE K sa ta δ P) ∧ (b = false → WE K sa tb δ P)) : WE K sa (tIf t ta tb) δ P := fun m H0 G0 E up σ H A Q q =>
  h m H0 G0 E up σ H A _ fun b H1 p A1 => by
    cases b with
    | true => exact iteT (p.1 rfl m H0 G0 E up σ H1 A1 Q q)
    | false => exact iteF (p.2 rfl m H0 G0 E up σ H1 A1 Q q)
theorem wa_nil {P : List D → Prop} (p : P []) : WA K sa tNil δ P := fun m H0 G0 E up σ H ⟨G, A⟩ Q q => q [] [] H p ⟨G, A.same ⟨A.ex, .nil⟩⟩
theorem wa_cons {P : List D → Prop} {tr : TA} (h : WE K sa ta δ fun d => WA K sa tr δ fun ds => P (d :: ds)) : WA K sa (tCons ta tr) δ P := fun m H0 G0 E up σ H A Q q =>
  h m H0 G0 E up σ H A _ fun v d H1 p A1 => p m H0 G0 _ (up_and up up_rp) σ H1 A1 _ fun vs ds H2 p2 A2 => q _ _ H2 p2 (A2.imp fun _ x => ⟨x.1.1, .cons x.1.2 x.2⟩)
theorem we_cb {ta : TA} {r : List V → Hp → VK → Prop} (h : WA K sa ta δ fun ds => CW K sa r ds P) : WE K sa (tCB r ta) δ P := fun m H0 G0 E up σ H A Q q =>
  h m H0 G0 E up σ H A _ fun vs ds H1 p A1 => p m H0 G0 δ E up σ H1 vs A1 Q q
theorem we_tup {ta : TA} (h : WA K sa ta δ fun ds => ds.length ≤ sizeLine ∧ P (.tuple ds)) : WE K sa (tTup ta) δ P := fun m H0 G0 E up σ H A Q q =>
  h m H0 G0 E up σ H A _ fun vs ds H1 p ⟨G, a⟩ => by
    refine ⟨by rw [a.ex.2.length]; exact p.1, fun x hx => ?_⟩
    have gx : G x = none := by
      cases z : G x with
      | none => rfl
      | some u => rw [a.gd.gh x u z] at hx; cases hx
    have s1 : Same G (upd G x (.tup vs)) := fun b o e => by rw [upd_ne (ne_of_none e gx)]; exact e
    exact q _ _ _ p.2 ⟨_, a.new hx ⟨up _ _ s1 a.ex.1, .tup (.inl (.inl upd_same)) (a.ex.2.mono s1)⟩⟩
/-- a new list: the heap's own words -/
theorem wf_new {m : Bool} {H0 G0 : Hp} {E : Hp → Prop} {σ : L2.St} {H : Hp} {vs : List V} {ds : List D} {P : List D → Prop} {Q : VK} (up : Up E) (A : At K m sa H0 G0 δ (fun G => E G ∧ RpA K G vs ds) σ H) (p : P ds)
    (q : ∀ p vs ds H', P ds → At K m sa H0 G0 δ (fun G => E G ∧ G p = none ∧ RpA K G vs ds) σ H' → H' p = some (.lst vs) → H0 p = none → sa ≠ some p →
      (∀ (j : Nat) (es : List D), δ[j]? = some (.own es) → σ[j]? ≠ some (some (.ref p))) → Q (.ref p) H') {x : Addr} (hx : H x = none) : Q (.ref x) (upd H x (.lst vs)) := by
  obtain ⟨G, a⟩ := A
  have gx : G x = none := by
    cases z : G x with
    | none => rfl
    | some u => rw [a.gd.gh x u z] at hx; cases hx
  have s2 : Same H (upd H x (.lst vs)) := fun b o e => by rw [upd_ne (ne_of_none e hx)]; exact e
  refine q x vs ds _ p ⟨G, a.grow (Same.refl _) (a.gd.gh.trans s2) (fun _ _ h => h) (.of s2) (fun z ez => ?_) ⟨a.ex.1, gx, a.ex.2⟩⟩ upd_same ?_ ?_ fun j es hj e => ?_
  · obtain ⟨c, s, n, q⟩ := (a.gd.sp z ez).1
    exact ⟨c, s, n, s2 z _ q⟩
  · cases z : H0 x with
    | none => rfl
    | some o => exact absurd hx (a.gd.live (by rw [z]; simp))
  · intro z
    obtain ⟨c, s, n, q⟩ := (a.gd.sp x z).1
    rw [hx] at q; cases q
  · obtain ⟨o, e1, p', vs', e2, hp, _⟩ := a.slot hj
    rw [e] at e1; cases e1
    cases e2
    rw [hx] at hp; cases hp
theorem wf_lst {ta : TA} {P : List D → Prop} (h : WA K sa ta δ fun ds => ds.length ≤ sizeLine ∧ P ds) : WF K sa (tLst ta) δ P := fun m H0 G0 E up σ H A Q q =>
  h m H0 G0 E up σ H A _ fun vs ds H1 p A1 => by
    refine ⟨?_, fun x hx => wf_new up A1 p.2 q hx⟩
    obtain ⟨G, a⟩ := A1
    rw [a.ex.2.length]; exact p.1
/-- it is let go: data from now on -/
theorem AtG.freeze {m : Bool} {H0 G0 G : Hp} {E E' : Hp → Prop} {σ : L2.St} {H : Hp} {p : Addr} {vs : List V} (A : AtG K m sa H0 G0 δ E σ G H) (gp : G p = none) (hp : H p = some (.lst vs)) (h0 : H0 p = none) (hs : sa ≠ some p)
    (hj : ∀ (j : Nat) (es : List D), δ[j]? = some (.own es) → σ[j]? ≠ some (some (.ref p))) (e : E' (upd G p (.lst vs))) : AtG K m sa H0 G0 δ E' σ (upd G p (.lst vs)) H := by
  have s1 : Same G (upd G p (.lst vs)) := fun b o e => by rw [upd_ne (ne_of_none e gp)]; exact e
  refine ⟨⟨A.gd.g0.trans s1, fun b o q => ?_, fun b h1 h2 => ?_, A.gd.hh, A.gd.sp⟩, A.len, fun i c o h1 h2 => ?_, A.dis, e⟩
  · by_cases hb : b = p
    · subst hb; rw [upd_same] at q; cases q; exact hp
    · rw [upd_ne hb] at q; exact A.gd.gh b o q
  · by_cases hb : b = p
    · subst hb; exact absurd h0 h1
    · rw [upd_ne hb]; exact A.gd.fr b h1 h2
  · have q := A.cell i c o h1 h2
    cases c with
    | no => trivial
    | dat d => obtain ⟨v, e1, r⟩ := q; exact ⟨v, e1, r.mono s1⟩
    | own ds =>
      obtain ⟨p', vs', e1, hp', gp', ne, r, hm⟩ := q
      refine ⟨p', vs', e1, hp', ?_, ne, r.mono s1, hm⟩
      rw [upd_ne (fun z => hj i ds h1 (by rw [h2, e1, z]))]
      exact gp'
    | spr => exact q
theorem we_fresh {P : D → Prop} (h : WF K sa te δ fun ds => P (.list ds)) : WE K sa te δ P := fun m H0 G0 E up σ H A Q q =>
  h m H0 G0 E up σ H A _ fun p vs ds H1 pp ⟨G, a⟩ hp h0 hs hj => by
    have s1 : Same G (upd G p (.lst vs)) := fun b o e => by rw [upd_ne (ne_of_none e a.ex.2.1)]; exact e
    exact q _ _ _ pp ⟨_, a.freeze a.ex.2.1 hp h0 hs hj ⟨up _ _ s1 a.ex.1, .lst upd_same (a.ex.2.2.mono s1)⟩⟩
end
end Dl

namespace Dl
open PySem PySem.Spec PyProof.Rows L2
section
variable {K : Fg} {sa : Option Addr} {δ : List Cell} {P P' : D → Prop} {ta tb te : TE} {t u : TT} {r r' : R2} {d e : D}
/-! ### operators -/
theorem OW.imp (h : OW K sa r d e P') (k : ∀ d, P' d → P d) : OW K sa r d e P := fun m H0 G0 δ E up σ H v w A Q q => h m H0 G0 δ E up σ H v w A Q fun z d' H' p a => q z d' H' (k d' p) a
theorem ow_inl (h : OW K sa r d e P) : OW K sa (fun x y H Q => r x y H Q ∨ r' x y H Q) d e P := fun m H0 G0 δ E up σ H v w A Q q => .inl (h m H0 G0 δ E up σ H v w A Q q)
theorem ow_inr (h : OW K sa r' d e P) : OW K sa (fun x y H Q => r x y H Q ∨ r' x y H Q) d e P := fun m H0 G0 δ E up σ H v w A Q q => .inr (h m H0 G0 δ E up σ H v w A Q q)
/-- an answer that is no object -/
theorem ow_at {z : V} {d' : D} (hz : ∀ G, Rp K G z d') (p : P d') (h : ∀ (G H : Hp) (v w : V) (Q : VK), Same G H → Rp K G v d → Rp K G w e → Q z H → r v w H Q) : OW K sa r d e P := fun m H0 G0 δ E up σ H v w ⟨G, a⟩ Q q =>
  h G H v w Q a.gd.gh a.ex.2.1 a.ex.2.2 (q z d' H p ⟨G, a.same ⟨a.ex.1, hz G⟩⟩)
theorem ow_I0i {g : Int → Int → Int} {i j : Int} (p : P (.int (g i j))) : OW K sa (rI0 fun i j => .int (g i j)) (.int i) (.int j) P :=
  ow_at (fun _ => .int _) p fun G H v w Q _ r1 r2 q => ⟨i, j, r1.int_inv, r2.int_inv, q⟩
theorem ow_I0b {g : Int → Int → Bool} {i j : Int} (p : P (.bool (g i j))) : OW K sa (rI0 fun i j => .bl (g i j)) (.int i) (.int j) P :=
  ow_at (fun _ => .bl _) p fun G H v w Q _ r1 r2 q => ⟨i, j, r1.int_inv, r2.int_inv, q⟩
theorem ow_Ii {C : Int → Int → Prop} {g : Int → Int → Int} {i j : Int} (c : C i j) (p : P (.int (g i j))) : OW K sa (rI C fun i j => .int (g i j)) (.int i) (.int j) P :=
  ow_at (fun _ => .int _) p fun G H v w Q _ r1 r2 q => ⟨i, j, r1.int_inv, r2.int_inv, c, q⟩
theorem ow_eqI {i j : Int} (p : P (.bool (decide (i = j)))) : OW K sa rEq (.int i) (.int j) P :=
  ow_at (z := .bl (decide (i = j))) (fun _ => .bl _) p fun G H v w Q _ r1 r2 q => by
    rw [r1.int_inv, r2.int_inv]
    refine ⟨rfl, ?_⟩
    have e : decide (V.int i = V.int j) = decide (i = j) := by rw [Bool.eq_iff_iff]; simp
    rw [e]; exact q
theorem ow_neI {i j : Int} (p : P (.bool (!decide (i = j)))) : OW K sa rNe (.int i) (.int j) P :=
  ow_at (z := .bl (!decide (i = j))) (fun _ => .bl _) p fun G H v w Q _ r1 r2 q => by
    rw [r1.int_inv, r2.int_inv]
    refine ⟨rfl, ?_⟩
    have e : decide (V.int i = V.int j) = decide (i = j) := by rw [Bool.eq_iff_iff]; simp
    rw [e]; exact q
theorem ow_eqS {i j : Str} (p : P (.bool (decide (i = j)))) : OW K sa rEq (.str i) (.str j) P :=
  ow_at (z := .bl (decide (i = j))) (fun _ => .bl _) p fun G H v w Q _ r1 r2 q => by
    rw [r1.str_inv, r2.str_inv]
    refine ⟨rfl, ?_⟩
    have e : decide (V.str i = V.str j) = decide (i = j) := by rw [Bool.eq_iff_iff]; simp
    rw [e]; exact q
theorem ow_neS {i j : Str} (p : P (.bool (!decide (i = j)))) : OW K sa rNe (.str i) (.str j) P :=
  ow_at (z := .bl (!decide (i = j))) (fun _ => .bl _) p fun G H v w Q _ r1 r2 q => by
    rw [r1.str_inv, r2.str_inv]
    refine ⟨rfl, ?_⟩
    have e : decide (V.str i = V.str j) = decide (i = j) := by rw [Bool.eq_iff_iff]; simp
    rw [e]; exact q
mutual
theorem Rp.dp {G : Hp} : ∀ {v : V} {d : D}, Rp K G v d → d.canLay0 = true → Dp K G v d
  | _, _, .non, _ => .non
  | _, _, .bl b, _ => .bl b
  | _, _, .int i, _ => .int i
  | _, _, .str x, _ => .str x
  | _, _, .lst s r, h => .lst (.inl (.inl s)) (RpA.dp r (by simpa [PyData.canLay0] using h))
  | _, _, .tup s r, h => .tup s (RpA.dp r (by simpa [PyData.canLay0] using h))
  | _, _, .dic _ _, h => by simp [PyData.canLay0] at h
  | _, _, .scr _, h => by simp [PyData.canLay0] at h
theorem RpA.dp {G : Hp} : ∀ {v : List V} {d : List D}, RpA K G v d → PyData.canLayAll0 d = true → DpAll K G v d
  | _, _, .nil, _ => .nil
  | _, _, .cons r t, h => by
    have h' := (by simpa [PyData.canLayAll0] using h : _ ∧ _)
    exact .cons (Rp.dp r h'.1) (RpA.dp t h'.2)
end
theorem ow_eqD (h1 : SeqAt.shaped d = true) (h2 : SeqAt.shaped e = true) (p : P (.bool (PyData.eqv d e))) : OW K sa (rEqD K) d e P :=
  ow_at (fun _ => .bl _) p fun G H v w Q s r1 r2 q => ⟨d, e, (r1.mono s).dp (SeqAt.canLay_of_shaped h1), (r2.mono s).dp (SeqAt.canLay_of_shaped h2), h1, h2, q⟩
theorem ow_neD (h1 : SeqAt.shaped d = true) (h2 : SeqAt.shaped e = true) (p : P (.bool (!PyData.eqv d e))) : OW K sa (rNeD K) d e P :=
  ow_at (fun _ => .bl _) p fun G H v w Q s r1 r2 q => ⟨d, e, (r1.mono s).dp (SeqAt.canLay_of_shaped h1), (r2.mono s).dp (SeqAt.canLay_of_shaped h2), h1, h2, q⟩
/-- an item -/
theorem atI_rp {H : Hp} {xs : List V} {ds : List D} {i : Int} {x : D} (r : RpA K H xs ds) (h : atI ds i = some x) : ∃ v, atI xs i = some v ∧ Rp K H v x := by
  unfold atI at h ⊢
  rw [r.length]
  cases e : ixN ds.length i with
  | none => rw [e] at h; cases h
  | some j =>
    rw [e] at h
    exact r.get h
theorem ow_ixT {ds : List D} {i : Int} {x : D} (h : atI ds i = some x) (p : P x) : OW K sa (rIxT K) (.tuple ds) (.int i) P := fun m H0 G0 δ E up σ H v w ⟨G, a⟩ Q q => by
  obtain ⟨b, xs, e1, hs, rx⟩ := a.ex.2.1.tup_inv
  obtain ⟨z, hz, rz⟩ := atI_rp rx h
  exact ⟨b, xs, i, z, e1, a.ex.2.2.int_inv, sqT_mono a.gd.gh hs, hz, q z x H p ⟨G, a.same ⟨a.ex.1, rz⟩⟩⟩
theorem ow_ixL {ds : List D} {i : Int} {x : D} (h : atI ds i = some x) (p : P x) : OW K sa (rIxL K) (.list ds) (.int i) P := fun m H0 G0 δ E up σ H v w ⟨G, a⟩ Q q => by
  obtain ⟨b, xs, e1, hs, rx⟩ := a.ex.2.1.lst_inv
  obtain ⟨z, hz, rz⟩ := atI_rp rx h
  exact ⟨b, xs, i, z, e1, a.ex.2.2.int_inv, .inl (.inl (a.gd.gh _ _ hs)), hz, q z x H p ⟨G, a.same ⟨a.ex.1, rz⟩⟩⟩
theorem ow_ixT' {ds : List D} {i : Int} {x : D} (h : atI ds i = some x) (p : P x) : OW K sa (rIx K) (.tuple ds) (.int i) P := fun m H0 G0 δ E up σ H v w A Q q => .inr (.inl (ow_ixT h p m H0 G0 δ E up σ H v w A Q q))
theorem ow_ixL' {ds : List D} {i : Int} {x : D} (h : atI ds i = some x) (p : P x) : OW K sa (rIx K) (.list ds) (.int i) P := fun m H0 G0 δ E up σ H v w A Q q => .inl (ow_ixL h p m H0 G0 δ E up σ H v w A Q q)

/-! ### calls of built-ins -/
theorem CW.imp {rc : List V → Hp → VK → Prop} {ds : List D} (h : CW K sa rc ds P') (k : ∀ d, P' d → P d) : CW K sa rc ds P := fun m H0 G0 δ E up σ H v A Q q => h m H0 G0 δ E up σ H v A Q fun z d' H' p a => q z d' H' (k d' p) a
theorem cw_at {rc : List V → Hp → VK → Prop} {ds : List D} {z : V} {d' : D} (hz : ∀ G, Rp K G z d') (p : P d') (h : ∀ (G H : Hp) (vs : List V) (Q : VK), Same G H → RpA K G vs ds → Q z H → rc vs H Q) : CW K sa rc ds P := fun m H0 G0 δ E up σ H vs ⟨G, a⟩ Q q =>
  h G H vs Q a.gd.gh a.ex.2 (q z d' H p ⟨G, a.same ⟨a.ex.1, hz G⟩⟩)
theorem RpA.one {G : Hp} {vs : List V} {d : D} (r : RpA K G vs [d]) : ∃ v, vs = [v] ∧ Rp K G v d := by
  cases r with
  | cons r t => cases t; exact ⟨_, rfl, r⟩
theorem RpA.two {G : Hp} {vs : List V} {d e : D} (r : RpA K G vs [d, e]) : ∃ v w, vs = [v, w] ∧ Rp K G v d ∧ Rp K G w e := by
  cases r with
  | cons r t =>
    obtain ⟨w, e, q⟩ := t.one
    subst e
    exact ⟨_, _, rfl, r, q⟩
theorem cw_int {i : Int} (p : P (.int i)) : CW K sa (fun xs H Q => (∃ i, xs = [.int i] ∧ Q (.int i) H) ∨ ∃ k, xs = [.bl k] ∧ Q (.int (if k then 1 else 0)) H) [.int i] P :=
  cw_at (fun _ => .int _) p fun G H vs Q _ r q => by
    obtain ⟨v, e, rv⟩ := r.one
    exact .inl ⟨i, by rw [e, rv.int_inv], q⟩
theorem cw_intB {k : Bool} (p : P (.int (if k then 1 else 0))) : CW K sa (fun xs H Q => (∃ i, xs = [.int i] ∧ Q (.int i) H) ∨ ∃ k, xs = [.bl k] ∧ Q (.int (if k then 1 else 0)) H) [.bool k] P :=
  cw_at (fun _ => .int _) p fun G H vs Q _ r q => by
    obtain ⟨v, e, rv⟩ := r.one
    exact .inr ⟨k, by rw [e, rv.bl_inv], q⟩
theorem cw_abs {i : Int} (p : P (.int (if i < 0 then -i else i))) : CW K sa (fun xs H Q => ∃ i, xs = [.int i] ∧ Q (.int (if i < 0 then -i else i)) H) [.int i] P :=
  cw_at (fun _ => .int _) p fun G H vs Q _ r q => by
    obtain ⟨v, e, rv⟩ := r.one
    exact ⟨i, by rw [e, rv.int_inv], q⟩
theorem cw_max2 {i j : Int} (p : P (.int (if j > i then j else i))) : CW K sa (fun xs H Q => ∃ i j, xs = [.int i, .int j] ∧ Q (.int (if j > i then j else i)) H) [.int i, .int j] P :=
  cw_at (fun _ => .int _) p fun G H vs Q _ r q => by
    obtain ⟨v, w, e, rv, rw'⟩ := r.two
    exact ⟨i, j, by rw [e, rv.int_inv, rw'.int_inv], q⟩
theorem cw_min2 {i j : Int} (p : P (.int (if j < i then j else i))) : CW K sa (fun xs H Q => ∃ i j, xs = [.int i, .int j] ∧ Q (.int (if j < i then j else i)) H) [.int i, .int j] P :=
  cw_at (fun _ => .int _) p fun G H vs Q _ r q => by
    obtain ⟨v, w, e, rv, rw'⟩ := r.two
    exact ⟨i, j, by rw [e, rv.int_inv, rw'.int_inv], q⟩
theorem cw_lenL {ds : List D} (p : P (.int ds.length)) : CW K sa (fun xs H Q => ∃ x n, xs = [x] ∧ LenV K x H n ∧ Q (.int n) H) [.list ds] P :=
  cw_at (z := .int ds.length) (fun _ => .int _) p fun G H vs Q s r q => by
    obtain ⟨v, e, rv⟩ := r.one
    obtain ⟨a, xs, e2, h, rx⟩ := rv.lst_inv
    exact ⟨v, ds.length, e, by rw [e2]; exact .inl ⟨xs, .inl (.inl (s _ _ h)), rx.length.symm⟩, q⟩
theorem cw_lenT {ds : List D} (p : P (.int ds.length)) : CW K sa (fun xs H Q => ∃ x n, xs = [x] ∧ LenV K x H n ∧ Q (.int n) H) [.tuple ds] P :=
  cw_at (z := .int ds.length) (fun _ => .int _) p fun G H vs Q s r q => by
    obtain ⟨v, e, rv⟩ := r.one
    obtain ⟨a, xs, e2, h, rx⟩ := rv.tup_inv
    exact ⟨v, ds.length, e, by rw [e2]; exact .inr ⟨xs, sqT_mono s h, rx.length.symm⟩, q⟩
theorem cw_sum {ns : List Int} (p : P (.int ns.sum)) : CW K sa (rSum K) [.list (ns.map PyData.int)] P :=
  cw_at (z := .int ns.sum) (fun _ => .int _) p fun G H vs Q s r q => by
    obtain ⟨v, e, rv⟩ := r.one
    obtain ⟨a, xs, e2, h, rx⟩ := rv.lst_inv
    refine ⟨a, ns, by rw [e, e2], ?_, q⟩
    rw [← rx.ints]
    exact .inl (.inl (s _ _ h))
theorem cw_all {bs : List Bool} (p : P (.bool (bs.all id))) : CW K sa (rAll K) [.list (bs.map PyData.bool)] P :=
  cw_at (z := .bl (bs.all id)) (fun _ => .bl _) p fun G H vs Q s r q => by
    obtain ⟨v, e, rv⟩ := r.one
    obtain ⟨a, xs, e2, h, rx⟩ := rv.lst_inv
    refine ⟨a, bs, by rw [e, e2], ?_, q⟩
    rw [← rx.bools]
    exact .inl (.inl (s _ _ h))
theorem cw_any {bs : List Bool} (p : P (.bool (bs.any id))) : CW K sa (rAny K) [.list (bs.map PyData.bool)] P :=
  cw_at (z := .bl (bs.any id)) (fun _ => .bl _) p fun G H vs Q s r q => by
    obtain ⟨v, e, rv⟩ := r.one
    obtain ⟨a, xs, e2, h, rx⟩ := rv.lst_inv
    refine ⟨a, bs, by rw [e, e2], ?_, q⟩
    rw [← rx.bools]
    exact .inl (.inl (s _ _ h))
/-- a new tuple of what data tells -/
theorem at_newTup {m : Bool} {H0 G0 : Hp} {E : Hp → Prop} {σ : L2.St} {H : Hp} {vs : List V} {ds : List D} {Q : VK} (up : Up E) (A : At K m sa H0 G0 δ (fun G => E G ∧ RpA K G vs ds) σ H) (p : P (.tuple ds))
    (q : ∀ z d' H', P d' → At K m sa H0 G0 δ (fun G => E G ∧ Rp K G z d') σ H' → Q z H') {x : Addr} (hx : H x = none) : Q (.ref x) (upd H x (.tup vs)) := by
  obtain ⟨G, a⟩ := A
  have gx : G x = none := by
    cases z : G x with
    | none => rfl
    | some u => rw [a.gd.gh x u z] at hx; cases hx
  have s1 : Same G (upd G x (.tup vs)) := fun b o e => by rw [upd_ne (ne_of_none e gx)]; exact e
  exact q _ _ _ p ⟨_, a.new hx ⟨up _ _ s1 a.ex.1, .tup (.inl (.inl upd_same)) (a.ex.2.mono s1)⟩⟩
theorem cw_tupleL {ds : List D} (p : P (.tuple ds)) : CW K sa (fun xs H Q => ∃ p ys, xs = [.ref p] ∧ ((SqL K H p ys ∧ ∀ l, H l = none → Q (.ref l) (upd H l (.tup ys))) ∨ (SqT K H p ys ∧ Q (.ref p) H))) [.list ds] P := fun m H0 G0 δ E up σ H vs ⟨G, a⟩ Q q => by
  obtain ⟨v, e, rv⟩ := a.ex.2.one
  obtain ⟨b, xs, e2, h, rx⟩ := rv.lst_inv
  exact ⟨b, xs, by rw [e, e2], .inl ⟨.inl (.inl (a.gd.gh _ _ h)), fun l hl => at_newTup up ⟨G, a.same ⟨a.ex.1, rx⟩⟩ p q hl⟩⟩
theorem cw_tupleT {ds : List D} (p : P (.tuple ds)) : CW K sa (fun xs H Q => ∃ p ys, xs = [.ref p] ∧ ((SqL K H p ys ∧ ∀ l, H l = none → Q (.ref l) (upd H l (.tup ys))) ∨ (SqT K H p ys ∧ Q (.ref p) H))) [.tuple ds] P := fun m H0 G0 δ E up σ H vs ⟨G, a⟩ Q q => by
  obtain ⟨v, e, rv⟩ := a.ex.2.one
  obtain ⟨b, xs, e2, h, rx⟩ := rv.tup_inv
  exact ⟨b, xs, by rw [e, e2], .inr ⟨sqT_mono a.gd.gh h, q _ _ H p ⟨G, a.same ⟨a.ex.1, .tup h rx⟩⟩⟩⟩
/-- tuple + tuple, a slice of a tuple -/
theorem ow_catA {ds es : List D} (hz : ds.length + es.length ≤ sizeLine) (p : P (.tuple (ds ++ es))) : OW K sa (rCatA K) (.tuple ds) (.tuple es) P := fun m H0 G0 δ E up σ H v w ⟨G, a⟩ Q q => by
  obtain ⟨b, xs, e1, hs, rx⟩ := a.ex.2.1.tup_inv
  obtain ⟨c, ys, e2, hs2, ry⟩ := a.ex.2.2.tup_inv
  refine ⟨b, c, xs, ys, e1, e2, sqT_mono a.gd.gh hs, sqT_mono a.gd.gh hs2, by rw [rx.length, ry.length]; exact hz, fun ex => ?_, fun _ ey => ?_, fun _ _ x hx => ?_⟩
  · subst ex
    cases rx
    exact q _ _ H p ⟨G, a.same ⟨a.ex.1, .tup hs2 ry⟩⟩
  · subst ey
    cases ry
    rw [List.append_nil] at p
    exact q _ _ H p ⟨G, a.same ⟨a.ex.1, .tup hs rx⟩⟩
  · exact at_newTup up ⟨G, a.same ⟨a.ex.1, rx.append ry⟩⟩ p q hx
/-- list + list: a new list -/
theorem wf_cat {ta tb : TE} {P : List D → Prop} (h : WE K sa ta δ fun d => ∃ ds, d = .list ds ∧ WE K sa tb δ fun e => ∃ es, e = .list es ∧ ds.length + es.length ≤ sizeLine ∧ P (ds ++ es)) : WF K sa (tOp rCat ta tb) δ P := fun m H0 G0 E up σ H A Q q =>
  h m H0 G0 E up σ H A _ fun v d H1 ⟨ds, e1, h1⟩ A1 => h1 m H0 G0 _ (up_and up up_rp) σ H1 A1 _ fun w e H2 ⟨es, e2, hz, hp⟩ ⟨G, a⟩ => by
    subst e1 e2
    obtain ⟨b, xs, e1, hs, rx⟩ := a.ex.1.2.lst_inv
    obtain ⟨c, ys, e2, hs2, ry⟩ := a.ex.2.lst_inv
    exact ⟨b, c, xs, ys, e1, e2, a.gd.gh _ _ hs, a.gd.gh _ _ hs2, by rw [rx.length, ry.length]; exact hz, fun x hx => wf_new up ⟨G, a.same ⟨a.ex.1.1, rx.append ry⟩⟩ hp q hx⟩
theorem rpA_flat {G : Hp} {xs : List V} {ds : List D} (r : RpA K G xs ds) : ∀ n, RpA K G (List.replicate n xs).flatten (List.replicate n ds).flatten
  | 0 => .nil
  | n + 1 => by
    rw [List.replicate_succ, List.replicate_succ, List.flatten_cons, List.flatten_cons]
    exact r.append (rpA_flat r n)
/-! ### slices -/
def WO (K : Fg) (sa : Option Addr) (to : TO) (δ : List Cell) (P : Option Int → Prop) : Prop := ∀ (m : Bool) (H0 G0 : Hp) (E : Hp → Prop), Up E → ∀ (σ : L2.St) (H : Hp), At K m sa H0 G0 δ E σ H →
  ∀ Q : Option Int → Hp → Prop, (∀ o H', P o → At K m sa H0 G0 δ E σ H' → Q o H') → to σ H Q
theorem wo_none {P : Option Int → Prop} (p : P none) : WO K sa tNoPart δ P := fun m H0 G0 E up σ H A Q q => q _ _ p A
theorem wo_some {P : Option Int → Prop} (h : WE K sa te δ fun d => ∃ i, d = .int i ∧ P (some i)) : WO K sa (tPart te) δ P := fun m H0 G0 E up σ H A Q q =>
  h m H0 G0 E up σ H A _ fun v d H1 ⟨i, e, p⟩ ⟨G, a⟩ => by
    subst e
    exact ⟨i, a.ex.2.int_inv, q _ _ p ⟨G, a.same a.ex.1⟩⟩
def cutD (xs : List D) (lo hi : Option Int) : List D := (xs.drop (HT.sIx xs.length 0 lo)).take (HT.sIx xs.length xs.length hi - HT.sIx xs.length 0 lo)
theorem rpA_cut {G : Hp} {xs : List V} {ds : List D} (r : RpA K G xs ds) (lo hi : Option Int) : RpA K G (cutV xs lo hi) (cutD ds lo hi) := by
  unfold cutV cutD
  rw [r.length]
  exact (r.drop _).take _
theorem cutD_whole {ds : List D} {lo hi : Option Int} (h : HT.sIx ds.length 0 lo = 0 ∧ HT.sIx ds.length ds.length hi = ds.length) : cutD ds lo hi = ds := by
  unfold cutD
  rw [h.1, h.2]
  simp
theorem we_slT {tl th : TO} (h : WE K sa te δ fun d => ∃ ds, d = .tuple ds ∧ WO K sa tl δ fun l => WO K sa th δ fun u => P (.tuple (cutD ds l u))) : WE K sa (tSl (rSlA K) te tl th) δ P := fun m H0 G0 E up σ H A Q q =>
  h m H0 G0 E up σ H A _ fun v d H1 ⟨ds, e, h1⟩ A1 => h1 m H0 G0 _ (up_and up up_rp) σ H1 A1 _ fun l H2 h2 A2 => h2 m H0 G0 _ (up_and up up_rp) σ H2 A2 _ fun u H3 p ⟨G, a⟩ => by
    subst e
    obtain ⟨b, xs, e1, hs, rx⟩ := a.ex.2.tup_inv
    refine ⟨b, xs, e1, sqT_mono a.gd.gh hs, fun hw => ?_, fun hw x hx => ?_⟩
    · rw [rx.length] at hw
      have p : P (.tuple (cutD ds l u)) := p
      rw [cutD_whole hw] at p
      rw [← e1]
      exact q _ _ _ p ⟨G, a.same a.ex⟩
    · exact at_newTup up ⟨G, a.same ⟨a.ex.1, rpA_cut rx l u⟩⟩ p q hx
theorem wf_slL {tl th : TO} {P : List D → Prop} (h : WE K sa te δ fun d => ∃ ds, d = .list ds ∧ WO K sa tl δ fun l => WO K sa th δ fun u => P (cutD ds l u)) : WF K sa (tSl (rSlL K) te tl th) δ P := fun m H0 G0 E up σ H A Q q =>
  h m H0 G0 E up σ H A _ fun v d H1 ⟨ds, e, h1⟩ A1 => h1 m H0 G0 _ (up_and up up_rp) σ H1 A1 _ fun l H2 h2 A2 => h2 m H0 G0 _ (up_and up up_rp) σ H2 A2 _ fun u H3 p ⟨G, a⟩ => by
    subst e
    obtain ⟨b, xs, e1, hs, rx⟩ := a.ex.2.lst_inv
    exact ⟨b, xs, e1, .inl (.inl (a.gd.gh _ _ hs)), fun x hx => wf_new up ⟨G, a.same ⟨a.ex.1, rpA_cut rx l u⟩⟩ p q hx⟩
/-- list(..) of a list or a tuple -/
theorem wf_listof {ta : TA} {P : List D → Prop} (h : WA K sa ta δ fun es => ∃ ds, (es = [.list ds] ∨ es = [.tuple ds]) ∧ P ds) :
    WF K sa (tCB (fun xs H Q => ∃ p ys, xs = [.ref p] ∧ (SqL K H p ys ∨ SqT K H p ys) ∧ ∀ l, H l = none → Q (.ref l) (upd H l (.lst ys))) ta) δ P := fun m H0 G0 E up σ H A Q q =>
  h m H0 G0 E up σ H A _ fun vs es H1 ⟨ds, e, p⟩ ⟨G, a⟩ => by
    rcases e with e | e
    · subst e
      obtain ⟨v, e, rv⟩ := a.ex.2.one
      obtain ⟨b, xs, e2, h, rx⟩ := rv.lst_inv
      exact ⟨b, xs, by rw [e, e2], .inl (.inl (.inl (a.gd.gh _ _ h))), fun l hl => wf_new up ⟨G, a.same ⟨a.ex.1, rx⟩⟩ p q hl⟩
    · subst e
      obtain ⟨v, e, rv⟩ := a.ex.2.one
      obtain ⟨b, xs, e2, h, rx⟩ := rv.tup_inv
      exact ⟨b, xs, by rw [e, e2], .inr (sqT_mono a.gd.gh h), fun l hl => wf_new up ⟨G, a.same ⟨a.ex.1, rx⟩⟩ p q hl⟩
/-- list * int -/
theorem wf_rep {ta tb : TE} {P : List D → Prop} (h : WE K sa ta δ fun d => ∃ ds, d = .list ds ∧ WE K sa tb δ fun e => ∃ k, e = .int k ∧ (-(2 ^ 63) ≤ k ∧ k < 2 ^ 63) ∧ ds.length * k.toNat ≤ sizeLine ∧ P (List.replicate k.toNat ds).flatten) : WF K sa (tOp rRep ta tb) δ P := fun m H0 G0 E up σ H A Q q =>
  h m H0 G0 E up σ H A _ fun v d H1 ⟨ds, e1, h1⟩ A1 => h1 m H0 G0 _ (up_and up up_rp) σ H1 A1 _ fun w e H2 ⟨k, e2, hk, hz, hp⟩ ⟨G, a⟩ => by
    subst e1 e2
    obtain ⟨b, xs, e1, hs, rx⟩ := a.ex.1.2.lst_inv
    refine ⟨b, k, xs, e1, a.ex.2.int_inv, a.gd.gh _ _ hs, hk.1, hk.2, by rw [rx.length]; exact hz, fun x hx => ?_⟩
    exact wf_new up ⟨G, a.same ⟨a.ex.1.1, rpA_flat rx k.toNat⟩⟩ hp q hx
end
end Dl

namespace Dl
open PySem PySem.Spec PyProof.Rows L2
/-! ### statements -/
structure DE where
  nx : List Cell → Prop
  rt : D → Prop
  bk : List Cell → Prop
  ct : List Cell → Prop
structure Real (K : Fg) (sa : Option Addr) (H0 G0 : Hp) (E : Hp → Prop) (D' : DE) (Dn : Ends) : Prop where
  nx : ∀ δ σ H, D'.nx δ → At K true sa H0 G0 δ E σ H → Dn.nx σ H
  bk : ∀ δ σ H, D'.bk δ → At K true sa H0 G0 δ E σ H → Dn.bk σ H
  ct : ∀ δ σ H, D'.ct δ → At K true sa H0 G0 δ E σ H → Dn.ct σ H
  rt : ∀ δ v d σ H, D'.rt d → At K true sa H0 G0 δ (fun G => E G ∧ Rp K G v d) σ H → Dn.rt v H
def WS (K : Fg) (sa : Option Addr) (t : TS) (D' : DE) (δ : List Cell) : Prop := ∀ (H0 G0 : Hp) (E : Hp → Prop), Up E → ∀ (σ : L2.St) (H : Hp) (Dn : Ends), At K true sa H0 G0 δ E σ H → Real K sa H0 G0 E D' Dn → t Dn σ H

section
variable {K : Fg} {sa : Option Addr} {m : Bool} {H0 G0 G G' H H' : Hp} {δ : List Cell} {E E' : Hp → Prop} {σ : L2.St}
/-- a slot stored: data -/
theorem AtG.set (A : AtG K m sa H0 G0 δ (fun G => E G ∧ Rp K G v d) σ G H) (i : Nat) : AtG K m sa H0 G0 (δ.set i (.dat d)) E (σ.set i (some v)) G H := by
  refine ⟨A.gd, by rw [List.length_set, List.length_set]; exact A.len, fun j c o h1 h2 => ?_, fun j k ds es hjk h1 h2 => ?_, A.ex.1⟩
  · by_cases e : i = j
    · subst e
      have hi : i < δ.length := by
        have := (List.getElem?_eq_some_iff.mp h1).1
        rwa [List.length_set] at this
      rw [List.getElem?_set_self hi] at h1
      rw [List.getElem?_set_self (by rw [A.len]; exact hi)] at h2
      cases h1; cases h2
      exact ⟨v, rfl, A.ex.2⟩
    · rw [List.getElem?_set_ne e] at h1 h2
      exact A.cell j c o h1 h2
  · have nj : i ≠ j := fun e => by
      subst e
      have hi : i < δ.length := by
        have := (List.getElem?_eq_some_iff.mp h1).1
        rwa [List.length_set] at this
      rw [List.getElem?_set_self hi] at h1; cases h1
    have nk : i ≠ k := fun e => by
      subst e
      have hi : i < δ.length := by
        have := (List.getElem?_eq_some_iff.mp h2).1
        rwa [List.length_set] at this
      rw [List.getElem?_set_self hi] at h2; cases h2
    rw [List.getElem?_set_ne nj] at h1
    rw [List.getElem?_set_ne nk] at h2
    rw [List.getElem?_set_ne nj, List.getElem?_set_ne nk]
    exact A.dis j k ds es hjk h1 h2
/-- a slot stored: a list of one's own -/
theorem AtG.setOwn {p : Addr} {vs : List V} {ds : List D} (A : AtG K m sa H0 G0 δ (fun G => E G ∧ G p = none ∧ RpA K G vs ds) σ G H) (i : Nat) (hp : H p = some (.lst vs)) (h0 : H0 p = none) (hs : sa ≠ some p)
    (hj : ∀ (j : Nat) (es : List D), δ[j]? = some (.own es) → σ[j]? ≠ some (some (.ref p))) : AtG K m sa H0 G0 (δ.set i (.own ds)) E (σ.set i (some (.ref p))) G H := by
  have hl : ∀ {j : Nat} {c : Cell}, (δ.set i (.own ds))[j]? = some c → i = j → c = .own ds ∧ i < σ.length := fun {j c} h1 e => by
    subst e
    have hi : i < δ.length := by
      have := (List.getElem?_eq_some_iff.mp h1).1
      rwa [List.length_set] at this
    rw [List.getElem?_set_self hi] at h1; cases h1
    exact ⟨rfl, by rw [A.len]; exact hi⟩
  refine ⟨A.gd, by rw [List.length_set, List.length_set]; exact A.len, fun j c o h1 h2 => ?_, fun j k es fs hjk h1 h2 => ?_, A.ex.1⟩
  · by_cases e : i = j
    · obtain ⟨ec, hi⟩ := hl h1 e
      subst e ec
      rw [List.getElem?_set_self hi] at h2
      cases h2
      exact ⟨p, vs, rfl, hp, A.ex.2.1, hs, A.ex.2.2, fun _ => h0⟩
    · rw [List.getElem?_set_ne e] at h1 h2
      exact A.cell j c o h1 h2
  · by_cases e : i = j
    · obtain ⟨_, hi⟩ := hl h1 e
      subst e
      rw [List.getElem?_set_ne hjk] at h2
      rw [List.getElem?_set_self hi, List.getElem?_set_ne hjk]
      exact fun z => hj k fs h2 z.symm
    · by_cases e' : i = k
      · obtain ⟨_, hi⟩ := hl h2 e'
        subst e'
        rw [List.getElem?_set_ne e] at h1
        rw [List.getElem?_set_self hi, List.getElem?_set_ne e]
        exact fun z => hj j es h1 z
      · rw [List.getElem?_set_ne e] at h1
        rw [List.getElem?_set_ne e'] at h2
        rw [List.getElem?_set_ne e, List.getElem?_set_ne e']
        exact A.dis j k es fs hjk h1 h2
/-- a list of one's own changed in place -/
theorem AtG.mut {p : Addr} {vs' : List V} {ds ds' : List D} {i : Nat} (A : AtG K true sa H0 G0 δ E σ G H) (hi : δ[i]? = some (.own ds)) (hs : σ[i]? = some (some (.ref p))) (r : RpA K G vs' ds') : AtG K true sa H0 G0 (δ.set i (.own ds')) E σ G (upd H p (.lst vs')) := by
  obtain ⟨o, e1, p', vs0, e2, hp, gp, ne, r0, h0⟩ := A.slot hi
  rw [hs] at e1; cases e1; cases e2
  have hil : i < δ.length := (List.getElem?_eq_some_iff.mp hi).1
  have hG : Same G (upd H p (.lst vs')) := fun b o q => by
    rw [upd_ne (fun z => by subst z; rw [gp] at q; cases q)]
    exact A.gd.gh b o q
  refine ⟨⟨A.gd.g0, hG, A.gd.fr, fun b o n q => ?_, fun a ea => ⟨?_, (A.gd.sp a ea).2⟩⟩, by rw [List.length_set]; exact A.len, fun j c o h1 h2 => ?_, fun j k es fs hjk h1 h2 => ?_, A.ex⟩
  · rw [upd_ne (fun z => by subst z; rw [h0 rfl] at q; cases q)]
    exact A.gd.hh b o n q
  · obtain ⟨c, s, n, q⟩ := (A.gd.sp a ea).1
    exact ⟨c, s, n, by rw [upd_ne (fun z => ne (by rw [ea, z]))]; exact q⟩
  · by_cases e : i = j
    · subst e
      rw [List.getElem?_set_self hil] at h1
      cases h1
      rw [hs] at h2; cases h2
      exact ⟨p, vs', rfl, upd_same, gp, ne, r, h0⟩
    · rw [List.getElem?_set_ne e] at h1
      have q := A.cell j c o h1 h2
      cases c with
      | no => trivial
      | dat d => exact q
      | own es =>
        obtain ⟨p', ws, e1, hp', gp', ne', r', hm'⟩ := q
        refine ⟨p', ws, e1, ?_, gp', ne', r', hm'⟩
        rw [upd_ne (fun z => ?_)]
        · exact hp'
        · subst z
          exact A.dis i j ds es e hi h1 (by rw [hs, h2, e1])
      | spr => exact q
  · have key : ∀ {j : Nat} {es : List D}, (δ.set i (.own ds'))[j]? = some (.own es) → ∃ es', δ[j]? = some (.own es') := fun {j es} h => by
      by_cases e : i = j
      · subst e; exact ⟨ds, hi⟩
      · rw [List.getElem?_set_ne e] at h; exact ⟨es, h⟩
    obtain ⟨es', h1'⟩ := key h1
    obtain ⟨fs', h2'⟩ := key h2
    exact A.dis j k es' fs' hjk h1' h2'
/-- a list of one's own let go -/
theorem AtG.melt {ds : List D} {i : Nat} (A : AtG K true sa H0 G0 δ E σ G H) (hi : δ[i]? = some (.own ds)) (up : Up E) : ∃ p G', σ[i]? = some (some (.ref p)) ∧ AtG K true sa H0 G0 (δ.set i (.dat (.list ds))) (fun G => E G ∧ Rp K G (.ref p) (.list ds)) σ G' H := by
  obtain ⟨o, e1, p, vs, e2, hp, gp, ne, r, h0⟩ := A.slot hi
  subst e2
  have hil : i < δ.length := (List.getElem?_eq_some_iff.mp hi).1
  have s1 : Same G (upd G p (.lst vs)) := fun b o e => by rw [upd_ne (ne_of_none e gp)]; exact e
  have rp : Rp K (upd G p (.lst vs)) (.ref p) (.list ds) := .lst upd_same (r.mono s1)
  refine ⟨p, upd G p (.lst vs), e1, ⟨⟨A.gd.g0.trans s1, fun b o q => ?_, fun b h1 h2 => ?_, A.gd.hh, A.gd.sp⟩, by rw [List.length_set]; exact A.len, fun j c o h1 h2 => ?_, fun j k es fs hjk h1 h2 => ?_, up _ _ s1 A.ex, rp⟩⟩
  · by_cases hb : b = p
    · subst hb; rw [upd_same] at q; cases q; exact hp
    · rw [upd_ne hb] at q; exact A.gd.gh b o q
  · by_cases hb : b = p
    · subst hb; exact absurd (h0 rfl) h1
    · rw [upd_ne hb]; exact A.gd.fr b h1 h2
  · by_cases e : i = j
    · subst e
      rw [List.getElem?_set_self hil] at h1
      cases h1
      rw [e1] at h2; cases h2
      exact ⟨_, rfl, rp⟩
    · rw [List.getElem?_set_ne e] at h1
      have q := A.cell j c o h1 h2
      cases c with
      | no => trivial
      | dat d => obtain ⟨v, e1, r⟩ := q; exact ⟨v, e1, r.mono s1⟩
      | own es =>
        obtain ⟨p', ws, e3, hp', gp', ne', r', hm'⟩ := q
        refine ⟨p', ws, e3, hp', ?_, ne', r'.mono s1, hm'⟩
        rw [upd_ne (fun z => ?_)]
        · exact gp'
        · subst z
          exact A.dis i j ds es e hi h1 (by rw [e1, h2, e3])
      | spr => exact q
  · have key : ∀ {j : Nat} {es : List D}, (δ.set i (.dat (.list ds)))[j]? = some (.own es) → δ[j]? = some (.own es) := fun {j es} h => by
      by_cases e : i = j
      · subst e; rw [List.getElem?_set_self hil] at h; cases h
      · rw [List.getElem?_set_ne e] at h; exact h
    exact A.dis j k es fs hjk (key h1) (key h2)
end
section
variable {K : Fg} {sa : Option Addr} {δ : List Cell} {nx : List Cell → Prop} {rt : D → Prop} {bk ct : List Cell → Prop} {ta tb te : TE} {c : TT} {t u : TS}
theorem ws_seq (h : WS K sa t ⟨fun δ' => WS K sa u ⟨nx, rt, bk, ct⟩ δ', rt, bk, ct⟩ δ) : WS K sa (tSeq t u) ⟨nx, rt, bk, ct⟩ δ := fun H0 G0 E up σ H Dn A R =>
  h H0 G0 E up σ H { Dn with nx := u Dn } A ⟨fun δ' σ' H' w A' => w H0 G0 E up σ' H' Dn A' R, R.bk, R.ct, R.rt⟩
theorem ws_next (h : nx δ) : WS K sa tNext ⟨nx, rt, bk, ct⟩ δ := fun H0 G0 E up σ H Dn A R => R.nx δ σ H h A
theorem ws_break (h : bk δ) : WS K sa tBreak ⟨nx, rt, bk, ct⟩ δ := fun H0 G0 E up σ H Dn A R => R.bk δ σ H h A
theorem ws_cont (h : ct δ) : WS K sa tCont ⟨nx, rt, bk, ct⟩ δ := fun H0 G0 E up σ H Dn A R => R.ct δ σ H h A
theorem ws_set {i : Nat} (h : WE K sa te δ fun d => nx (δ.set i (.dat d))) : WS K sa (tAsg te (gName i)) ⟨nx, rt, bk, ct⟩ δ := fun H0 G0 E up σ H Dn A R =>
  h true H0 G0 E up σ H A _ fun v d H1 p ⟨G, a⟩ => R.nx _ _ _ p ⟨G, a.set i⟩
theorem ws_setF {i : Nat} (h : WF K sa te δ fun ds => nx (δ.set i (.own ds))) : WS K sa (tAsg te (gName i)) ⟨nx, rt, bk, ct⟩ δ := fun H0 G0 E up σ H Dn A R =>
  h true H0 G0 E up σ H A _ fun p vs ds H1 pp ⟨G, a⟩ hp h0 hs hj => R.nx _ _ _ pp ⟨G, a.setOwn i hp h0 hs hj⟩
theorem ws_ret (h : WE K sa te δ rt) : WS K sa (tRet te) ⟨nx, rt, bk, ct⟩ δ := fun H0 G0 E up σ H Dn A R =>
  h true H0 G0 E up σ H A _ fun v d H1 p A1 => R.rt δ v d σ H1 p A1
theorem ws_retN (h : rt .none) : WS K sa tRetN ⟨nx, rt, bk, ct⟩ δ := fun H0 G0 E up σ H Dn ⟨G, a⟩ R => R.rt δ .non .none σ H h ⟨G, a.same ⟨a.ex, .non⟩⟩
theorem ws_retOwn {i : Nat} {ds : List D} (hi : δ[i]? = some (.own ds)) (h : rt (.list ds)) : WS K sa (tRet (tVar i)) ⟨nx, rt, bk, ct⟩ δ := fun H0 G0 E up σ H Dn ⟨G, a⟩ R => by
  obtain ⟨p, G', e, b⟩ := a.melt hi up
  exact ⟨_, e, R.rt _ _ _ _ _ h ⟨G', b⟩⟩
theorem ws_if (h : WT K sa c δ fun b => (b = true → WS K sa t ⟨nx, rt, bk, ct⟩ δ) ∧ (b = false → WS K sa u ⟨nx, rt, bk, ct⟩ δ)) : WS K sa (tIfS c t u) ⟨nx, rt, bk, ct⟩ δ := fun H0 G0 E up σ H Dn A R =>
  h true H0 G0 E up σ H A _ fun b H1 p A1 => by
    cases b with
    | true => exact iteT (p.1 rfl H0 G0 E up σ H1 Dn A1 R)
    | false => exact iteF (p.2 rfl H0 G0 E up σ H1 Dn A1 R)
theorem ws_expr (h : WE K sa te δ fun _ => nx δ) : WS K sa (tDrop te) ⟨nx, rt, bk, ct⟩ δ := fun H0 G0 E up σ H Dn A R =>
  h true H0 G0 E up σ H A _ fun v d H1 p A1 => R.nx _ _ _ p (A1.imp fun _ x => x.1)
theorem ws_aug {i : Nat} {f : Int → Int → Int} {a : Int} (hi : δ[i]? = some (.dat (.int a))) (h : WE K sa te δ fun d => ∃ b, d = .int b ∧ nx (δ.set i (.dat (.int (f a b))))) : WS K sa (tAug i te (ipI f)) ⟨nx, rt, bk, ct⟩ δ := fun H0 G0 E up σ H Dn ⟨G, A⟩ R => by
  obtain ⟨o, e, v, ev, rv⟩ := A.slot hi
  subst ev
  refine ⟨v, e, h true H0 G0 E up σ H ⟨G, A⟩ _ fun w d H1 ⟨b, e2, p⟩ ⟨G1, a1⟩ => ?_⟩
  subst e2
  exact ⟨a, b, rv.int_inv, a1.ex.2.int_inv, R.nx _ _ _ p ⟨G1, (a1.same (E' := fun G => E G ∧ Rp K G (.int (f a b)) (.int (f a b))) ⟨a1.ex.1, .int _⟩).set i⟩⟩
/-- x, y = a, b -/
theorem ws_par {i j : Nat} {ta : TA} (h : WA K sa ta δ fun ds => ∃ d e, ds = [d, e] ∧ nx ((δ.set i (.dat d)).set j (.dat e))) : WS K sa (tPar i j ta) ⟨nx, rt, bk, ct⟩ δ := fun H0 G0 E up σ H Dn A R =>
  h true H0 G0 E up σ H A _ fun vs ds H1 ⟨d, e, es, p⟩ ⟨G, a⟩ => by
    subst es
    obtain ⟨v, w, ev, r1, r2⟩ := a.ex.2.two
    exact ⟨v, w, ev, R.nx _ _ _ p ⟨G, ((a.same (E' := fun G => (E G ∧ Rp K G w e) ∧ Rp K G v d) ⟨⟨a.ex.1, r2⟩, r1⟩).set i).set j⟩⟩
/-- xs.append(e), xs one's own -/
theorem ws_append {i : Nat} {ds : List D} (hi : δ[i]? = some (.own ds)) (hz : ds.length < sizeLine) (h : WE K sa te δ fun d => nx (δ.set i (.own (ds ++ [d])))) : WS K sa (tDrop (tBM K "list" rAppend (tVar i) (tCons te tNil))) ⟨nx, rt, bk, ct⟩ δ := fun H0 G0 E up σ H Dn ⟨G, A⟩ R => by
  obtain ⟨o, e, p, vs, ep, hp, gp, ne, r, hm⟩ := A.slot hi
  subst ep
  refine ⟨_, e, .inl ⟨rfl, vs, .inl (.inl hp)⟩, h true H0 G0 E up σ H ⟨G, A⟩ _ fun w d H1 pp ⟨G1, a1⟩ => ?_⟩
  obtain ⟨o', e', p', vs', ep', hp', gp', ne', r', hm'⟩ := a1.slot hi
  rw [e] at e'; cases e'; cases ep'
  exact ⟨p, vs', w, rfl, rfl, hp', by rw [r'.length]; exact hz, R.nx _ _ _ pp ⟨G1, ((a1.same (E' := E) a1.ex.1).mut hi e (r'.snoc a1.ex.2))⟩⟩
/-- x = xs.pop(i) -/
theorem ws_pop {i j : Nat} {ds : List D} {ti : TE} (hi : δ[i]? = some (.own ds)) (hij : i ≠ j) (h : WE K sa ti δ fun d => ∃ (k : Nat) (x : D), d = .int (k : Int) ∧ k < 2 ^ 62 ∧ ds[k]? = some x ∧ nx ((δ.set i (.own (ds.eraseIdx k))).set j (.dat x))) :
    WS K sa (tAsg (tBM K "list" rPopAt (tVar i) (tCons ti tNil)) (gName j)) ⟨nx, rt, bk, ct⟩ δ := fun H0 G0 E up σ H Dn ⟨G, A⟩ R => by
  obtain ⟨o, e, p, vs, ep, hp, gp, ne, r, hm⟩ := A.slot hi
  subst ep
  refine ⟨_, e, .inl ⟨rfl, vs, .inl (.inl hp)⟩, h true H0 G0 E up σ H ⟨G, A⟩ _ fun w d H1 ⟨k, x, ed, hk, hx, pp⟩ ⟨G1, a1⟩ => ?_⟩
  subst ed
  obtain ⟨o', e', p', vs', ep', hp', gp', ne', r', hm'⟩ := a1.slot hi
  rw [e] at e'; cases e'; cases ep'
  obtain ⟨y, hy, ry⟩ := r'.get hx
  have hlt : k < vs'.length := (List.getElem?_eq_some_iff.mp hy).1
  refine ⟨p, vs', k, k, y, rfl, by rw [a1.ex.2.int_inv], hp', by omega, by omega, ?_, hy, R.nx _ _ _ pp ⟨G1, (((a1.same (E' := fun G => E G ∧ Rp K G y x) ⟨a1.ex.1, ry⟩).mut hi e (r'.eraseIdx k))).set j⟩⟩
  unfold seqIndex?
  have h0 : ¬ ((k : Int) < 0) := by omega
  have h1 : (decide (0 ≤ (k : Int)) && decide ((k : Int) < (vs'.length : Int))) = true := by simp [hlt]
  simp only [if_neg h0]
  rw [if_pos h1]
  simp
end
end Dl

namespace Dl
open PySem PySem.Spec PyProof.Rows L2
/-! ### what is walked -/
structure Itd (K : Fg) (J : It) (Stay : Hp → Prop) (G : Hp) (ds : List D) : Prop where
  go : ∀ i H, i < ds.length → Stay H → J.go i H
  stop : ∀ H, Stay H → J.stop ds.length H
  yld : ∀ i H x H', i < ds.length → Stay H → J.yld i H x H' → ∃ d, ds[i]? = some d ∧ ((H' = H ∧ Rp K G x d) ∨ (∃ T xs es, x = .ref T ∧ H T = none ∧ H' = upd H T (.tup xs) ∧ RpA K G xs es ∧ d = .tuple es))
def WJ (K : Fg) (sa : Option Addr) (st : Bool) (wi : TI) (δ : List Cell) (P : List D → Prop) : Prop := ∀ (m : Bool) (H0 G0 : Hp) (E : Hp → Prop), Up E → ∀ (σ : L2.St) (H : Hp), At K m sa H0 G0 δ E σ H →
  ∀ R : It → Hp → Prop, (∀ J ds H1 G1 (Stay : Hp → Prop), P ds → AtG K m sa H0 G0 δ E σ G1 H1 → Itd K J Stay G1 ds → (∀ H', ExB sa H1 H' → Stay H') → (st = true → ∀ H', Same G1 H' → Stay H') → R J H1) → wi σ H R
/-- a target gets data -/
def WG (K : Fg) (sa : Option Addr) (g : TG) (δ : List Cell) (d : D) (P : List Cell → Prop) : Prop := ∀ (m : Bool) (H0 G0 : Hp) (E : Hp → Prop), Up E → ∀ (σ : L2.St) (H : Hp) (v : V), At K m sa H0 G0 δ (fun G => E G ∧ Rp K G v d) σ H →
  ∀ Q : L2.St → Hp → Prop, (∀ δ' σ', P δ' → At K m sa H0 G0 δ' E σ' H → Q σ' H) → g v σ H Q
/-- .. and nothing but the slots vs is stored -/
def WGv (K : Fg) (sa : Option Addr) (vs : List Nat) (g : TG) (δ : List Cell) (d : D) (P : List Cell → Prop) : Prop := ∀ (m : Bool) (H0 G0 : Hp) (E : Hp → Prop), Up E → ∀ (σ : L2.St) (H : Hp) (v : V), At K m sa H0 G0 δ (fun G => E G ∧ Rp K G v d) σ H →
  ∀ Q : L2.St → Hp → Prop, (∀ δ' σ', P δ' → At K m sa H0 G0 δ' E σ' H → wipe σ' vs = wipe σ vs → Q σ' H) → g v σ H Q
def wipeC (δ : List Cell) : List Nat → List Cell
  | [] => δ
  | v :: vs => (wipeC δ vs).set v .no
theorem wipe_set_mem : ∀ {vs : List Nat} {σ : L2.St} {i : Nat} {x : Option V}, i ∈ vs → wipe (σ.set i x) vs = wipe σ vs
  | v :: vs, σ, i, x, h => by
    unfold wipe
    by_cases e : i ∈ vs
    · rw [wipe_set_mem e]
    · have ev : i = v := by
        rcases List.mem_cons.mp h with z | z
        · exact z
        · exact absurd z e
      subst ev
      have go : ∀ (vs : List Nat) (σ : L2.St), (wipe (σ.set i x) vs).set i none = (wipe σ vs).set i none := fun vs => by
        induction vs with
        | nil => intro σ; unfold wipe; rw [List.set_set]
        | cons w ws ih =>
          intro σ
          unfold wipe
          by_cases ew : w = i
          · subst ew; rw [List.set_set, List.set_set]; exact ih σ
          · rw [List.set_comm _ _ (fun z => ew z), List.set_comm _ _ (fun z => ew z), ih σ]
      exact go vs σ
  | [], _, _, _, h => by cases h
theorem wipe_wipe : ∀ {vs : List Nat} {σ : L2.St}, wipe (wipe σ vs) vs = wipe σ vs := by
  have key : ∀ (ws vs : List Nat) (σ : L2.St), (∀ w ∈ ws, w ∈ vs) → wipe (wipe σ ws) vs = wipe σ vs := fun ws => by
    induction ws with
    | nil => intro vs σ _; rfl
    | cons w ws ih =>
      intro vs σ h
      show wipe ((wipe σ ws).set w none) vs = wipe σ vs
      rw [wipe_set_mem (h w (by simp)), ih vs σ (fun x hx => h x (by simp [hx]))]
  intro vs σ
  exact key vs vs σ (fun _ h => h)
section
variable {K : Fg} {sa : Option Addr} {m : Bool} {H0 G0 G G' H H' : Hp} {δ : List Cell} {E E' : Hp → Prop} {σ : L2.St}
theorem AtG.forget (A : AtG K m sa H0 G0 δ E σ G H) (v : Nat) : AtG K m sa H0 G0 (δ.set v .no) E (σ.set v none) G H := by
  refine ⟨A.gd, by rw [List.length_set, List.length_set]; exact A.len, fun j c o h1 h2 => ?_, fun j k ds es hjk h1 h2 => ?_, A.ex⟩
  · by_cases e : v = j
    · subst e
      have hi : v < δ.length := by
        have := (List.getElem?_eq_some_iff.mp h1).1
        rwa [List.length_set] at this
      rw [List.getElem?_set_self hi] at h1; cases h1
      trivial
    · rw [List.getElem?_set_ne e] at h1 h2
      exact A.cell j c o h1 h2
  · have key : ∀ {j : Nat} {es : List D}, (δ.set v .no)[j]? = some (.own es) → v ≠ j ∧ δ[j]? = some (.own es) := fun {j es} h => by
      by_cases e : v = j
      · subst e
        have hi : v < δ.length := by
          have := (List.getElem?_eq_some_iff.mp h).1
          rwa [List.length_set] at this
        rw [List.getElem?_set_self hi] at h; cases h
      · rw [List.getElem?_set_ne e] at h; exact ⟨e, h⟩
    obtain ⟨nj, h1'⟩ := key h1
    obtain ⟨nk, h2'⟩ := key h2
    rw [List.getElem?_set_ne nj, List.getElem?_set_ne nk]
    exact A.dis j k ds es hjk h1' h2'
theorem AtG.wiped (A : AtG K m sa H0 G0 δ E σ G H) : ∀ vs : List Nat, AtG K m sa H0 G0 (wipeC δ vs) E (wipe σ vs) G H
  | [] => A
  | v :: vs => (AtG.wiped A vs).forget v
/-- an object that nobody knows is changed -/
theorem AtG.poke {p : Addr} {o : HO} (A : AtG K m sa H0 G0 δ E σ G H) (gp : G p = none) (h0 : H0 p = none) (hs : sa ≠ some p) (hj : ∀ (j : Nat) (es : List D), δ[j]? = some (.own es) → σ[j]? ≠ some (some (.ref p))) : AtG K m sa H0 G0 δ E σ G (upd H p o) := by
  refine ⟨⟨A.gd.g0, fun b x q => ?_, A.gd.fr, fun b x n q => ?_, fun a ea => ⟨?_, (A.gd.sp a ea).2⟩⟩, A.len, fun i c o h1 h2 => ?_, A.dis, A.ex⟩
  · rw [upd_ne (fun z => by subst z; rw [gp] at q; cases q)]; exact A.gd.gh b x q
  · rw [upd_ne (fun z => by subst z; rw [h0] at q; cases q)]; exact A.gd.hh b x n q
  · obtain ⟨c, s, n, q⟩ := (A.gd.sp a ea).1
    exact ⟨c, s, n, by rw [upd_ne (fun z => hs (by rw [ea, z]))]; exact q⟩
  · have q := A.cell i c o h1 h2
    cases c with
    | no => trivial
    | dat d => exact q
    | own ds =>
      obtain ⟨p', vs, e1, hp, gp', ne, r, hm⟩ := q
      exact ⟨p', vs, e1, by rw [upd_ne (fun z => hj i ds h1 (by rw [h2, e1, z]))]; exact hp, gp', ne, r, hm⟩
    | spr => exact q
/-- the turn's value has come -/
theorem AtG.came {J : It} {Stay : Hp → Prop} {G1 : Hp} {ds : List D} {i : Nat} {x : V} {H' : Hp} (I : Itd K J Stay G1 ds) (A : AtG K m sa H0 G0 δ E σ G H) (up : Up E) (hG : Same G1 G) (hi : i < ds.length) (st : Stay H) (y : J.yld i H x H') :
    ∃ d G', ds[i]? = some d ∧ Same G G' ∧ Same H H' ∧ (∀ b, H b ≠ none → G b = none → G' b = none) ∧ AtG K m sa H0 G0 δ (fun G => E G ∧ Rp K G x d) σ G' H' := by
  obtain ⟨d, hd, h⟩ := I.yld i H x H' hi st y
  rcases h with ⟨e, r⟩ | ⟨T, xs, es, e, hT, e2, r, e3⟩
  · subst e
    exact ⟨d, G, hd, Same.refl _, Same.refl _, fun _ _ h => h, A.same ⟨A.ex, r.mono hG⟩⟩
  · subst e e2 e3
    have gT : G T = none := by
      cases z : G T with
      | none => rfl
      | some u => rw [A.gd.gh T u z] at hT; cases hT
    have s1 : Same G (upd G T (.tup xs)) := fun b o e => by rw [upd_ne (ne_of_none e gT)]; exact e
    have s2 : Same H (upd H T (.tup xs)) := fun b o e => by rw [upd_ne (ne_of_none e hT)]; exact e
    refine ⟨_, _, hd, s1, s2, fun b h1 h2 => ?_, A.new hT ⟨up _ _ s1 A.ex, .tup (.inl (.inl upd_same)) (r.mono (hG.trans s1))⟩⟩
    rw [upd_ne (fun z => by subst z; exact h1 hT)]
    exact h2
end
section
variable {K : Fg} {sa : Option Addr} {δ : List Cell} {ta tb te tl : TE} {tt : TT} {t u : TS}
theorem wg_name {i : Nat} {d : D} {P : List Cell → Prop} (p : P (δ.set i (.dat d))) : WG K sa (gName i) δ d P := fun m H0 G0 E up σ H v ⟨G, a⟩ Q q => q _ _ p ⟨G, a.set i⟩
theorem wgv_name {vs : List Nat} {i : Nat} {d : D} {P : List Cell → Prop} (hv : i ∈ vs) (p : P (δ.set i (.dat d))) : WGv K sa vs (gName i) δ d P := fun m H0 G0 E up σ H v ⟨G, a⟩ Q q => q _ _ p ⟨G, a.set i⟩ (wipe_set_mem hv)
theorem wg_two {i j : Nat} {d e : D} {P : List Cell → Prop} (p : P ((δ.set i (.dat d)).set j (.dat e))) : WG K sa (gTup K 2 (gCons (gName i) (gCons (gName j) gNil))) δ (.tuple [d, e]) P := fun m H0 G0 E up σ H v ⟨G, a⟩ Q q => by
  obtain ⟨b, xs, ev, hs, rx⟩ := a.ex.2.tup_inv
  obtain ⟨v1, v2, ex, r1, r2⟩ := rx.two
  subst ex
  exact ⟨b, _, ev, sqT_mono a.gd.gh hs, rfl, v1, _, rfl, v2, _, rfl, rfl, q _ _ p ⟨G, ((a.same (E' := fun G => (E G ∧ Rp K G v2 e) ∧ Rp K G v1 d) ⟨⟨a.ex.1, r2⟩, r1⟩).set i).set j⟩⟩
theorem wgv_two {vs : List Nat} {i j : Nat} {d e : D} {P : List Cell → Prop} (hi : i ∈ vs) (hj : j ∈ vs) (p : P ((δ.set i (.dat d)).set j (.dat e))) : WGv K sa vs (gTup K 2 (gCons (gName i) (gCons (gName j) gNil))) δ (.tuple [d, e]) P := fun m H0 G0 E up σ H v ⟨G, a⟩ Q q => by
  obtain ⟨b, xs, ev, hs, rx⟩ := a.ex.2.tup_inv
  obtain ⟨v1, v2, ex, r1, r2⟩ := rx.two
  subst ex
  exact ⟨b, _, ev, sqT_mono a.gd.gh hs, rfl, v1, _, rfl, v2, _, rfl, rfl, q _ _ p ⟨G, ((a.same (E' := fun G => (E G ∧ Rp K G v2 e) ∧ Rp K G v1 d) ⟨⟨a.ex.1, r2⟩, r1⟩).set i).set j⟩ (by rw [wipe_set_mem hj, wipe_set_mem hi])⟩
/-- x, y = e (a tuple) -/
theorem ws_asgG {g : TG} {nx : List Cell → Prop} {rt : D → Prop} {bk ct : List Cell → Prop} (h : WE K sa te δ fun d => WG K sa g δ d nx) : WS K sa (tAsg te g) ⟨nx, rt, bk, ct⟩ δ := fun H0 G0 E up σ H Dn A R =>
  h true H0 G0 E up σ H A _ fun v d H1 p A1 => p true H0 G0 E up σ H1 v A1 _ fun δ' σ' p' A' => R.nx _ _ _ p' A'
/-! ### for -/
theorem ws_for {wi : TI} {g : TG} {nx : List Cell → Prop} {rt : D → Prop} {bk ct : List Cell → Prop} (h : WJ K sa true wi δ fun ds => ∃ Iv : Nat → List Cell → Prop, Iv 0 δ ∧ (∀ i d δ', ds[i]? = some d → Iv i δ' → WG K sa g δ' d fun δ2 => WS K sa t ⟨Iv (i + 1), rt, nx, Iv (i + 1)⟩ δ2) ∧ (∀ δ', Iv ds.length δ' → nx δ')) :
    WS K sa (tFor wi g t) ⟨nx, rt, bk, ct⟩ δ := fun H0 G0 E up σ H Dn A R =>
  h true H0 G0 E up σ H A _ fun J ds H1 G1 Stay ⟨Iv, i0, step, done⟩ a I sx ss => by
    have up' : Up fun G => E G ∧ Same G1 G := up_and up fun G G' e h => h.trans e
    refine ⟨fun i m σ H => m = ds.length - i ∧ i ≤ ds.length ∧ ∃ δ', Iv i δ' ∧ At K true sa H0 G0 δ' (fun G => E G ∧ Same G1 G) σ H, ⟨ds.length, by simp, Nat.zero_le _, δ, i0, G1, a.same ⟨a.ex, Same.refl _⟩⟩, ?_⟩
    rintro i m σ' H' ⟨rfl, hi, δ', hI, G', a'⟩
    have st : Stay H' := ss rfl H' (a'.ex.2.trans a'.gd.gh)
    by_cases hlt : i < ds.length
    · refine .inr ⟨I.go i H' hlt st, fun σ2 H2 => ∃ δ2, Iv (i + 1) δ2 ∧ At K true sa H0 G0 δ2 (fun G => E G ∧ Same G1 G) σ2 H2, fun σ2 H2 hN => ⟨ds.length - (i + 1), by omega, rfl, hlt, hN⟩, fun x H'' y => ?_⟩
      obtain ⟨d, G'', hd, sG, sH, fr, a''⟩ := a'.came I up' a'.ex.2 hlt st y
      refine step i d δ' hd hI true H0 G0 _ up' σ' H'' x ⟨G'', a''⟩ _ fun δ2 σ2 w A2 => ?_
      refine w H0 G0 _ up' σ2 H'' _ A2 ⟨fun δ3 σ3 H3 p A3 => ⟨δ3, p, A3⟩, fun δ3 σ3 H3 p A3 => R.nx _ _ _ p (A3.imp fun _ z => z.1), fun δ3 σ3 H3 p A3 => ⟨δ3, p, A3⟩, fun δ3 v d σ3 H3 p A3 => R.rt δ3 v d σ3 H3 p (A3.imp fun _ z => ⟨z.1.1, z.2⟩)⟩
    · have e : i = ds.length := by omega
      subst e
      exact .inl ⟨I.stop H' st, R.nx _ _ _ (done δ' hI) ⟨G', a'.same a'.ex.1⟩⟩
/-! ### comprehensions -/
inductive FM (R : D → Option D → Prop) : List D → List D → Prop
  | nil : FM R [] []
  | yes {d e : D} {ds es : List D} : FM R ds es → R d (some e) → FM R (ds ++ [d]) (es ++ [e])
  | no {d : D} {ds es : List D} : FM R ds es → R d none → FM R (ds ++ [d]) es
theorem FM.len {R : D → Option D → Prop} {ds es : List D} (h : FM R ds es) : es.length ≤ ds.length := by
  induction h with
  | nil => exact Nat.le_refl _
  | yes _ _ ih => rw [List.length_append, List.length_append]; simp; exact ih
  | no _ _ ih => rw [List.length_append]; simp; omega
theorem wf_lc {wi : TI} {g : TG} {vs : List Nat} {P : List D → Prop} (h : WJ K sa false wi δ fun ds => ds.length ≤ sizeLine ∧ ∃ R : D → Option D → Prop,
      (∀ (i : Nat) (d : D), ds[i]? = some d → WGv K sa vs g (wipeC δ vs) d fun δ2 => WT K sa tt δ2 fun b => (b = true → WE K sa te δ2 fun e => R d (some e)) ∧ (b = false → R d none)) ∧ ∀ es, FM R ds es → P es) :
    WF K sa (tLc wi g tt te vs) δ P := fun m H0 G0 E up σ H A Q q =>
  h m H0 G0 E up σ H A _ fun J ds H1 G1 Stay ⟨hz, R, step, done⟩ a I sx ss => fun Dl hD => by
    have hs : sa ≠ some Dl := fun z => by
      obtain ⟨c, s, n, e⟩ := (a.gd.sp Dl z).1
      rw [hD] at e; cases e
    have own1 : ∀ (j : Nat) (es : List D), δ[j]? = some (.own es) → σ[j]? ≠ some (some (.ref Dl)) := fun j es hj e => by
      obtain ⟨o, e1, p', vs', e2, hp, _⟩ := a.slot hj
      rw [e] at e1; cases e1; cases e2
      rw [hD] at hp; cases hp
    have aw := a.base.wiped vs
    have own2 : ∀ (j : Nat) (es : List D), (wipeC δ vs)[j]? = some (.own es) → (wipe σ vs)[j]? ≠ some (some (.ref Dl)) := fun j es hj e => by
      obtain ⟨o, e1, p', vs', e2, hp, _⟩ := aw.slot hj
      rw [e] at e1; cases e1; cases e2
      rw [hD] at hp; cases hp
    have gD : G1 Dl = none := by
      cases z : G1 Dl with
      | none => rfl
      | some u => rw [a.gd.gh Dl u z] at hD; cases hD
    refine ⟨fun i m H' => m = ds.length - i ∧ i ≤ ds.length ∧ ∃ G' acc es, AtG K false sa H1 G1 (wipeC δ vs) E (wipe σ vs) G' H' ∧ G' Dl = none ∧ H' Dl = some (.lst acc) ∧ RpA K G' acc es ∧ FM R (ds.take i) es,
      ⟨ds.length, by simp, Nat.zero_le _, G1, [], [], aw.poke gD hD hs own2, gD, upd_same, .nil, by rw [List.take_zero]; exact .nil⟩, ?_⟩
    rintro i m' H' ⟨rfl, hi, G', acc, es, a', gD', hD', ra, fm⟩
    have st : Stay H' := sx H' a'.gd.hh
    by_cases hlt : i < ds.length
    · refine .inr ⟨I.go i H' hlt st, fun H'' => ∃ G'' acc es, AtG K false sa H1 G1 (wipeC δ vs) E (wipe σ vs) G'' H'' ∧ G'' Dl = none ∧ H'' Dl = some (.lst acc) ∧ RpA K G'' acc es ∧ FM R (ds.take (i + 1)) es, fun H'' hN => ⟨ds.length - (i + 1), by omega, rfl, hlt, hN⟩, fun x H'' y => ?_⟩
      obtain ⟨d, G'', hd, sG, sH, fr, a''⟩ := a'.came I up a'.gd.g0 hlt st y
      have gD'' : G'' Dl = none := fr Dl (by rw [hD']; simp) gD'
      have hD'' : H'' Dl = some (.lst acc) := sH _ _ hD'
      have etk : ds.take (i + 1) = ds.take i ++ [d] := by rw [List.take_add_one, hd]; rfl
      have keep : ∀ {Gf H4 : Hp} {F : Hp → Prop} {δ2 : List Cell} {σ2 : L2.St}, AtG K false sa H'' G'' δ2 F σ2 Gf H4 → AtG K false sa H1 G1 (wipeC δ vs) E (wipe σ vs) Gf H4 ∧ Gf Dl = none ∧ H4 Dl = some (.lst acc) ∧ RpA K Gf acc es := fun {Gf H4 F δ2 σ2} b =>
        ⟨(a''.same a''.ex.1).grow b.gd.g0 b.gd.gh b.gd.fr b.gd.hh (fun z ez => (b.gd.sp z ez).1) (up _ _ b.gd.g0 a''.ex.1), b.gd.fr Dl (by rw [hD'']; simp) gD'', b.gd.hh Dl _ hs hD'', ra.mono (sG.trans b.gd.g0)⟩
      refine step i d hd false H'' G'' E up (wipe σ vs) H'' x ⟨G'', a''.base⟩ _ fun δ2 σ2 w A2 ew => ⟨by rw [ew, wipe_wipe], ?_⟩
      refine w false H'' G'' E up σ2 H'' A2 _ fun b H3 pb A3 => ?_
      cases b with
      | true =>
        refine iteT (pb.1 rfl false H'' G'' E up σ2 H3 A3 _ fun z e H4 pe ⟨Gf, bf⟩ => ?_)
        obtain ⟨k1, k2, k3, k4⟩ := keep bf
        refine ⟨acc, k3, ?_, Gf, acc ++ [z], es ++ [e], k1.poke k2 hD hs own2, k2, upd_same, k4.snoc bf.ex.2, by rw [etk]; exact .yes fm pe⟩
        have l1 := ra.length
        have l2 := fm.len
        rw [List.length_take] at l2
        omega
      | false =>
        obtain ⟨Gf, bf⟩ := A3
        obtain ⟨k1, k2, k3, k4⟩ := keep bf
        exact iteF ⟨Gf, acc, es, k1, k2, k3, k4, by rw [etk]; exact .no fm (pb.2 rfl)⟩
    · have e : i = ds.length := by omega
      subst e
      rw [List.take_length] at fm
      refine .inl ⟨I.stop H' st, q Dl acc es H' (done es fm) ⟨G', a.grow a'.gd.g0 a'.gd.gh a'.gd.fr a'.gd.hh (fun z ez => (a'.gd.sp z ez).1) ⟨up _ _ a'.gd.g0 a.ex, gD', ra⟩⟩ hD' ?_ hs own1⟩
      cases z : H0 Dl with
      | none => rfl
      | some o => exact absurd hD (a.gd.live (by rw [z]; simp))
end
end Dl

/-! ## pairs walked: zip and enumerate over lists and tuples in any mix -/
namespace DlP
open PySem PySem.Spec PyProof.Rows L2
/-- a list, or a tuple -/
def SqK (K : PySem.W.Frag) (H : Hp) (k : Bool) (a : Addr) (xs : List V) : Prop := if k = true then SqL K H a xs else SqT K H a xs
def HasK (h : Heap) (k : Bool) (a : Addr) (items : Array Value) : Prop := if k = true then h.IsList a items else h.IsTuple a items
def ItK (h : Heap) (k : Bool) (it a : Addr) (i : Nat) : Prop := if k = true then h.IsListIter it a i else h.IsTupleIter it a i
def obK (k : Bool) (a : Addr) : Obj := if k = true then { cls := .type "list_iterator", data := .fields #[.ref a, .int 0 0] } else { cls := .type "tuple_iterator", data := .fields #[.ref a, .int 0 0] }
theorem drawsK {prog : Program} {w : World} {A : Around} (hh : A.handled = none) (k : Bool) (it a : Addr) (hne : a ≠ it) (items : Array Value) :
    Draws prog w A it [it, a] items.size (fun i v => items[i]? = some v) (fun i h => ItK h k it a i ∧ HasK h k a items) := by
  cases k with
  | true => exact Draws.list hh it a hne items
  | false => exact Draws.tuple hh it a hne items
theorem beginsK (k : Bool) (a : Addr) (items : Array Value) : Begins (.ref a) (obK k a) fun h => HasK h k a items := by
  cases k with
  | true => exact begins_list a items
  | false => exact begins_tuple a items
theorem itK_at {h h' : Heap} {k : Bool} {it a : Addr} {i : Nat} (x : ItK h k it a i) (e : ∀ o, h.get? it = some o → h'.get? it = some o) : ItK h' k it a i := by
  cases k with
  | true => exact Heap.IsListIter.at x e
  | false => exact Heap.IsTupleIter.at x e
theorem itK_obj {h : Heap} {k : Bool} {it a : Addr} {i : Nat} (x : ItK h k it a i) : ∃ o, h.get? it = some o ∧ ∀ v, o.data ≠ .cell v := by
  cases k with
  | true =>
    obtain ⟨o, e, _, d⟩ := (x : h.IsListIter it a i)
    exact ⟨o, e, fun v q => by rw [d] at q; cases q⟩
  | false =>
    obtain ⟨o, e, _, d⟩ := (x : h.IsTupleIter it a i)
    exact ⟨o, e, fun v q => by rw [d] at q; cases q⟩
theorem itK_new {h : Heap} {k : Bool} {it a : Addr} (e : h.get? it = some (obK k a)) : ItK h k it a 0 := by
  cases k with
  | true => exact ⟨_, e, rfl, rfl⟩
  | false => exact ⟨_, e, rfl, rfl⟩
section
variable {X : Cx} {pins : List (Addr × Obj)} {σ : L2.St} {H : Hp} {s : Shared}
theorem sqK_of (I : Inv X pins σ H s) {k : Bool} {a : Addr} {xs : List V} (h : SqK X.K H k a xs) : ∃ its : List Value, Vals xs its ∧ HasK s.heap k a its.toArray := by
  cases k with
  | true => obtain ⟨its, r, p, _⟩ := I.list h; exact ⟨its, r, p.isList⟩
  | false => obtain ⟨its, r, p, _⟩ := I.tuple h; exact ⟨its, r, p⟩
theorem sqK_inj (I : Inv X pins σ H s) {k : Bool} {a : Addr} {xs ys : List V} (h : SqK X.K H k a xs) (h' : SqK X.K H k a ys) : xs = ys := by
  cases k with
  | true => exact I.list_inj h h'
  | false => exact I.tuple_inj h h'
theorem hasK_lt {h : Heap} {k : Bool} {a : Addr} {items : Array Value} (x : HasK h k a items) : a < h.objs.size := by
  cases k with
  | true => obtain ⟨_, e, _⟩ := (x : h.IsList a items); exact Heap.lt_size e
  | false => obtain ⟨_, e, _⟩ := (x : h.IsTuple a items); exact Heap.lt_size e
theorem hasK_inv {h : Heap} {k : Bool} {a b : Addr} {items : Array Value} {o : Obj} (x : HasK h k a items) (e : h.get? b = some o) (d : ∀ its n, o.data ≠ .seq its n) : a ≠ b := fun z => by
  subst z
  cases k with
  | true =>
    obtain ⟨o', e', _, n, d'⟩ := (x : h.IsList a items)
    rw [e] at e'; cases e'
    exact d _ _ d'
  | false =>
    obtain ⟨o', e', _, n, d'⟩ := (x : h.IsTuple a items)
    rw [e] at e'; cases e'
    exact d _ _ d'
end
/-- zip of two -/
def ItzA (K : PySem.W.Frag) (k1 k2 : Bool) (a b : Addr) : It :=
  ⟨fun i H => ∃ (xs ys : List V) (x y : V), SqK K H k1 a xs ∧ SqK K H k2 b ys ∧ xs[i]? = some x ∧ ys[i]? = some y,
    fun i H v H' => ∃ T x y, v = .ref T ∧ H T = none ∧ H' = upd H T (.tup [x, y]) ∧ (∀ xs, SqK K H k1 a xs → xs[i]? = some x) ∧ ∀ ys, SqK K H k2 b ys → ys[i]? = some y,
    fun i H => ∃ xs ys : List V, SqK K H k1 a xs ∧ SqK K H k2 b ys ∧ i = min xs.length ys.length⟩
theorem turn_zipA {P : Program} {w : World} {K : PySem.W.Frag} {elts : List Expr} {kk : Nat} {tpos : Pos} {k1 k2 : Bool} {a b z TI TO i1 i2 : Addr} (S : ZipSep2 z TI TO i1 i2 [i1, a] [i2, b]) (ha : a ≠ i1) (hb : b ≠ i2) :
    Turn P w K (.Tuple elts kk tpos) (ItzA K k1 k2 a b) [z, TI, TO, i1, i2] z (fun i h => IsZip h z TI TO .none ∧ IsTupOf2 h TI (.ref i1) (.ref i2) ∧ (∃ x y, IsTupOf2 h TO x y) ∧ ItK h k1 i1 a i ∧ ItK h k2 i2 b i) where
  mem := by simp
  obj := fun i h st c hc => by
    obtain ⟨hz, hTI, ⟨x, y, hTO⟩, h1, h2⟩ := st
    have e' : c = z ∨ c = TI ∨ c = TO ∨ c = i1 ∨ c = i2 := by simpa using hc
    rcases e' with q | q | q | q | q
    · rw [q]; exact ⟨_, hz, fun v q => nomatch q⟩
    · rw [q]; exact ⟨_, hTI, fun v q => nomatch q⟩
    · rw [q]; exact ⟨_, hTO, fun v q => nomatch q⟩
    · rw [q]; exact itK_obj h1
    · rw [q]; exact itK_obj h2
  keep := fun i h h' st k => by
    obtain ⟨hz, hTI, ⟨x, y, hTO⟩, h1, h2⟩ := st
    exact ⟨k z (by simp) _ hz, k TI (by simp) _ hTI, ⟨x, y, k TO (by simp) _ hTO⟩, itK_at h1 fun o q => k i1 (by simp) o q, itK_at h2 fun o q => k i2 (by simp) o q⟩
  item := by
    intro X hP hw hK hc i pins s σ H E I hf st hg
    subst hP hw hK
    obtain ⟨hz, hTI, ⟨x0, y0, hTO⟩, h1, h2⟩ := st
    obtain ⟨xs, ys, x, y, hqx, hqy, hx, hy⟩ := hg
    obtain ⟨its, rv, p⟩ := sqK_of I hqx
    obtain ⟨its2, rv2, p2⟩ := sqK_of I hqy
    have hxl : i < xs.length := (List.getElem?_eq_some_iff.mp hx).1
    have hyl : i < ys.length := (List.getElem?_eq_some_iff.mp hy).1
    have W := GoesN.zip2 (prog := X.prog) (w := X.w) (A := X.A) (elts := elts) (x1 := kk) (pos := tpos) S (drawsK (A := X.A.in1) (I.ok.hd hc) k1 i1 a ha its.toArray) (drawsK (A := X.A.in1) (I.ok.hd hc) k2 i2 b hb its2.toArray)
    have live : ∀ c ∈ [z, TI, TO, i1, i2], c < s.heap.objs.size := fun c hc' => by
      have e' : c = z ∨ c = TI ∨ c = TO ∨ c = i1 ∨ c = i2 := by simpa using hc'
      rcases e' with q | q | q | q | q
      · rw [q]; exact Heap.lt_size hz
      · rw [q]; exact Heap.lt_size hTI
      · rw [q]; exact Heap.lt_size hTO
      · rw [q]; obtain ⟨_, e, _⟩ := itK_obj h1; exact Heap.lt_size e
      · rw [q]; obtain ⟨_, e, _⟩ := itK_obj h2; exact Heap.lt_size e
    refine wpAny_mono (W.goes i s (fun u s2 => ∃ x H', Inv X pins σ H' s2 ∧ RelV x u ∧ (ItzA X.K k1 k2 a b).yld i H x H' ∧ (IsZip s2.heap z TI TO .none ∧ IsTupOf2 s2.heap TI (.ref i1) (.ref i2) ∧ (∃ x y, IsTupOf2 s2.heap TO x y) ∧ ItK s2.heap k1 i1 a (i + 1) ∧ ItK s2.heap k2 i2 b (i + 1)) ∧ ∀ b ∈ [z, TI, TO, i1, i2], H' b = none) E
      (by rw [List.size_toArray, List.size_toArray, ← rv.length, ← rv2.length]; omega) ⟨hz, hTI, ⟨x0, y0, hTO⟩, ⟨h1, p⟩, h2, p2⟩ fun v h' tk hY st' hk htk => ?_) (fun r s1 h => h) (fun _ _ h => h)
    obtain ⟨T, u1, u2, ev, hT, hu1, hu2, hTup⟩ := hY
    subst ev
    obtain ⟨v1, hv1, r1⟩ := rv.get hx
    obtain ⟨v2, hv2, r2⟩ := rv2.get hy
    have e1 : v1 = u1 := by
      have q : its[i]? = some u1 := by simpa using hu1
      rw [hv1] at q; exact Option.some.inj q
    have e2 : v2 = u2 := by
      have q : its2[i]? = some u2 := by simpa using hu2
      rw [hv2] at q; exact Option.some.inj q
    subst e1 e2
    have new : ObjOk X.prog X.w (upd H T (.tup [x, y])) h' T (.tup [x, y]) := ⟨by show 2 ≤ sizeLine; decide, [v1, v2], .cons r1 (.cons r2 .nil), hTup⟩
    have I1 : Inv X pins σ (upd H T (.tup [x, y])) { s with heap := h', toks := tk } :=
      I.turnedNew (t' := tk) (ch := [z, TI, TO, i1, i2]) (fun c o hb q => hk c o (fun q' => hb (by
        have z' : c = z ∨ c = TO ∨ c = i1 ∨ c = i2 := by simpa using q'
        rcases z' with z' | z' | z' | z' <;> simp [z'])) q) hf hT new
    obtain ⟨hz', hTI', hTO', ⟨h1', _⟩, h2', _⟩ := st'
    refine ⟨.ref T, _, I1, rfl, ⟨T, x, y, rfl, I.hok.fresh hT, rfl, fun l hl => by rw [sqK_inj I hl hqx]; exact hx, fun l hl => by rw [sqK_inj I hl hqy]; exact hy⟩, ⟨hz', hTI', hTO', h1', h2'⟩, fun c hcm => ?_⟩
    rw [upd_ne (Nat.ne_of_lt (Nat.lt_of_lt_of_le (live c hcm) hT))]
    exact (hf c hcm).1
  done := by
    intro X hP hw hK hc i pins s σ H E I hf st hg
    subst hP hw hK
    obtain ⟨hz, hTI, ⟨x0, y0, hTO⟩, h1, h2⟩ := st
    obtain ⟨xs, ys, hqx, hqy, hend⟩ := hg
    obtain ⟨its, rv, p⟩ := sqK_of I hqx
    obtain ⟨its2, rv2, p2⟩ := sqK_of I hqy
    have W := GoesN.zip2 (prog := X.prog) (w := X.w) (A := X.A) (elts := elts) (x1 := kk) (pos := tpos) S (drawsK (A := X.A.in1) (I.ok.hd hc) k1 i1 a ha its.toArray) (drawsK (A := X.A.in1) (I.ok.hd hc) k2 i2 b hb its2.toArray)
    have ei : i = min its.toArray.size its2.toArray.size := by rw [List.size_toArray, List.size_toArray, ← rv.length, ← rv2.length]; exact hend
    subst ei
    refine wpAny_mono (W.stops s (fun s1 => Inv X pins σ H s1) E ⟨hz, hTI, ⟨x0, y0, hTO⟩, ⟨h1, p⟩, h2, p2⟩ fun h' tk hk htk => ?_) (fun r s1 h => h) (fun _ _ h => h)
    exact I.turnedL (t' := tk) (ch := [z, TI, TO, i1, i2]) (fun c o hb q => hk c o (fun q' => hb (by
        have z' : c = z ∨ c = TO ∨ c = i1 ∨ c = i2 := by simpa using q'
        rcases z' with z' | z' | z' | z' <;> simp [z'])) q) hf
  self := fun A i s Q E st h => wpAny_pyIter_zip st.1 h
def iZipU (K : PySem.W.Frag) (ta : TA) : TI := fun σ H R => ta σ H fun vs H1 => ∃ k1 k2 a b xs ys, vs = [.ref a, .ref b] ∧ SqK K H1 k1 a xs ∧ SqK K H1 k2 b ys ∧ R (ItzA K k1 k2 a b) H1
theorem pi_zipU {X : Cx} {e e2 : Expr} {ta : TA} {p pos tpos : Pos} {elts : List Expr} {kk : Nat} (hg : Gl X "zip") (hm : X.mg "zip" = none) (ha : PA X [e, e2] ta)
    (hs : starEach [e, e2] X.env = (false, eval e X.env) :: starEach [e2] X.env := by rfl) (hpl : (backTo pos (starEach [e2] X.env)).any (·.1) = false := by rfl) :
    PI X (.Tuple elts kk tpos) (.Call (.Name "zip" p) [e, e2] [] pos) (iZipU X.K ta) := by
  refine ⟨fun pins s σ H R I h => ?_⟩
  refine Call_ (ld_blt I hg hm PyProof.Rows.boot_zip (PyProof.Rows.callWith_type1 (thn (ha.run pos pins s σ H _ I h) fun us s1 ⟨vs, H1, I1, r1, q1⟩ => ?_) hs hpl))
  obtain ⟨k1, k2, a, b, xs, ys, ex, hqx, hqy, q⟩ := q1
  subst ex
  cases r1 with
  | cons r rr =>
    cases rr with
    | cons r' rr =>
      cases rr
      cases r
      cases r'
      obtain ⟨its, rv, p1⟩ := sqK_of I1 hqx
      obtain ⟨its2, rv2, p2⟩ := sqK_of I1 hqy
      have la := hasK_lt p1
      have lb := hasK_lt p2
      refine zip_begins2 (beginsK k1 a its.toArray) (beginsK k2 b its2.toArray) p1 p2 fun h' hz hTI hTO h1 h2 hsz hk => wpAny_pyIter_zip hz ?_
      have I2 : Inv X pins σ H1 { s1 with heap := h' } := I1.kept (t' := s1.toks) hk
      have fresh5 : ∀ c, c ∈ [s1.heap.objs.size + 4, s1.heap.objs.size + 2, s1.heap.objs.size + 3, s1.heap.objs.size, s1.heap.objs.size + 1] → FpOk X pins H1 c := fun c hcm => by
        have e' : c = s1.heap.objs.size + 4 ∨ c = s1.heap.objs.size + 2 ∨ c = s1.heap.objs.size + 3 ∨ c = s1.heap.objs.size ∨ c = s1.heap.objs.size + 1 := by simpa using hcm
        have hle : s1.heap.objs.size ≤ c := by
          rcases e' with z | z | z | z | z
          · rw [z]; exact Nat.le_add_right _ _
          · rw [z]; exact Nat.le_add_right _ _
          · rw [z]; exact Nat.le_add_right _ _
          · rw [z]; exact Nat.le_refl _
          · rw [z]; exact Nat.le_add_right _ _
        exact I1.fpOk hle (I1.hok.fresh hle)
      exact ⟨s1.heap.objs.size + 4, [s1.heap.objs.size + 4, s1.heap.objs.size + 2, s1.heap.objs.size + 3, s1.heap.objs.size, s1.heap.objs.size + 1], _, _, H1, rfl, I2,
        turn_zipA (zip_sep2 (fun c hc => by rw [List.mem_singleton.mp hc]; exact la) (fun c hc => by rw [List.mem_singleton.mp hc]; exact lb)) (Nat.ne_of_lt la) (Nat.ne_of_lt (Nat.lt_succ_of_lt lb)), ⟨hz, hTI, ⟨_, _, hTO⟩, itK_new h1, itK_new h2⟩, fresh5, q⟩

/-! ### enumerate -/
def IteA (K : PySem.W.Frag) (k : Bool) (a : Addr) : It :=
  ⟨fun i H => ∃ (xs : List V) (x : V), SqK K H k a xs ∧ xs[i]? = some x, fun i H v H' => ∃ T x, v = .ref T ∧ H T = none ∧ H' = upd H T (.tup [.int (i : Nat), x]) ∧ ∀ xs, SqK K H k a xs → xs[i]? = some x, fun i H => ∃ xs : List V, SqK K H k a xs ∧ i = xs.length⟩
theorem turn_enumA {P : Program} {w : World} {K : PySem.W.Frag} {elts : List Expr} {kk : Nat} {tpos : Pos} {k : Bool} {a e it : Addr} (hei : e ≠ it) (hea : e ≠ a) (hia : a ≠ it) :
    Turn P w K (.Tuple elts kk tpos) (IteA K k a) [e, it] e (fun i h => (∃ old, IsEnum h e it ((i : Nat) : Int) old) ∧ ItK h k it a i) where
  mem := by simp
  obj := fun i h st b hb => by
    obtain ⟨⟨old, he⟩, hi⟩ := st
    have e' : b = e ∨ b = it := by simpa using hb
    rcases e' with z | z
    · rw [z]; exact ⟨_, he, fun v q => nomatch q⟩
    · rw [z]; exact itK_obj hi
  keep := fun i h h' st k => let ⟨⟨old, he⟩, hi⟩ := st; ⟨⟨old, k e (by simp) _ he⟩, itK_at hi fun o q => k it (by simp) o q⟩
  item := by
    intro X hP hw hK hc i pins s σ H E I hf st hg
    subst hP hw hK
    obtain ⟨⟨old, he⟩, hit⟩ := st
    obtain ⟨xs, x, hq, hx⟩ := hg
    obtain ⟨its, rv, p⟩ := sqK_of I hq
    have hxl : i < xs.length := (List.getElem?_eq_some_iff.mp hx).1
    have W := GoesN.enumFrom (prog := X.prog) (w := X.w) (A := X.A) (elts := elts) (x1 := kk) (pos := tpos) 0 (drawsK (A := X.A.in1) (I.ok.hd hc) k it a hia its.toArray) e hei (by simp [hei, hea]) (by simp)
    have live : ∀ c ∈ [e, it], c < s.heap.objs.size := fun c hc' => by
      have e' : c = e ∨ c = it := by simpa using hc'
      rcases e' with q | q
      · rw [q]; exact Heap.lt_size he
      · rw [q]; obtain ⟨_, e, _⟩ := itK_obj hit; exact Heap.lt_size e
    refine wpAny_mono (W.goes i s (fun u s2 => ∃ x H', Inv X pins σ H' s2 ∧ RelV x u ∧ (IteA X.K k a).yld i H x H' ∧ ((∃ old, IsEnum s2.heap e it ((i + 1 : Nat) : Int) old) ∧ ItK s2.heap k it a (i + 1)) ∧ ∀ b ∈ [e, it], H' b = none) E
      (by rw [List.size_toArray, ← rv.length]; omega) ⟨⟨old, by rw [Int.zero_add]; exact he⟩, hit, p⟩ fun v h' tk hY st' hk htk => ?_) (fun r s1 h => h) (fun _ _ h => h)
    obtain ⟨T, t, u1, ev, hT, hu1, hTup⟩ := hY
    subst ev
    obtain ⟨v1, hv1, r1⟩ := rv.get hx
    have e1 : v1 = u1 := by
      have q : its[i]? = some u1 := by simpa using hu1
      rw [hv1] at q; exact Option.some.inj q
    subst e1
    rw [Int.zero_add] at hTup
    have new : ObjOk X.prog X.w (upd H T (.tup [.int (i : Nat), x])) h' T (.tup [.int (i : Nat), x]) := ⟨by show 2 ≤ sizeLine; decide, [.int (i : Nat) t, v1], .cons ⟨_, rfl⟩ (.cons r1 .nil), hTup⟩
    have I1 : Inv X pins σ (upd H T (.tup [.int (i : Nat), x])) { s with heap := h', toks := tk } :=
      I.turnedNew (t' := tk) (ch := [e, it]) (fun c o hb q => hk c o hb q) hf hT new
    obtain ⟨⟨old', he'⟩, hit', _⟩ := st'
    rw [Int.zero_add] at he'
    refine ⟨.ref T, _, I1, rfl, ⟨T, x, rfl, I.hok.fresh hT, rfl, fun l hl => by rw [sqK_inj I hl hq]; exact hx⟩, ⟨⟨old', he'⟩, hit'⟩, fun c hcm => ?_⟩
    rw [upd_ne (Nat.ne_of_lt (Nat.lt_of_lt_of_le (live c hcm) hT))]
    exact (hf c hcm).1
  done := by
    intro X hP hw hK hc i pins s σ H E I hf st hg
    subst hP hw hK
    obtain ⟨⟨old, he⟩, hit⟩ := st
    obtain ⟨xs, hq, hend⟩ := hg
    obtain ⟨its, rv, p⟩ := sqK_of I hq
    have W := GoesN.enumFrom (prog := X.prog) (w := X.w) (A := X.A) (elts := elts) (x1 := kk) (pos := tpos) 0 (drawsK (A := X.A.in1) (I.ok.hd hc) k it a hia its.toArray) e hei (by simp [hei, hea]) (by simp)
    have ei : i = its.toArray.size := by rw [List.size_toArray, ← rv.length]; exact hend
    subst ei
    refine wpAny_mono (W.stops s (fun s1 => Inv X pins σ H s1) E ⟨⟨old, by rw [Int.zero_add]; exact he⟩, hit, p⟩ fun h' tk hk htk => ?_) (fun r s1 h => h) (fun _ _ h => h)
    exact I.turnedL (t' := tk) (ch := [e, it]) (fun c o hb q => hk c o hb q) hf
  self := fun A i s Q E st h => let ⟨⟨_, he⟩, _⟩ := st; wpAny_pyIter_enum he h
set_option maxHeartbeats 4000000 in
theorem meets_enum1 {v : Value} {o : Obj} {H : Heap → Prop} (B : Begins v o H) :
    Meets (Builtin.«enumerate.__new__» ⟨[.type "enumerate", v], []⟩) (fun _ R s => H s.heap ∧
      R (.ok (.ret (.ref (s.heap.push o).objs.size))) { s with heap := (s.heap.push o).push { cls := .type "enumerate", data := .fields #[.none, .bool false, .ref s.heap.objs.size, rawInt 0, .none, .none] } }) :=
  .of_wp fun prog w A R s h => by
    obtain ⟨hp, g, d, tk, os⟩ := s; obtain ⟨h1, h⟩ := h
    have hsub := sub_enumerate
    have q1 : ∀ {A' : Around} {E : Value → Shared → Prop} {Q : Value → Shared → Prop}, Q (.ref hp.objs.size) ⟨hp.push o, g, d, tk, os⟩ → wpAny (model prog w) A' (pyIter v) Q E ⟨hp, g, d, tk, os⟩ :=
      fun q => B.iter prog w _ _ ⟨hp, g, d, tk, os⟩ _ h1 q
    wp_walk using q1
    refine wpAny_stack_any fun st => wpAny_pure ?_
    split
    · rename_i c _ _ _ _ _
      cases (c == Value.type "enumerate")
      · wp_walk using q1
        exact ⟨_, rfl, h⟩
      · wp_walk using q1
        exact ⟨_, rfl, h⟩
    · wp_walk using q1
      exact ⟨_, rfl, h⟩
theorem enum_begins1 {prog : Program} {w : World} {A : Around} {E : Value → Shared → Prop} {s : Shared} {v : Value} {o : Obj} {H : Heap → Prop} {Q : Value → Shared → Prop} (B : Begins v o H) (h1 : H s.heap)
    (h : ∀ h', IsEnum h' (s.heap.objs.size + 1) s.heap.objs.size 0 .none → h'.get? s.heap.objs.size = some o → h'.objs.size = s.heap.objs.size + 2 →
      (∀ b o, s.heap.get? b = some o → h'.get? b = some o) → Q (.ref (s.heap.objs.size + 1)) { s with heap := h' }) :
    wpAny (model prog w) A (call (.type "enumerate") [v]) Q E s := by
  refine callType_new F.called_enumerate (by decide) (F.typeCall_enumerate_1 _) (F.newCall_enumerate_1 _) (fun obj => F.args_object_init_2 obj _) F.entry_enumerate_new
    (meets_enum1 B) ⟨h1, ?_⟩
  have hz : (s.heap.push o).objs.size = s.heap.objs.size + 1 := Heap.size_push ..
  show _ ∧ _
  rw [hz]
  have he : IsEnum ((s.heap.push o).push { cls := .type "enumerate", data := .fields #[.none, .bool false, .ref s.heap.objs.size, rawInt 0, .none, .none] }) (s.heap.objs.size + 1) s.heap.objs.size 0 .none := by
    have := Heap.get?_push_size (s.heap.push o) (o := { cls := .type "enumerate", data := .fields #[.none, .bool false, .ref s.heap.objs.size, rawInt 0, .none, .none] }) rfl
    rw [hz] at this; exact this
  refine ⟨⟨_, he, rfl⟩, h _ he (Heap.get?_push_of_some _ (Heap.get?_push_size _ B.free)) (by rw [Heap.size_push, hz]) fun b o x => Heap.get?_push_of_some _ (Heap.get?_push_of_some _ x)⟩
def iEnumU (K : PySem.W.Frag) (ta : TA) : TI := fun σ H R => ta σ H fun vs H1 => ∃ k a xs, vs = [.ref a] ∧ SqK K H1 k a xs ∧ R (IteA K k a) H1
theorem pi_enumU {X : Cx} {e : Expr} {ta : TA} {p pos tpos : Pos} {elts : List Expr} {kk : Nat} (hg : Gl X "enumerate") (hm : X.mg "enumerate" = none) (ha : PA X [e] ta) (hs : starEach [e] X.env = [(false, eval e X.env)] := by rfl) :
    PI X (.Tuple elts kk tpos) (.Call (.Name "enumerate" p) [e] [] pos) (iEnumU X.K ta) := by
  refine ⟨fun pins s σ H R I h => ?_⟩
  refine Call_ (ld_blt I hg hm boot_enumerate (PyProof.Rows.callWith_type1 (thn (ha.run pos pins s σ H _ I h) fun us s1 ⟨vs, H1, I1, r1, q1⟩ => ?_) hs rfl))
  obtain ⟨k, a, xs, ex, hq, q⟩ := q1
  subst ex
  cases r1 with
  | cons r rr =>
    cases rr
    cases r
    obtain ⟨its, rv, p'⟩ := sqK_of I1 hq
    have la := hasK_lt p'
    refine enum_begins1 (beginsK k a its.toArray) p' fun h' he hit hsz hk => wpAny_pyIter_enum he ?_
    have I2 : Inv X pins σ H1 { s1 with heap := h' } := I1.kept (t' := s1.toks) hk
    refine ⟨s1.heap.objs.size + 1, [s1.heap.objs.size + 1, s1.heap.objs.size], _, _, H1, rfl, I2, turn_enumA (k := k) (a := a) (Nat.succ_ne_self _) (Nat.ne_of_gt (Nat.lt_succ_of_lt la)) (Nat.ne_of_lt la), ⟨⟨.none, he⟩, itK_new hit⟩, fun b hb => ?_, q⟩
    have e' : b = s1.heap.objs.size + 1 ∨ b = s1.heap.objs.size := by simpa using hb
    have hle : s1.heap.objs.size ≤ b := by
      rcases e' with z | z
      · rw [z]; exact Nat.le_add_right _ _
      · rw [z]; exact Nat.le_refl _
    exact I1.fpOk hle (I1.hok.fresh hle)
/-! ### a list or a tuple, whichever it is -/
def iSeq (K : PySem.W.Frag) (tl : TE) : TI := fun σ H R => tl σ H fun x H1 => ∃ a, x = .ref a ∧ (((∃ xs, SqL K H1 a xs) ∧ R (Itl K a) H1) ∨ ((∃ xs, SqT K H1 a xs) ∧ R (Itt K a) H1))
theorem pi_seq {X : Cx} {tg : Expr} {l : Expr} {tl : TE} (hl : PE X l tl) : PI X tg l (iSeq X.K tl) := by
  refine ⟨fun pins s σ H R I h => ?_⟩
  refine thn (hl.run pins s σ H _ I h) fun v s1 ⟨x, H1, I1, r1, q1⟩ => ?_
  obtain ⟨a, e, q⟩ := q1
  subst e
  cases r1
  rcases q with ⟨⟨xs, hq⟩, q⟩ | ⟨⟨xs, hq⟩, q⟩
  · obtain ⟨its, rv, p, hz⟩ := I1.list hq
    refine wpAny_pyIter_list p.isList ?_
    refine ⟨s1.heap.objs.size, [s1.heap.objs.size], _, _, H1, rfl, I1.kept (t' := s1.toks) fun b o e => Heap.get?_push_of_some _ e, turn_list a _, ⟨_, Heap.get?_push_size _ rfl, rfl, rfl⟩, fun b hb => ?_, q⟩
    have e : b = s1.heap.objs.size := by simpa using hb
    subst e
    exact I1.fpOk (Nat.le_refl _) (I1.hok.fresh (Nat.le_refl _))
  · obtain ⟨its, rv, p, hz⟩ := I1.tuple hq
    refine wpAny_pyIter_tuple (show s1.heap.IsTuple a its.toArray from p) ?_
    refine ⟨s1.heap.objs.size, [s1.heap.objs.size], _, _, H1, rfl, I1.kept (t' := s1.toks) fun b o e => Heap.get?_push_of_some _ e, turn_tuple a _, ⟨_, Heap.get?_push_size _ rfl, rfl, rfl⟩, fun b hb => ?_, q⟩
    have e : b = s1.heap.objs.size := by simpa using hb
    subst e
    exact I1.fpOk (Nat.le_refl _) (I1.hok.fresh (Nat.le_refl _))
end DlP

namespace Dl
open PySem PySem.Spec PyProof.Rows L2 DlP
/-! ### sources -/
section
variable {K : Fg} {sa : Option Addr} {m : Bool} {H0 G0 G H H' : Hp} {δ : List Cell} {E : Hp → Prop} {σ : L2.St}
theorem AtG.notSp (A : AtG K m sa H0 G0 δ E σ G H) {a : Addr} {u : HO} (h : G a = some u) : sa ≠ some a := fun e => by
  rw [A.gd.notIn e] at h; cases h
theorem AtG.exL (A : AtG K m sa H0 G0 δ E σ G H) {a : Addr} {xs : List V} (h : G a = some (.lst xs)) (e : ExB sa H H') : H' a = some (.lst xs) := e a _ (A.notSp h) (A.gd.gh _ _ h)
theorem AtG.exT (A : AtG K m sa H0 G0 δ E σ G H) {a : Addr} {xs : List V} (h : SqT K G a xs) (e : ExB sa H H') : SqT K H' a xs := by
  rcases h with (h | ⟨o, h⟩) | h
  · exact .inl (.inl (e a _ (A.notSp h) (A.gd.gh _ _ h)))
  · exact .inl (.inr ⟨o, e a _ (A.notSp h) (A.gd.gh _ _ h)⟩)
  · exact .inr h
theorem itd_list {a : Addr} {xs : List V} {ds : List D} (r : RpA K G xs ds) : Itd K (Itl K a) (fun H' => H' a = some (.lst xs)) G ds where
  go := fun i H hi st => ⟨xs, xs[i]'(by rw [r.length]; exact hi), .inl (.inl st), by simp [r.length, hi]⟩
  stop := fun H st => ⟨xs, .inl (.inl st), by rw [r.length]; exact Nat.le_refl _⟩
  yld := fun i H x H' hi st y => by
    obtain ⟨d, hd, rd⟩ := r.getV (y.2 xs (.inl (.inl st)))
    exact ⟨d, hd, .inl ⟨y.1, rd⟩⟩
theorem itd_tup {a : Addr} {xs : List V} {ds : List D} (r : RpA K G xs ds) : Itd K (Itt K a) (fun H' => SqT K H' a xs) G ds where
  go := fun i H hi st => ⟨xs, xs[i]'(by rw [r.length]; exact hi), st, by simp [r.length, hi]⟩
  stop := fun H st => ⟨xs, st, by rw [r.length]; exact Nat.le_refl _⟩
  yld := fun i H x H' hi st y => by
    obtain ⟨d, hd, rd⟩ := r.getV (y.2 xs st)
    exact ⟨d, hd, .inl ⟨y.1, rd⟩⟩
/-- the whole numbers from lo on -/
def rngD (lo : Int) (n : Nat) : List D := (List.range n).map fun i => .int (lo + (i : Nat))
theorem rngD_len (lo : Int) (n : Nat) : (rngD lo n).length = n := by unfold rngD; rw [List.length_map, List.length_range]
theorem rngD_get {lo : Int} {n i : Nat} (h : i < n) : (rngD lo n)[i]? = some (.int (lo + (i : Nat))) := by
  unfold rngD; rw [List.getElem?_map, List.getElem?_range h]; rfl
theorem rngD_inv {lo : Int} {n i : Nat} {d : D} (h : (rngD lo n)[i]? = some d) : i < n ∧ d = .int (lo + (i : Nat)) := by
  have hi : i < n := by have := (List.getElem?_eq_some_iff.mp h).1; rwa [rngD_len] at this
  rw [rngD_get hi] at h
  exact ⟨hi, (Option.some.inj h).symm⟩
theorem itd_rng {lo : Int} {n : Nat} : Itd K (Itr lo n) (fun _ => True) G (rngD lo n) where
  go := fun i H hi st => by rw [rngD_len] at hi; exact hi
  stop := fun H st => by rw [rngD_len]; exact Nat.le_refl _
  yld := fun i H x H' hi st y => by
    rw [rngD_len] at hi
    exact ⟨_, rngD_get hi, .inl ⟨y.1, by rw [y.2]; exact .int _⟩⟩
end
/-- data that is walked: a list or a tuple of ds -/
def SeqD (d : D) (ds : List D) : Prop := d = .list ds ∨ d = .tuple ds
section
variable {K : Fg} {sa : Option Addr} {st : Bool} {δ : List Cell} {tl : TE} {ta : TA} {P : List D → Prop}
theorem wj_seq (h : WE K sa tl δ fun d => ∃ ds, SeqD d ds ∧ P ds) : WJ K sa st (iSeq K tl) δ P := fun m H0 G0 E up σ H A R q =>
  h m H0 G0 E up σ H A _ fun v d H1 ⟨ds, e, p⟩ ⟨G, a⟩ => by
    rcases e with e | e
    · subst e
      obtain ⟨b, xs, ev, hb, rx⟩ := a.ex.2.lst_inv
      exact ⟨b, ev, .inl ⟨⟨xs, .inl (.inl (a.gd.gh _ _ hb))⟩, q _ ds H1 G _ p (a.same a.ex.1) (itd_list rx) (fun H' e => a.exL hb e) fun _ H' e => e _ _ hb⟩⟩
    · subst e
      obtain ⟨b, xs, ev, hb, rx⟩ := a.ex.2.tup_inv
      exact ⟨b, ev, .inr ⟨⟨xs, sqT_mono a.gd.gh hb⟩, q _ ds H1 G _ p (a.same a.ex.1) (itd_tup rx) (fun H' e => a.exT hb e) fun _ H' e => sqT_mono e hb⟩⟩
theorem wj_own {i : Nat} {ds : List D} (hi : δ[i]? = some (.own ds)) (p : P ds) : WJ K sa false (iSeq K (tVar i)) δ P := fun m H0 G0 E up σ H ⟨G, a⟩ R q => by
  obtain ⟨o, e, b, xs, ev, hb, gp, ne, rx, hm⟩ := a.slot hi
  subst ev
  exact ⟨_, e, b, rfl, .inl ⟨⟨xs, .inl (.inl hb)⟩, q _ ds H G _ p a (itd_list rx) (fun H' e => e b _ ne hb) fun z => nomatch z⟩⟩
theorem wj_rng1 (h : WA K sa ta δ fun ds => ∃ n : Int, ds = [.int n] ∧ (-(2 ^ 62) ≤ n ∧ n < 2 ^ 62) ∧ P (rngD 0 n.toNat)) : WJ K sa st (iRng1 ta) δ P := fun m H0 G0 E up σ H A R q =>
  h m H0 G0 E up σ H A _ fun vs ds H1 ⟨n, e, hn, p⟩ ⟨G, a⟩ => by
    subst e
    obtain ⟨v, ev, rv⟩ := a.ex.2.one
    exact ⟨n, by rw [ev, rv.int_inv], hn.1, hn.2, q _ _ H1 G _ p (a.same a.ex.1) itd_rng (fun _ _ => trivial) fun _ _ _ => trivial⟩
theorem wj_rng2 (h : WA K sa ta δ fun ds => ∃ i n : Int, ds = [.int i, .int n] ∧ (-(2 ^ 62) ≤ i ∧ i < 2 ^ 62 ∧ -(2 ^ 62) ≤ n ∧ n < 2 ^ 62) ∧ P (rngD i (n - i).toNat)) : WJ K sa st (iRng2 ta) δ P := fun m H0 G0 E up σ H A R q =>
  h m H0 G0 E up σ H A _ fun vs ds H1 ⟨i, n, e, hn, p⟩ ⟨G, a⟩ => by
    subst e
    obtain ⟨v, w, ev, rv, rw'⟩ := a.ex.2.two
    exact ⟨i, n, by rw [ev, rv.int_inv, rw'.int_inv], hn, q _ _ H1 G _ p (a.same a.ex.1) itd_rng (fun _ _ => trivial) fun _ _ _ => trivial⟩
/-- what is walked by pairs -/
theorem seqD_sq {G : Hp} {v : V} {d : D} {ds : List D} (r : Rp K G v d) (e : SeqD d ds) : ∃ k a xs, v = .ref a ∧ SqK K G k a xs ∧ RpA K G xs ds ∧ (G a = some (.lst xs) ∧ k = true ∨ SqT K G a xs ∧ k = false) := by
  rcases e with e | e
  · subst e
    obtain ⟨b, xs, ev, hb, rx⟩ := r.lst_inv
    exact ⟨true, b, xs, ev, .inl (.inl hb), rx, .inl ⟨hb, rfl⟩⟩
  · subst e
    obtain ⟨b, xs, ev, hb, rx⟩ := r.tup_inv
    exact ⟨false, b, xs, ev, hb, rx, .inr ⟨hb, rfl⟩⟩
theorem sqK_same {G H : Hp} {k : Bool} {a : Addr} {xs : List V} (e : Same G H) (h : SqK K G k a xs) : SqK K H k a xs := by
  cases k with
  | true => exact sqL_mono e h
  | false => exact sqT_mono e h
theorem AtG.exK {m : Bool} {H0 G0 G H H' : Hp} {E : Hp → Prop} {σ : L2.St} (A : AtG K m sa H0 G0 δ E σ G H) {k : Bool} {a : Addr} {xs : List V} (h : G a = some (.lst xs) ∧ k = true ∨ SqT K G a xs ∧ k = false) (e : ExB sa H H') : SqK K H' k a xs := by
  rcases h with ⟨h, rfl⟩ | ⟨h, rfl⟩
  · exact .inl (.inl (A.exL h e))
  · exact A.exT h e
def zipD (ds es : List D) : List D := (ds.zip es).map fun p => .tuple [p.1, p.2]
theorem zipD_len (ds es : List D) : (zipD ds es).length = min ds.length es.length := by unfold zipD; rw [List.length_map, List.length_zip]
theorem zipD_get {ds es : List D} {i : Nat} {d e : D} (h1 : ds[i]? = some d) (h2 : es[i]? = some e) : (zipD ds es)[i]? = some (.tuple [d, e]) := by
  unfold zipD
  have hz : (ds.zip es)[i]? = some (d, e) := List.getElem?_zip_eq_some.mpr ⟨h1, h2⟩
  rw [List.getElem?_map, hz]
  rfl
theorem zipD_inv {ds es : List D} {i : Nat} {x : D} (h : (zipD ds es)[i]? = some x) : ∃ d e, ds[i]? = some d ∧ es[i]? = some e ∧ x = .tuple [d, e] := by
  have hi : i < (zipD ds es).length := (List.getElem?_eq_some_iff.mp h).1
  rw [zipD_len] at hi
  have h1 : i < ds.length := by omega
  have h2 : i < es.length := by omega
  rw [zipD_get (List.getElem?_eq_getElem h1) (List.getElem?_eq_getElem h2)] at h
  exact ⟨_, _, List.getElem?_eq_getElem h1, List.getElem?_eq_getElem h2, (Option.some.inj h).symm⟩
theorem wj_zip (h : WA K sa ta δ fun xs => ∃ d e ds es, xs = [d, e] ∧ SeqD d ds ∧ SeqD e es ∧ P (zipD ds es)) : WJ K sa st (iZipU K ta) δ P := fun m H0 G0 E up σ H A R q =>
  h m H0 G0 E up σ H A _ fun vs xs H1 ⟨d, e, ds, es, ex, sd, se, p⟩ ⟨G, a⟩ => by
    subst ex
    obtain ⟨v, w, ev, rv, rw'⟩ := a.ex.2.two
    obtain ⟨k1, b1, xs1, e1, q1, r1, c1⟩ := seqD_sq rv sd
    obtain ⟨k2, b2, xs2, e2, q2, r2, c2⟩ := seqD_sq rw' se
    refine ⟨k1, k2, b1, b2, xs1, xs2, by rw [ev, e1, e2], sqK_same a.gd.gh q1, sqK_same a.gd.gh q2, q _ _ H1 G (fun H' => SqK K H' k1 b1 xs1 ∧ SqK K H' k2 b2 xs2) p (a.same a.ex.1) ⟨fun i H hi st => ?_, fun H st => ⟨xs1, xs2, st.1, st.2, by rw [zipD_len, r1.length, r2.length]⟩, fun i H x H' hi st y => ?_⟩
      (fun H' e => ⟨a.exK c1 e, a.exK c2 e⟩) fun _ H' e => ⟨sqK_same e q1, sqK_same e q2⟩⟩
    · rw [zipD_len] at hi
      have h1 : i < xs1.length := by rw [r1.length]; omega
      have h2 : i < xs2.length := by rw [r2.length]; omega
      exact ⟨xs1, xs2, xs1[i], xs2[i], st.1, st.2, by simp [h1], by simp [h2]⟩
    · obtain ⟨T, x1, x2, ex, hT, eH, f1, f2⟩ := y
      obtain ⟨d1, hd1, rd1⟩ := r1.getV (f1 xs1 st.1)
      obtain ⟨d2, hd2, rd2⟩ := r2.getV (f2 xs2 st.2)
      exact ⟨_, zipD_get hd1 hd2, .inr ⟨T, [x1, x2], [d1, d2], ex, hT, eH, .cons rd1 (.cons rd2 .nil), rfl⟩⟩
def enumD (ds : List D) : List D := zipD (rngD 0 ds.length) ds
theorem enumD_len (ds : List D) : (enumD ds).length = ds.length := by unfold enumD; rw [zipD_len, rngD_len, Nat.min_self]
theorem enumD_get {ds : List D} {i : Nat} {d : D} (h : ds[i]? = some d) : (enumD ds)[i]? = some (.tuple [.int (i : Nat), d]) := by
  have := zipD_get (rngD_get (lo := 0) (List.getElem?_eq_some_iff.mp h).1) h
  rw [Int.zero_add] at this
  exact this
theorem enumD_inv {ds : List D} {i : Nat} {x : D} (h : (enumD ds)[i]? = some x) : ∃ d, ds[i]? = some d ∧ x = .tuple [.int (i : Nat), d] := by
  have hi : i < (enumD ds).length := (List.getElem?_eq_some_iff.mp h).1
  rw [enumD_len] at hi
  rw [enumD_get (List.getElem?_eq_getElem hi)] at h
  exact ⟨_, List.getElem?_eq_getElem hi, (Option.some.inj h).symm⟩
theorem wj_enum (h : WA K sa ta δ fun xs => ∃ d ds, xs = [d] ∧ SeqD d ds ∧ P (enumD ds)) : WJ K sa st (iEnumU K ta) δ P := fun m H0 G0 E up σ H A R q =>
  h m H0 G0 E up σ H A _ fun vs xs H1 ⟨d, ds, ex, sd, p⟩ ⟨G, a⟩ => by
    subst ex
    obtain ⟨v, ev, rv⟩ := a.ex.2.one
    obtain ⟨k1, b1, xs1, e1, q1, r1, c1⟩ := seqD_sq rv sd
    refine ⟨k1, b1, xs1, by rw [ev, e1], sqK_same a.gd.gh q1, q _ _ H1 G (fun H' => SqK K H' k1 b1 xs1) p (a.same a.ex.1) ⟨fun i H hi st => ?_, fun H st => ⟨xs1, st, by rw [enumD_len, r1.length]⟩, fun i H x H' hi st y => ?_⟩
      (fun H' e => a.exK c1 e) fun _ H' e => sqK_same e q1⟩
    · rw [enumD_len] at hi
      have h1 : i < xs1.length := by rw [r1.length]; omega
      exact ⟨xs1, xs1[i], st, by simp [h1]⟩
    · obtain ⟨T, x1, ex, hT, eH, f1⟩ := y
      obtain ⟨d1, hd1, rd1⟩ := r1.getV (f1 xs1 st)
      exact ⟨_, enumD_get hd1, .inr ⟨T, _, [.int (i : Nat), d1], ex, hT, eH, .cons (.int _) (.cons rd1 .nil), rfl⟩⟩
end
/-! ### the script -/
section
variable {K : Fg} {sa : Option Addr} {δ : List Cell} {te : TE} {P : D → Prop}
theorem cw_lenScr {ns : List Int} (p : P (.int ns.length)) : CW K sa (fun xs H Q => ∃ x n, xs = [x] ∧ LenV K x H n ∧ Q (.int n) H) [scrD ns] P :=
  cw_at (z := .int ns.length) (fun _ => .int _) p fun G H vs Q s r q => by
    obtain ⟨v, e, rv⟩ := r.one
    obtain ⟨a, e2, h⟩ := rv.scr_inv
    exact ⟨v, ns.length, e, by rw [e2]; exact .inl ⟨_, sqL_mono s h, by rw [List.length_map]⟩, q⟩
theorem ow_ixScr {ns : List Int} {i x : Int} (h : atI ns i = some x) (p : P (.int x)) : OW K sa (rIx K) (scrD ns) (.int i) P :=
  ow_at (z := .int x) (fun _ => .int _) p fun G H v w Q s r1 r2 q => by
    obtain ⟨a, e2, hs⟩ := r1.scr_inv
    refine .inl ⟨a, _, i, .int x, e2, r2.int_inv, sqL_mono s hs, ?_, q⟩
    unfold atI at h ⊢
    rw [List.length_map]
    cases e : ixN ns.length i with
    | none => rw [e] at h; cases h
    | some j =>
      rw [e] at h
      show (ns.map V.int)[j]? = _
      rw [List.getElem?_map]
      have h : ns[j]? = some x := h
      rw [h]; rfl
theorem wf_slScr {tl th : TO} {ns : List Int} {P : List D → Prop} (h : WE K sa te δ fun d => d = scrD ns ∧ WO K sa tl δ fun l => WO K sa th δ fun u => P ((ns.map PyData.int).drop (HT.sIx ns.length 0 l) |>.take (HT.sIx ns.length ns.length u - HT.sIx ns.length 0 l))) : WF K sa (tSl (rSlL K) te tl th) δ P := fun m H0 G0 E up σ H A Q q =>
  h m H0 G0 E up σ H A _ fun v d H1 ⟨e, h1⟩ A1 => h1 m H0 G0 _ (up_and up up_rp) σ H1 A1 _ fun l H2 h2 A2 => h2 m H0 G0 _ (up_and up up_rp) σ H2 A2 _ fun u H3 p ⟨G, a⟩ => by
    subst e
    obtain ⟨b, e1, hs⟩ := a.ex.2.scr_inv
    refine ⟨b, _, e1, sqL_mono a.gd.gh hs, fun x hx => wf_new up ⟨G, a.same ⟨a.ex.1, ?_⟩⟩ p q hx⟩
    unfold cutV
    rw [List.length_map]
    exact ((RpA.of_ints ns).drop _).take _
end
/-! ### defs, called where nothing is being shown (no list's or tuple's repr runs) -/
structure FnG (P : Program) (w : World) (K : Fg) (mg : Str → Option Value) (base : Heap) (CX : CXT) (k : Nat) (f : Addr) (fd : FuncData) (ps : List Str) (sp : Sp) : Prop where
  len : ∀ vs H Q E, sp vs H Q E → vs.length = ps.length
  run : ∀ (A : Around) (outer : List Env) (s : Shared) (H : Hp) (args : Args) (us : List Value) (vs : List V) (Q : VK) (E : XK), Room k A → A.guards = some [] → Env0 P w K mg base A outer s H → BindsTo s fd args (ps.zip us) → Vals vs us → sp vs H Q E →
    codeAny (model P w) A (.call (.ref f) args) (CR CX outer P w H s Q E) s
section
variable {P : Program} {w : World} {K : Fg} {mg : Str → Option Value} {base : Heap} {CX : CXT}
theorem fun_okG {x qual : Str} {st : Stmt} {f : Addr} {fd : FuncData} {N ps : List Str} {k : Nat} {sp : Sp} (F : Fun K x qual st f fd) (S : FnScope N ps (defScope st)) (len : ∀ vs H Q E, sp vs H Q E → vs.length = ps.length)
    (hbody : ∀ (cdv : Value) (A : Around) (outer : List Env) (s : Shared) (H : Hp) (vs : List V) (Q : VK) (E : XK), Room k (A.deeper (envOfC qual (defScope st) s.heap.objs.size f cdv)) → (A.deeper (envOfC qual (defScope st) s.heap.objs.size f cdv)).guards = some [] → sp vs H Q E →
      ∃ t, PSs (cxOf CX P w K mg base N qual (defScope st) f cdv A outer s H E) (defBody st) t ∧ t { nx := fun _ H' => Q .non H', rt := Q } (L2.start N vs) H) : FnG P w K mg base CX (k + 1) f fd ps sp := by
  obtain ⟨oc, od, kV, doc, pm, an, cdv, ct, osl, rfl, lk, hcd⟩ := F.ex
  refine ⟨len, fun A outer s H args us vs Q E hr hg e0 hb r hsp => ?_⟩
  exact LamX.run_ofS lk hcd S hr e0 hb r (len _ _ _ _ hsp) fun hr' => hbody cdv A outer s H vs Q E hr' hg hsp
end
section
variable {X : Cx} {CX : CXT} {k : Nat} {f : Addr} {fd : FuncData} {ps ks : List Str} {sp : Sp} {dvs : List V} {ds : List Value} {E : XK} {x : Str} {p pos : Pos} {e : Expr} {es : List Expr} {ta t tk : TA} {kws : List Keyword} {g : List Value → List Value → List Value} {gV : List V → List V → List V}
theorem ran {pins : List (Addr × Obj)} {σ : L2.St} {H : Hp} {s : Shared} {Q : VK} (hx : Passes CX X E) (I : Inv X pins σ H s) {args : Args} (h : codeAny (model X.prog X.w) X.A (.call (.ref f) args) (CR CX X.stack X.prog X.w H s Q E) s) :
    codeAny (model X.prog X.w) X.A (.call (.ref f) args) (fun r s' => match r with | .ok (.ret u) => EP X pins σ Q u s' | .ok _ => False | .error e => X.xe e s') s :=
  codeAny_mono h fun r s' hq => by
    cases r with
    | error e => exact hx pins σ H s e s' I hq
    | ok fl =>
      cases fl with
      | ret u => exact I.after hq
      | next => exact hq
      | brk => exact hq
      | cont => exact hq
theorem run_fnG {pins : List (Addr × Obj)} {σ : L2.St} {H : Hp} {s : Shared} {Q : VK} {us : List Value} {vs : List V} (F : FnG X.prog X.w X.K X.mg X.base CX k f fd ps sp) (hr : Room k X.A) (hgd : X.A.guards = some []) (hb : Binds X.K fd ps ds) (hd : Vals dvs ds) (hx : Passes CX X E)
    (I : Inv X pins σ H s) (r : Vals vs us) (h : sp (vs ++ dvs) H Q E) : wpAny (model X.prog X.w) X.A (call (.ref f) us) (EP X pins σ Q) X.xe s := by
  have r2 : Vals (vs ++ dvs) (us ++ ds) := r.append hd
  have hl : (us ++ ds).length = ps.length := by rw [← r2.length]; exact F.len _ _ _ _ h
  refine wpAny_call (codeAny_mono (ran hx I (F.run X.A X.stack s H ⟨us, []⟩ (us ++ ds) (vs ++ dvs) Q E hr hgd I.env0 (hb s us I.kIn hl) r2 h)) fun r s' hq => ?_)
  cases r with
  | error e => exact hq
  | ok fl =>
    cases fl with
    | ret u => exact hq
    | next => exact False.elim hq
    | brk => exact False.elim hq
    | cont => exact False.elim hq
theorem pe_callG (F : FnG X.prog X.w X.K X.mg X.base CX k f fd ps sp) (hr : Room k X.A) (hgd : X.A.guards = some []) (hg : Gl X x) (hm : X.mg x = some (.ref f)) (hk : PySem.W.keepIn X.K (.ref f) = true) (hb : Binds X.K fd ps ds) (hd : Vals dvs ds) (hx : Passes CX X E)
    (ha : PA X (e :: es) t) (hdb : (x == ("__debug__" : Str)) = false := by decide) (he : starEach (e :: es) X.env = (false, eval e X.env) :: starEach es X.env := by rfl) (hpl : (backTo pos (starEach es X.env)).any (·.1) = false := by rfl) :
    PE X (.Call (.Name x p) (e :: es) [] pos) (tCall sp dvs E t) := by
  refine ⟨fun pins s σ H Q I h => ?_⟩
  refine wpAny_Call_Name_kw (ld_glob I hg hm ?_ hdb)
  refine PySem.W.callWith_K (h₀ := X.base) I.ok.mod.kin hk (thn (ha.run pos pins s σ H _ I h) fun us s1 ⟨vs, H1, I1, r, q⟩ => ⟨I1.kIn, ?_⟩) he hpl
  exact run_fnG F hr hgd hb hd hx I1 r q
theorem pe_callG0 (F : FnG X.prog X.w X.K X.mg X.base CX k f fd ps sp) (hr : Room k X.A) (hgd : X.A.guards = some []) (hg : Gl X x) (hm : X.mg x = some (.ref f)) (hk : PySem.W.keepIn X.K (.ref f) = true) (hb : Binds X.K fd ps ds) (hd : Vals dvs ds) (hx : Passes CX X E)
    (hdb : (x == ("__debug__" : Str)) = false := by decide) : PE X (.Call (.Name x p) [] [] pos) (tCall sp dvs E tNil) := by
  refine ⟨fun pins s σ H Q I h => ?_⟩
  refine wpAny_Call_Name_kw (ld_glob I hg hm ?_ hdb)
  exact PySem.W.callWith_K0 I.kIn hk (run_fnG (us := []) F hr hgd hb hd hx I .nil h)
theorem run_fnGk {pins : List (Addr × Obj)} {σ : L2.St} {H : Hp} {s : Shared} {Q : VK} {us ws : List Value} {vs zs : List V} (F : FnG X.prog X.w X.K X.mg X.base CX k f fd ps sp) (hr : Room k X.A) (hgd : X.A.guards = some []) (hb : KBinds X.K fd ps ks g gV) (hx : Passes CX X E)
    (I : Inv X pins σ H s) (r : Vals vs us) (rz : Vals zs ws) (h : sp (gV vs zs) H Q E) : wpAny (model X.prog X.w) X.A (call (.ref f) us (ks.zip ws)) (EP X pins σ Q) X.xe s := by
  have r2 := hb.rel r rz
  have hl : (g us ws).length = ps.length := by rw [← r2.length]; exact F.len _ _ _ _ h
  refine wpAny_call (codeAny_mono (ran hx I (F.run X.A X.stack s H ⟨us, ks.zip ws⟩ (g us ws) (gV vs zs) Q E hr hgd I.env0 (hb.to s us ws I.kIn hl) r2 h)) fun r s' hq => ?_)
  cases r with
  | error e => exact hq
  | ok fl =>
    cases fl with
    | ret u => exact hq
    | next => exact False.elim hq
    | brk => exact False.elim hq
    | cont => exact False.elim hq
/-- f(k = v, ..) -/
theorem pe_callGk0 (F : FnG X.prog X.w X.K X.mg X.base CX k f fd ps sp) (hr : Room k X.A) (hgd : X.A.guards = some []) (hg : Gl X x) (hm : X.mg x = some (.ref f)) (hk : PySem.W.keepIn X.K (.ref f) = true) (hb : KBinds X.K fd ps ks g gV) (hx : Passes CX X E) (hkw : PK X kws tk)
    (hall : (backToKw pos (keywordEach kws X.env)).all (·.1.isSome) = true := by rfl) (hks : (backToKw pos (keywordEach kws X.env)).filterMap (·.1) = ks := by rfl) (hdb : (x == ("__debug__" : Str)) = false := by decide)
    (hpl : ((backTo pos (starEach [] X.env)).any (·.1) || (backToKw pos (keywordEach kws X.env)).any (·.1.isNone)) = false := by rfl) :
    PE X (.Call (.Name x p) [] kws pos) (tCallK sp gV E tNil tk) := by
  refine ⟨fun pins s σ H Q I h => ?_⟩
  refine wpAny_Call_Name_kw (ld_glob I hg hm ?_ hdb)
  refine PySem.W.callWith_KW0 (h₀ := X.base) I.ok.mod.kin hk hall ?_ hpl
  refine thn (hkw.run pos pins s σ H _ I h) fun ws s2 ⟨zs, H2, I2, rz, q2⟩ => ⟨I2.kIn, ?_⟩
  rw [hks]
  exact run_fnGk (us := []) (vs := []) F hr hgd hb hx I2 .nil rz q2
/-- f(e, .., k = v, ..) -/
theorem pe_callGk (F : FnG X.prog X.w X.K X.mg X.base CX k f fd ps sp) (hr : Room k X.A) (hgd : X.A.guards = some []) (hg : Gl X x) (hm : X.mg x = some (.ref f)) (hk : PySem.W.keepIn X.K (.ref f) = true) (hb : KBinds X.K fd ps ks g gV) (hx : Passes CX X E)
    (ha : PA X (e :: es) t) (hkw : PK X kws tk) (hall : (backToKw pos (keywordEach kws X.env)).all (·.1.isSome) = true := by rfl) (hks : (backToKw pos (keywordEach kws X.env)).filterMap (·.1) = ks := by rfl)
    (hdb : (x == ("__debug__" : Str)) = false := by decide) (he : starEach (e :: es) X.env = (false, eval e X.env) :: starEach es X.env := by rfl)
    (hpl : ((backTo pos (starEach (e :: es) X.env)).any (·.1) || (backToKw pos (keywordEach kws X.env)).any (·.1.isNone)) = false := by rfl) :
    PE X (.Call (.Name x p) (e :: es) kws pos) (tCallK sp gV E t tk) := by
  refine ⟨fun pins s σ H Q I h => ?_⟩
  refine wpAny_Call_Name_kw (ld_glob I hg hm ?_ hdb)
  refine PySem.W.callWith_KW (h₀ := X.base) I.ok.mod.kin hk hall (thn (ha.run pos pins s σ H _ I h) fun us s1 ⟨vs, H1, I1, r, q⟩ => ?_) hpl he
  refine thn (hkw.run pos pins s1 σ H1 _ I1 q) fun ws s2 ⟨zs, H2, I2, rz, q2⟩ => ⟨I2.kIn, ?_⟩
  rw [hks]
  exact run_fnGk F hr hgd hb hx I2 r rz q2
end
/-! ### what defs promise -/
/-- a def that changes nothing: from data to data -/
def spF (K : Fg) (pre : List D → Prop) (post : List D → D → Prop) : Sp := fun vs H Q _ => ∃ G ds, Same G H ∧ RpA K G vs ds ∧ pre ds ∧
  ∀ H' G' v d, Same H H' → Same G G' → Same G' H' → (∀ b, H b ≠ none → G b = none → G' b = none) → Rp K G' v d → post ds d → Q v H'
/-- a def that draws from the spring -/
def spS (K : Fg) (pre : List D → Prop) (post : List D → D → Prop) : Sp := fun vs H Q _ => ∃ a ws G ds, vs = .ref a :: ws ∧ Same G H ∧ SprV H a ∧ G a = none ∧ RpA K G ws ds ∧ pre ds ∧
  ∀ H' G' v d, ExB (some a) H H' → SprV H' a → Same G G' → Same G' H' → (∀ b, H b ≠ none → G b = none → G' b = none) → Rp K G' v d → post ds d → Q v H'
section
variable {K : Fg} {sa : Option Addr} {δ : List Cell} {ta tk : TA} {P : D → Prop} {pre : List D → Prop} {post : List D → D → Prop}
theorem we_call {E0 : XK} (h : WA K sa ta δ fun ds => pre ds ∧ ∀ d, post ds d → P d) : WE K sa (tCall (spF K pre post) [] E0 ta) δ P := fun m H0 G0 E up σ H A Q q =>
  h m H0 G0 E up σ H A _ fun vs ds H1 ⟨p, k⟩ ⟨G, a⟩ => by
    show spF K pre post (vs ++ []) H1 Q E0
    rw [List.append_nil]
    exact ⟨G, ds, a.gd.gh, a.ex.2, p, fun H' G' v d s1 s2 s3 fr r hp => q v d H' (k d hp) ⟨G', a.grow s2 s3 fr (.of s1) (fun z ez => let ⟨c, s, n, e⟩ := (a.gd.sp z ez).1; ⟨c, s, n, s1 _ _ e⟩) ⟨up _ _ s2 a.ex.1, r⟩⟩⟩
theorem we_callK {E0 : XK} {gV : List V → List V → List V} {gD : List D → List D → List D} (hg : ∀ (G : Hp) (vs zs : List V) (ds es : List D), RpA K G vs ds → RpA K G zs es → RpA K G (gV vs zs) (gD ds es))
    (h : WA K sa ta δ fun ds => WA K sa tk δ fun es => pre (gD ds es) ∧ ∀ d, post (gD ds es) d → P d) : WE K sa (tCallK (spF K pre post) gV E0 ta tk) δ P := fun m H0 G0 E up σ H A Q q =>
  h m H0 G0 E up σ H A _ fun vs ds H1 h1 A1 => h1 m H0 G0 _ (up_and up up_rpA) σ H1 A1 _ fun zs es H2 ⟨p, k⟩ ⟨G, a⟩ =>
    ⟨G, gD ds es, a.gd.gh, hg _ _ _ _ _ a.ex.1.2 a.ex.2, p, fun H' G' v d s1 s2 s3 fr r hp => q v d H' (k d hp) ⟨G', a.grow s2 s3 fr (.of s1) (fun z ez => let ⟨c, s, n, e⟩ := (a.gd.sp z ez).1; ⟨c, s, n, s1 _ _ e⟩) ⟨up _ _ s2 a.ex.1.1, r⟩⟩⟩
theorem we_callS {E0 : XK} {a : Addr} {i : Nat} (hi : δ[i]? = some .spr) (h : WA K (some a) ta δ fun ds => pre ds ∧ ∀ d, post ds d → P d) : WE K (some a) (tCall (spS K pre post) [] E0 (tCons (tVar i) ta)) δ P := fun m H0 G0 E up σ H ⟨G1, a1⟩ Q q => by
  obtain ⟨o, e, b, eb, eo⟩ := a1.slot hi
  cases eb
  subst eo
  refine ⟨_, e, h m H0 G0 E up σ H ⟨G1, a1⟩ _ fun vs ds H1 ⟨p, k⟩ ⟨G, A⟩ => ?_⟩
  show spS K pre post ((V.ref a :: vs) ++ []) H1 Q E0
  rw [List.append_nil]
  exact ⟨a, vs, G, ds, rfl, A.gd.gh, (A.gd.sp a rfl).1, A.gd.notIn rfl, A.ex.2, p, fun H' G' v d s1 sp s2 s3 fr r hp => q v d H' (k d hp) ⟨G', A.grow s2 s3 fr s1 (fun z ez => by cases ez; exact sp) ⟨up _ _ s2 A.ex.1, r⟩⟩⟩
end
section
variable {P : Program} {w : World} {K : Fg} {mg : Str → Option Value} {base : Heap}
theorem rpA_cells {G H : Hp} {m : Bool} {sa : Option Addr} {vs : List V} {ds : List D} (r : RpA K G vs ds) (n : Nat) : ∀ (i : Nat) (c : Cell) (o : Option V), (ds.map Cell.dat ++ List.replicate n Cell.no)[i]? = some c → (vs.map some ++ List.replicate n none)[i]? = some o → CellOk K m sa H G H o c := fun i c o h1 h2 => by
  by_cases hi : i < ds.length
  · rw [List.getElem?_append_left (by simpa using hi), List.getElem?_map] at h1
    rw [List.getElem?_append_left (by rw [List.length_map, r.length]; exact hi), List.getElem?_map] at h2
    obtain ⟨d, hd, e1⟩ := Option.map_eq_some_iff.mp h1
    obtain ⟨v, hv, e2⟩ := Option.map_eq_some_iff.mp h2
    subst e1 e2
    obtain ⟨v', hv', rv⟩ := r.get hd
    rw [hv] at hv'; cases hv'
    exact ⟨v, rfl, rv⟩
  · rw [List.getElem?_append_right (by simpa using hi), List.getElem?_replicate] at h1
    split at h1
    · cases h1; trivial
    · cases h1
theorem no_own {ds : List D} {n i : Nat} {es : List D} (h : (ds.map Cell.dat ++ List.replicate n Cell.no)[i]? = some (.own es)) : False := by
  by_cases hi : i < ds.length
  · rw [List.getElem?_append_left (by simpa using hi), List.getElem?_map] at h
    obtain ⟨d, _, e⟩ := Option.map_eq_some_iff.mp h
    cases e
  · rw [List.getElem?_append_right (by simpa using hi), List.getElem?_replicate] at h
    split at h <;> cases h
/-- THE RULE for a def that changes nothing -/
theorem ok_fn {x qual : Str} {st : Stmt} {f : Addr} {fd : FuncData} {N ps : List Str} {k : Nat} {pre : List D → Prop} {post : List D → D → Prop} (F : Fun K x qual st f fd) (S : FnScope N ps (defScope st)) (len : ∀ ds, pre ds → ds.length = ps.length)
    (hb : ∀ (cdv : Value) (A : Around) (outer : List Env) (s : Shared) (H : Hp) (E : XK), Room k (A.deeper (envOfC qual (defScope st) s.heap.objs.size f cdv)) → (A.deeper (envOfC qual (defScope st) s.heap.objs.size f cdv)).guards = some [] →
      ∃ t, PSs (cxOf CX0 P w K mg base N qual (defScope st) f cdv A outer s H E).nox (defBody st) t ∧ ∀ ds, pre ds → WS K none t ⟨fun _ => post ds .none, post ds, fun _ => False, fun _ => False⟩ (ds.map Cell.dat ++ List.replicate (N.length - ps.length) Cell.no)) :
    FnG P w K mg base CX0 (k + 1) f fd ps (spF K pre post) := by
  refine fun_okG F S (fun vs H Q E h => ?_) (fun cdv A outer s H vs Q E hr hgd h => ?_)
  · obtain ⟨G, ds, _, r, p, _⟩ := h
    rw [r.length]; exact len ds p
  · obtain ⟨G, ds, sm, r, p, q⟩ := h
    obtain ⟨t, ht, hw⟩ := hb cdv A outer s H E hr hgd
    have hl : vs.length = ps.length := by rw [r.length]; exact len ds p
    refine ⟨t, ht.nox, hw ds p H G (fun _ => True) up_true _ H _ ⟨G, ⟨Same.refl _, sm, fun _ _ h => h, .refl _ _, fun _ e => nomatch e⟩, ?_, ?_, fun i j ds' es _ h1 _ => (no_own h1).elim, trivial⟩ ⟨?_, fun _ _ _ h => h.elim, fun _ _ _ h => h.elim, ?_⟩⟩
    · unfold L2.start
      rw [List.length_append, List.length_append, List.length_map, List.length_map, List.length_replicate, List.length_replicate, r.length, hl.symm, r.length]
    · unfold L2.start
      rw [hl]
      exact rpA_cells r _
    · intro δ σ H' pn ⟨G', a⟩
      exact q H' G' .non .none (fun b o e => a.gd.hh b o (fun z => nomatch z) e) a.gd.g0 a.gd.gh a.gd.fr .non pn
    · intro δ v d σ H' pr ⟨G', a⟩
      exact q H' G' v d (fun b o e => a.gd.hh b o (fun z => nomatch z) e) a.gd.g0 a.gd.gh a.gd.fr a.ex.2 pr
/-- .. and for one that draws -/
theorem ok_fnS {x qual : Str} {st : Stmt} {f : Addr} {fd : FuncData} {N ps : List Str} {k : Nat} {pre : List D → Prop} {post : List D → D → Prop} (F : Fun K x qual st f fd) (S : FnScope N ps (defScope st)) (len : ∀ ds, pre ds → ds.length + 1 = ps.length)
    (hb : ∀ (cdv : Value) (A : Around) (outer : List Env) (s : Shared) (H : Hp) (E : XK), Room k (A.deeper (envOfC qual (defScope st) s.heap.objs.size f cdv)) → (A.deeper (envOfC qual (defScope st) s.heap.objs.size f cdv)).guards = some [] →
      ∃ t, PSs (cxOf CX0 P w K mg base N qual (defScope st) f cdv A outer s H E).nox (defBody st) t ∧ ∀ a ds, pre ds → WS K (some a) t ⟨fun _ => post ds .none, post ds, fun _ => False, fun _ => False⟩ (.spr :: (ds.map Cell.dat ++ List.replicate (N.length - ps.length) Cell.no))) :
    FnG P w K mg base CX0 (k + 1) f fd ps (spS K pre post) := by
  refine fun_okG F S (fun vs H Q E h => ?_) (fun cdv A outer s H vs Q E hr hgd h => ?_)
  · obtain ⟨a, ws, G, ds, rfl, _, _, _, r, p, _⟩ := h
    rw [List.length_cons, r.length]; exact len ds p
  · obtain ⟨a, ws, G, ds, rfl, sm, sp, ga, r, p, q⟩ := h
    obtain ⟨t, ht, hw⟩ := hb cdv A outer s H E hr hgd
    have hl : ws.length + 1 = ps.length := by rw [r.length]; exact len ds p
    have est : L2.start N (V.ref a :: ws) = some (V.ref a) :: (ws.map some ++ List.replicate (N.length - ps.length) none) := by
      unfold L2.start
      rw [List.length_cons, hl]; rfl
    rw [est]
    refine ⟨t, ht.nox, hw a ds p H G (fun _ => True) up_true _ H _ ⟨G, ⟨Same.refl _, sm, fun _ _ h => h, .refl _ _, fun b e => ?_⟩, ?_, ?_, ?_, trivial⟩ ⟨?_, fun _ _ _ h => h.elim, fun _ _ _ h => h.elim, ?_⟩⟩
    · cases e
      refine ⟨sp, ?_, ga⟩
      obtain ⟨c, s, n, e⟩ := sp
      rw [e]; simp
    · rw [List.length_cons, List.length_cons, List.length_append, List.length_append, List.length_map, List.length_map, List.length_replicate, List.length_replicate, r.length]
    · intro i c o h1 h2
      cases i with
      | zero => cases h1; cases h2; exact ⟨a, rfl, rfl⟩
      | succ i => exact rpA_cells r _ i c o h1 h2
    · intro i j ds' es hij h1 h2
      cases i with
      | zero => cases h1
      | succ i => exact (no_own h1).elim
    · intro δ σ H' pn ⟨G', a'⟩
      exact q H' G' .non .none a'.gd.hh (a'.gd.sp a rfl).1 a'.gd.g0 a'.gd.gh a'.gd.fr .non pn
    · intro δ v d σ H' pr ⟨G', a'⟩
      exact q H' G' v d a'.gd.hh (a'.gd.sp a rfl).1 a'.gd.g0 a'.gd.gh a'.gd.fr a'.ex.2 pr
end
/-! ### isinstance -/
def tyD : D → String
  | .none => "NoneType" | .bool _ => "bool" | .int _ => "int" | .str _ => "str" | .list _ => "list" | .tuple _ => "tuple" | .dict _ => "dict"
theorem Rp.tyX {K : Fg} {G H : Hp} {v : V} {d : D} (s : Same G H) (r : Rp K G v d) (hd : ∀ ks, d ≠ .dict ks ∨ True) : (∀ ns, d ≠ scrD ns) → TyX K H v (.type (tyD d)) := fun hn => by
  cases r with
  | non => exact .base .non
  | bl b => exact .base (.bl b)
  | int i => exact .base (.int i)
  | str x => exact .base (.str x)
  | lst h r => exact .base (.lst (s _ _ h))
  | tup h r =>
    rcases h with (h | ⟨o, h⟩) | ⟨o, its, n, hk, hc, _⟩
    · exact .base (.tup (s _ _ h))
    · exact .fTuple (s _ _ h)
    · exact .kTuple hk hc
  | dic h r => exact .base (.dK (s _ _ h))
  | scr h => exact absurd rfl (hn _)
section
variable {K : Fg} {sa : Option Addr} {δ : List Cell} {te : TE} {P : D → Prop}
theorem we_isi {T : String} (h : WE K sa te δ fun d => (∀ ns, d ≠ scrD ns) ∧ ∃ b, PySem.W.kitOne K (.type (tyD d)) (.type T) = some b ∧ P (.bool b)) : WE K sa (tCB (rIsi K) (tCons te (tCons (tC (.ty T)) tNil))) δ P := fun m H0 G0 E up σ H A Q q =>
  h m H0 G0 E up σ H A _ fun v d H1 ⟨hn, b, e, p⟩ ⟨G, a⟩ => ⟨v, .ty T, _, _, b, rfl, .ty T, a.ex.2.tyX a.gd.gh (fun _ => .inr trivial) hn, e, q _ _ H1 p ⟨G, a.same ⟨a.ex.1, .bl b⟩⟩⟩
end
end Dl

namespace Dl
open PySem PySem.Spec PyProof.Rows L2 DlP
/-! ### operators that look at what comes -/
def rAddU (K : Fg) : R2 := fun x y H Q => rI0 (fun i j => .int (i + j)) x y H Q ∨ rCatA K x y H Q ∨ rCat x y H Q
def rMulU (K : Fg) : R2 := fun x y H Q => rI CMul (fun i j => .int (i * j)) x y H Q ∨ rRep x y H Q ∨ rRepT K x y H Q
def rEqU (K : Fg) : R2 := fun x y H Q => rEq x y H Q ∨ rEqD K x y H Q
def rNeU (K : Fg) : R2 := fun x y H Q => rNe x y H Q ∨ rNeD K x y H Q
section
variable {X : Cx}
theorem op_addU : OpR X (binaryOp .Add) (rAddU X.K) := fun pins s σ H x y u v Q I rx ry h => by
  rcases h with h | h | h
  · exact op_add pins s σ H x y u v Q I rx ry h
  · exact op_catA pins s σ H x y u v Q I rx ry h
  · exact op_cat pins s σ H x y u v Q I rx ry h
theorem op_mulU : OpR X (binaryOp .Mult) (rMulU X.K) := fun pins s σ H x y u v Q I rx ry h => by
  rcases h with h | h | h
  · exact op_mul pins s σ H x y u v Q I rx ry h
  · exact op_rep pins s σ H x y u v Q I rx ry h
  · exact op_repT pins s σ H x y u v Q I rx ry h
theorem op_eqU (hu : X.A.units + 64 < cLine) : OpR X (compareOp .Eq) (rEqU X.K) := fun pins s σ H x y u v Q I rx ry h => by
  rcases h with h | h
  · exact op_eq pins s σ H x y u v Q I rx ry h
  · exact op_eqD hu pins s σ H x y u v Q I rx ry h
theorem op_neU (hu : X.A.units + 64 < cLine) : OpR X (compareOp .NotEq) (rNeU X.K) := fun pins s σ H x y u v Q I rx ry h => by
  rcases h with h | h
  · exact op_ne pins s σ H x y u v Q I rx ry h
  · exact op_neD hu pins s σ H x y u v Q I rx ry h
def rSlU (K : Fg) : V → Option Int → Option Int → Hp → VK → Prop := fun x lo hi H Q => rSlL K x lo hi H Q ∨ rSlA K x lo hi H Q
theorem sl_any : SlR X (rSlU X.K) := fun pins s σ H x v vl vu lo hi sl Q I rx hs pl pu h => by
  rcases h with h | h
  · exact sl_list pins s σ H x v vl vu lo hi sl Q I rx hs pl pu h
  · exact sl_tupA pins s σ H x v vl vu lo hi sl Q I rx hs pl pu h
/-- any of a tuple of whole numbers -/
theorem truth_ints {prog : Program} {w : World} {A : Around} {ns : List Int} {its : List Value} (r : Vals (ns.map V.int) its) :
    TruthOf prog w A (fun i v => its.toArray[i]? = some v) (fun i => (ns.getD i 0) != 0) := fun i v s Q E hv hq => by
  have hv' : its[i]? = some v := by simpa using hv
  cases e : ns[i]? with
  | none =>
    have := r.none_of (i := i) (by rw [List.getElem?_map, e]; rfl)
    rw [this] at hv'; cases hv'
  | some n =>
    obtain ⟨u, hu, ru⟩ := r.get (i := i) (x := .int n) (by rw [List.getElem?_map, e]; rfl)
    rw [hu] at hv'; cases hv'
    obtain ⟨t, rfl⟩ := ru
    have hg : ns.getD i 0 = n := by rw [List.getD_eq_getElem?_getD, e]; rfl
    have hq' : Q ((ns.getD i 0) != 0) s := hq
    rw [hg] at hq'
    exact PySem.P.truthy_int hq'
theorem any_rangeI : ∀ ns : List Int, (List.range ns.length).any (fun i => (ns.getD i 0) != 0) = ns.any (· != 0)
  | [] => rfl
  | b :: bs => by
    rw [List.length_cons, List.range_succ_eq_map, List.any_cons, List.any_map, List.any_cons, ← any_rangeI bs]
    rfl
def rAnyT (K : Fg) : List V → Hp → VK → Prop := fun vs H Q => ∃ (a : Addr) (ns : List Int), vs = [V.ref a] ∧ SqT K H a (ns.map V.int) ∧ Q (.bl (ns.any (· != 0))) H
def rAnyU (K : Fg) : List V → Hp → VK → Prop := fun vs H Q => rAny K vs H Q ∨ rAnyT K vs H Q
theorem call_anyU (hc : X.calm = true := by rfl) : CallR X (.builtin "any") (rAnyU X.K) := by
  intro pins s σ H vs us Q I r h
  rcases h with h | h
  · exact cr_any hc pins s σ H vs us Q I r h
  · obtain ⟨a, ns, rfl, hs, q⟩ := h
    obtain ⟨its, rv, hl, _⟩ := I.tuple hs
    rw [Vals.ref1 r]
    have hlt : a < s.heap.objs.size := by obtain ⟨_, e, _⟩ := id hl; exact Heap.lt_size e
    refine call_any_walk (wpAny_pyIter_tuple (show s.heap.IsTuple a its.toArray from hl) ?_)
    refine ⟨s.heap.objs.size, _, _, _, _, _, _, rfl, Walks.tuple (A := X.A.in1) (I.ok.hd hc) _ a (Nat.ne_of_lt hlt) its.toArray, ⟨⟨_, Heap.get?_push_size _ rfl, rfl, rfl⟩, Heap.IsTuple.at hl fun o e => Heap.get?_push_of_some _ e⟩, truth_ints rv, fun h' tk hk => ?_⟩
    refine ⟨.bl _, H, I.kept fun b o eo => hk b o (fun hmem => ?_) (Heap.get?_push_of_some _ eo), ?_, q⟩
    · have e1 : b = s.heap.objs.size := by simpa using hmem
      exact absurd (e1 ▸ Heap.lt_size eo) (Nat.lt_irrefl _)
    · show Value.bool _ = Value.bool _
      have hlen : its.toArray.size = ns.length := by rw [List.size_toArray, ← rv.length, List.length_map]
      rw [hlen, any_rangeI]
/-! ### repr -/
mutual
theorem Rp.reads {pins : List (Addr × Obj)} {σ : L2.St} {H : Hp} {s : Shared} (I : Inv X pins σ H s) : ∀ {v : V} {d : D}, Rp X.K H v d → d.hasDict = false → ∀ {u : Value}, RelV v u → ∃ as, Reads s.heap u d as
  | _, _, .non, _, u, r => by cases r; exact ⟨_, .none⟩
  | _, _, .bl b, _, u, r => by cases r; exact ⟨_, .bool b⟩
  | _, _, .int i, _, u, r => by obtain ⟨t, rfl⟩ := r; exact ⟨_, .int i t⟩
  | _, _, .str x, _, u, r => by obtain ⟨t, rfl⟩ := r; exact ⟨_, .str x t⟩
  | _, _, .lst h ha, hd, u, r => by
    cases r
    obtain ⟨its, rv, ⟨o, n, ho, hc, _, hdt⟩, _⟩ := I.list (.inl (.inl h))
    obtain ⟨as, hr⟩ := RpA.reads I ha (by simpa [PyData.hasDict] using hd) rv
    exact ⟨_, Reads.list ho hc hdt hr⟩
  | _, _, .tup h ha, hd, u, r => by
    cases r
    obtain ⟨its, rv, ⟨o, ho, hc, n, hdt⟩, _⟩ := I.tuple h
    obtain ⟨as, hr⟩ := RpA.reads I ha (by simpa [PyData.hasDict] using hd) rv
    exact ⟨_, Reads.tuple ho hc hdt hr⟩
  | _, _, .dic _ _, hd, _, _ => by simp [PyData.hasDict] at hd
  | _, _, .scr _, hd, _, _ => by simp [PyData.hasDict] at hd
theorem RpA.reads {pins : List (Addr × Obj)} {σ : L2.St} {H : Hp} {s : Shared} (I : Inv X pins σ H s) : ∀ {vs : List V} {ds : List D}, RpA X.K H vs ds → PyData.hasDictAll ds = false → ∀ {us : List Value}, Vals vs us → ∃ as, ReadsAll s.heap us ds as
  | _, _, .nil, _, us, r => by cases r; exact ⟨_, .nil⟩
  | _, _, .cons h t, hd, us, r => by
    have hd' := (by simpa [PyData.hasDictAll] using hd : _ ∧ _)
    cases r with
    | cons r1 r2 =>
      obtain ⟨as, q1⟩ := Rp.reads I h hd'.1 r1
      obtain ⟨bs, q2⟩ := RpA.reads I t hd'.2 r2
      exact ⟨_, .cons q1 q2⟩
end
def ShowD (d : D) : Prop := d.showable = true ∧ d.hasDict = false ∧ d.depth ≤ 60 ∧ d.shown.length ≤ sizeLine
def rRepr (K : Fg) : List V → Hp → VK → Prop := fun xs H Q => ∃ v d, xs = [v] ∧ Rp K H v d ∧ ShowD d ∧ Q (.str d.shown) H
theorem call_reprU (hu : X.A.units + 64 < cLine) (hgd : X.A.guards = some []) : CallR X (.builtin "repr") (rRepr X.K) := by
  intro pins s σ H xs us Q I r h
  obtain ⟨v, d, rfl, rp, ⟨h1, h2, h3, h4⟩, q⟩ := h
  obtain ⟨u, rfl, rv⟩ := vals1 r
  cases rp with
  | non => cases rv; exact PySem.P.repr_of_none ⟨.str _, H, I.tok _, ⟨_, rfl⟩, q⟩
  | bl b => cases rv; exact PySem.P.repr_of_bool ⟨.str _, H, I.tok _, ⟨_, by simp only [PyData.shown]; cases b <;> rfl⟩, q⟩
  | int i =>
    obtain ⟨t, rfl⟩ := rv
    exact PySem.P.repr_of_int (by simpa [PyData.showable] using h1) ⟨.str _, H, I.tok _, ⟨s.toks, by simp only [PyData.shown]⟩, q⟩
  | str x =>
    obtain ⟨t, rfl⟩ := rv
    exact PySem.P.repr_of_str ⟨.str _, H, I.tok _, ⟨s.toks, by simp only [PyData.shown]⟩, q⟩ (by simpa only [PyData.shown] using h4)
  | lst h ha =>
    obtain ⟨as, hr⟩ := Rp.reads I (.lst h ha) h2 rv
    cases rv
    exact repr_of_reads' hr h1 (PyData.noDict_hsm h2) hgd (by omega) (fun _ _ e => e) (fun h' u tk hk => ⟨.str _, H, I.kept (t' := tk) hk, ⟨_, rfl⟩, q⟩) h4
  | tup h ha =>
    obtain ⟨as, hr⟩ := Rp.reads I (.tup h ha) h2 rv
    cases rv
    exact repr_of_reads' hr h1 (PyData.noDict_hsm h2) hgd (by omega) (fun _ _ e => e) (fun h' u tk hk => ⟨.str _, H, I.kept (t' := tk) hk, ⟨_, rfl⟩, q⟩) h4
  | dic h ha => simp [PyData.hasDict] at h2
  | scr h => simp [PyData.hasDict] at h2
end
section
variable {K : Fg} {sa : Option Addr} {δ : List Cell} {P : D → Prop} {ta tb te : TE} {d e : D}
theorem cw_repr (h : ShowD d) (p : P (.str d.shown)) : CW K sa (rRepr K) [d] P :=
  cw_at (fun _ => .str _) p fun G H vs Q s r q => by
    obtain ⟨v, e, rv⟩ := r.one
    exact ⟨v, d, e, rv.mono s, h, q⟩
theorem cw_anyI {ns : List Int} (p : P (.bool (ns.any (· != 0)))) : CW K sa (rAnyU K) [.tuple (ns.map PyData.int)] P :=
  cw_at (z := .bl (ns.any (· != 0))) (fun _ => .bl _) p fun G H vs Q s r q => by
    obtain ⟨v, e, rv⟩ := r.one
    obtain ⟨a, xs, e2, h, rx⟩ := rv.tup_inv
    refine .inr ⟨a, ns, by rw [e, e2], ?_, q⟩
    rw [← rx.ints]
    exact sqT_mono s h
theorem ow_addI {i j : Int} (p : P (.int (i + j))) : OW K sa (rAddU K) (.int i) (.int j) P := ow_inl (ow_I0i p)
theorem ow_addT {ds es : List D} (hz : ds.length + es.length ≤ sizeLine) (p : P (.tuple (ds ++ es))) : OW K sa (rAddU K) (.tuple ds) (.tuple es) P := ow_inr (ow_inl (ow_catA hz p))
theorem ow_mulI {i j : Int} (c : CMul i j) (p : P (.int (i * j))) : OW K sa (rMulU K) (.int i) (.int j) P := ow_inl (ow_Ii c p)
theorem ow_eqUI {i j : Int} (p : P (.bool (decide (i = j)))) : OW K sa (rEqU K) (.int i) (.int j) P := ow_inl (ow_eqI p)
theorem ow_neUI {i j : Int} (p : P (.bool (!decide (i = j)))) : OW K sa (rNeU K) (.int i) (.int j) P := ow_inl (ow_neI p)
theorem ow_eqUS {i j : Str} (p : P (.bool (decide (i = j)))) : OW K sa (rEqU K) (.str i) (.str j) P := ow_inl (ow_eqS p)
theorem ow_neUS {i j : Str} (p : P (.bool (!decide (i = j)))) : OW K sa (rNeU K) (.str i) (.str j) P := ow_inl (ow_neS p)
theorem ow_eqUD (h1 : SeqAt.shaped d = true) (h2 : SeqAt.shaped e = true) (p : P (.bool (PyData.eqv d e))) : OW K sa (rEqU K) d e P := ow_inr (ow_eqD h1 h2 p)
theorem ow_neUD (h1 : SeqAt.shaped d = true) (h2 : SeqAt.shaped e = true) (p : P (.bool (!PyData.eqv d e))) : OW K sa (rNeU K) d e P := ow_inr (ow_neD h1 h2 p)
theorem wf_opR {r r' : R2} {P : List D → Prop} (h : WF K sa (tOp r' ta tb) δ P) (k : ∀ x y H Q, r' x y H Q → r x y H Q) (m1 : ∀ x y H (Q Q' : VK), (∀ v H', Q v H' → Q' v H') → r' x y H Q → r' x y H Q') (ha : ∀ σ H (Q Q' : VK), (∀ v H', Q v H' → Q' v H') → ta σ H Q → ta σ H Q') (hb : ∀ σ H (Q Q' : VK), (∀ v H', Q v H' → Q' v H') → tb σ H Q → tb σ H Q') : WF K sa (tOp r ta tb) δ P := fun m H0 G0 E up σ H A Q q =>
  ha σ H _ _ (fun v H' h => hb σ H' _ _ (fun w H'' h' => k _ _ _ _ h') h) (h m H0 G0 E up σ H A Q q)
theorem wf_catU {P : List D → Prop} (h : WE K sa ta δ fun d => ∃ ds, d = .list ds ∧ WE K sa tb δ fun e => ∃ es, e = .list es ∧ ds.length + es.length ≤ sizeLine ∧ P (ds ++ es)) : WF K sa (tOp (rAddU K) ta tb) δ P := fun m H0 G0 E up σ H A Q q =>
  h m H0 G0 E up σ H A _ fun v d H1 ⟨ds, e1, h1⟩ A1 => h1 m H0 G0 _ (up_and up up_rp) σ H1 A1 _ fun w e H2 ⟨es, e2, hz, hp⟩ ⟨G, a⟩ => by
    subst e1 e2
    obtain ⟨b, xs, e1, hs, rx⟩ := a.ex.1.2.lst_inv
    obtain ⟨c, ys, e2, hs2, ry⟩ := a.ex.2.lst_inv
    exact .inr (.inr ⟨b, c, xs, ys, e1, e2, a.gd.gh _ _ hs, a.gd.gh _ _ hs2, by rw [rx.length, ry.length]; exact hz, fun x hx => wf_new up ⟨G, a.same ⟨a.ex.1.1, rx.append ry⟩⟩ hp q hx⟩)
theorem wf_repU {P : List D → Prop} (h : WE K sa ta δ fun d => ∃ ds, d = .list ds ∧ WE K sa tb δ fun e => ∃ k, e = .int k ∧ (-(2 ^ 63) ≤ k ∧ k < 2 ^ 63) ∧ ds.length * k.toNat ≤ sizeLine ∧ P (List.replicate k.toNat ds).flatten) : WF K sa (tOp (rMulU K) ta tb) δ P := fun m H0 G0 E up σ H A Q q =>
  h m H0 G0 E up σ H A _ fun v d H1 ⟨ds, e1, h1⟩ A1 => h1 m H0 G0 _ (up_and up up_rp) σ H1 A1 _ fun w e H2 ⟨k, e2, hk, hz, hp⟩ ⟨G, a⟩ => by
    subst e1 e2
    obtain ⟨b, xs, e1, hs, rx⟩ := a.ex.1.2.lst_inv
    exact .inr (.inl ⟨b, k, xs, e1, a.ex.2.int_inv, a.gd.gh _ _ hs, hk.1, hk.2, by rw [rx.length]; exact hz, fun x hx => wf_new up ⟨G, a.same ⟨a.ex.1.1, rpA_flat rx k.toNat⟩⟩ hp q hx⟩)
theorem we_slTU {tl th : TO} (h : WE K sa te δ fun d => ∃ ds, d = .tuple ds ∧ WO K sa tl δ fun l => WO K sa th δ fun u => P (.tuple (cutD ds l u))) : WE K sa (tSl (rSlU K) te tl th) δ P := fun m H0 G0 E up σ H A Q q =>
  h m H0 G0 E up σ H A _ fun v d H1 ⟨ds, e, h1⟩ A1 => h1 m H0 G0 _ (up_and up up_rp) σ H1 A1 _ fun l H2 h2 A2 => h2 m H0 G0 _ (up_and up up_rp) σ H2 A2 _ fun u H3 p ⟨G, a⟩ => by
    subst e
    obtain ⟨b, xs, e1, hs, rx⟩ := a.ex.2.tup_inv
    refine .inr ⟨b, xs, e1, sqT_mono a.gd.gh hs, fun hw => ?_, fun hw x hx => ?_⟩
    · rw [rx.length] at hw
      have p : P (.tuple (cutD ds l u)) := p
      rw [cutD_whole hw] at p
      rw [← e1]
      exact q _ _ _ p ⟨G, a.same a.ex⟩
    · exact at_newTup up ⟨G, a.same ⟨a.ex.1, rpA_cut rx l u⟩⟩ p q hx
theorem wf_slLU {tl th : TO} {P : List D → Prop} (h : WE K sa te δ fun d => ∃ ds, d = .list ds ∧ WO K sa tl δ fun l => WO K sa th δ fun u => P (cutD ds l u)) : WF K sa (tSl (rSlU K) te tl th) δ P := fun m H0 G0 E up σ H A Q q =>
  h m H0 G0 E up σ H A _ fun v d H1 ⟨ds, e, h1⟩ A1 => h1 m H0 G0 _ (up_and up up_rp) σ H1 A1 _ fun l H2 h2 A2 => h2 m H0 G0 _ (up_and up up_rp) σ H2 A2 _ fun u H3 p ⟨G, a⟩ => by
    subst e
    obtain ⟨b, xs, e1, hs, rx⟩ := a.ex.2.lst_inv
    exact .inl ⟨b, xs, e1, .inl (.inl (a.gd.gh _ _ hs)), fun x hx => wf_new up ⟨G, a.same ⟨a.ex.1, rpA_cut rx l u⟩⟩ p q hx⟩
theorem wf_slScrU {tl th : TO} {ns : List Int} {P : List D → Prop} (h : WE K sa te δ fun d => d = scrD ns ∧ WO K sa tl δ fun l => WO K sa th δ fun u => P (((ns.map PyData.int).drop (HT.sIx ns.length 0 l)).take (HT.sIx ns.length ns.length u - HT.sIx ns.length 0 l))) : WF K sa (tSl (rSlU K) te tl th) δ P := fun m H0 G0 E up σ H A Q q =>
  h m H0 G0 E up σ H A _ fun v d H1 ⟨e, h1⟩ A1 => h1 m H0 G0 _ (up_and up up_rp) σ H1 A1 _ fun l H2 h2 A2 => h2 m H0 G0 _ (up_and up up_rp) σ H2 A2 _ fun u H3 p ⟨G, a⟩ => by
    subst e
    obtain ⟨b, e1, hs⟩ := a.ex.2.scr_inv
    refine .inl ⟨b, _, e1, sqL_mono a.gd.gh hs, fun x hx => wf_new up ⟨G, a.same ⟨a.ex.1, ?_⟩⟩ p q hx⟩
    unfold cutV
    rw [List.length_map]
    exact ((RpA.of_ints ns).drop _).take _
/-! ### the spring -/
theorem we_spr {a : Addr} {i : Nat} {j : Int} (hi : δ[i]? = some .spr) (hj : j = 0 ∨ j = 1 ∨ j = 2) (p : ∀ z : Int, P (.int z)) : WE K (some a) (tOp (rIx K) (tVar i) (tC (.int j))) δ P := fun m H0 G0 E up σ H ⟨G, A⟩ Q q => by
  obtain ⟨o, e, b, eb, eo⟩ := A.slot hi
  cases eb
  subst eo
  obtain ⟨c, s, n, hl⟩ := (A.gd.sp a rfl).1
  have fin : ∀ z : Int, atI [V.int c, .int s, .int n] j = some (.int z) → tOp (rIx K) (tVar i) (tC (.int j)) σ H Q := fun z hz =>
    ⟨_, e, .inl ⟨a, _, j, .int z, rfl, rfl, .inl (.inl hl), hz, q _ _ H (p z) ⟨G, A.same ⟨A.ex, .int z⟩⟩⟩⟩
  rcases hj with e | e | e
  · subst e; exact fin c rfl
  · subst e; exact fin s rfl
  · subst e; exact fin n rfl
theorem ws_spr {nx : List Cell → Prop} {rt : D → Prop} {bk ct : List Cell → Prop} {a : Addr} {i : Nat} {j : Int} (hi : δ[i]? = some .spr) (hj : j = 0 ∨ j = 1 ∨ j = 2) (h : WE K (some a) te δ fun d => ∃ z, d = .int z ∧ nx δ) : WS K (some a) (tAsg te (gSub (tVar i) (tC (.int j)) rSetL)) ⟨nx, rt, bk, ct⟩ δ := fun H0 G0 E up σ H Dn A R =>
  h true H0 G0 E up σ H A _ fun v d H1 ⟨z, e, p⟩ ⟨G, a1⟩ => by
    subst e
    obtain ⟨o, e, b, eb, eo⟩ := a1.slot hi
    cases eb
    subst eo
    obtain ⟨⟨c, s, n, hl⟩, ha, hg⟩ := a1.gd.sp a rfl
    have gn : G a = none := a1.gd.notIn rfl
    have ev := a1.ex.2.int_inv
    subst ev
    have fin : ∀ (k : Nat) (x y w : Int), ixN 3 j = some k → ([V.int c, .int s, .int n].set k (.int z)) = [.int x, .int y, .int w] → gSub (tVar i) (tC (.int j)) rSetL (.int z) σ H1 Dn.nx := fun k x y w hk hs => by
      refine ⟨_, e, a, _, j, k, rfl, rfl, hl, hk, R.nx _ _ _ p ⟨G, ⟨⟨a1.gd.g0, fun b o q => ?_, a1.gd.fr, fun b o ne q => ?_, fun b eb => ?_⟩, a1.len, fun i' c' o h1 h2 => ?_, a1.dis, a1.ex.1⟩⟩⟩
      · rw [upd_ne (fun z => by subst z; rw [gn] at q; cases q)]; exact a1.gd.gh b o q
      · rw [upd_ne (fun z => ne (by rw [z]))]; exact a1.gd.hh b o ne q
      · cases eb
        exact ⟨⟨x, y, w, by rw [upd_same, hs]⟩, ha, hg⟩
      · have q := a1.cell i' c' o h1 h2
        cases c' with
        | no => trivial
        | dat d => exact q
        | own ds =>
          obtain ⟨p', vs, e1, hp, gp, ne, r, hm⟩ := q
          exact ⟨p', vs, e1, by rw [upd_ne (fun z => ne (by rw [z]))]; exact hp, gp, ne, r, hm⟩
        | spr => exact q
    rcases hj with e' | e' | e'
    · subst e'; exact fin 0 z s n rfl rfl
    · subst e'; exact fin 1 c z n rfl rfl
    · subst e'; exact fin 2 c s z rfl rfl
/-- x, y = a, [..]: the second a list of one's own -/
theorem ws_parF {nx : List Cell → Prop} {rt : D → Prop} {bk ct : List Cell → Prop} {i j : Nat} (h : WE K sa ta δ fun d => WF K sa tb δ fun es => nx ((δ.set i (.dat d)).set j (.own es))) (hij : i ≠ j) (hni : ∀ es, δ[i]? ≠ some (.own es)) : WS K sa (tPar i j (tCons ta (tCons tb tNil))) ⟨nx, rt, bk, ct⟩ δ := fun H0 G0 E up σ H Dn A R =>
  h true H0 G0 E up σ H A _ fun v d H1 h1 A1 => h1 true H0 G0 _ (up_and up up_rp) σ H1 A1 _ fun p vs es H2 pp ⟨G, a⟩ hp h0 hs hj => by
    refine ⟨v, .ref p, rfl, R.nx _ _ _ pp ⟨G, AtG.setOwn (E := E) (p := p) (vs := vs) ((a.same (E' := fun G => (E G ∧ G p = none ∧ RpA K G vs es) ∧ Rp K G v d) ⟨⟨a.ex.1.1, a.ex.2⟩, a.ex.1.2⟩).set i) j hp h0 hs fun k fs hk e => ?_⟩⟩
    by_cases ek : i = k
    · subst ek
      have hi : i < δ.length := by
        have := (List.getElem?_eq_some_iff.mp hk).1
        rwa [List.length_set] at this
      rw [List.getElem?_set_self hi] at hk; cases hk
    · rw [List.getElem?_set_ne ek] at hk e
      exact hj k fs hk e
/-- one's own list, looked at, measured, handed on where no list comes back -/
theorem we_melted {i : Nat} {ds : List D} (hi : δ[i]? = some (.own ds)) (h : WE K sa te (δ.set i (.dat (.list ds))) fun d => ((∃ n, d = .int n) ∨ (∃ b, d = .bool b) ∨ d = .none ∨ ∃ s, d = .str s) ∧ P d) : WE K sa te δ P := fun m H0 G0 E up σ H ⟨G, A⟩ Q q => by
  have B := A.base
  obtain ⟨o, e1, p, vs, e2, hp, gp, ne, r, h0⟩ := A.slot hi
  subst e2
  have hil : i < δ.length := (List.getElem?_eq_some_iff.mp hi).1
  have s1 : Same G (upd G p (.lst vs)) := fun b o e => by rw [upd_ne (ne_of_none e gp)]; exact e
  have rp : Rp K (upd G p (.lst vs)) (.ref p) (.list ds) := .lst upd_same (r.mono s1)
  have B' : AtG K false sa H (upd G p (.lst vs)) (δ.set i (.dat (.list ds))) (fun _ => True) σ (upd G p (.lst vs)) H := by
    refine ⟨⟨Same.refl _, fun b o q => ?_, fun _ _ h => h, .refl _ _, fun a ea => ⟨(A.gd.sp a ea).1, ?_, ?_⟩⟩, by rw [List.length_set]; exact A.len, fun j c o h1 h2 => ?_, fun j k es fs hjk h1 h2 => ?_, trivial⟩
    · by_cases hb : b = p
      · subst hb; rw [upd_same] at q; cases q; exact hp
      · rw [upd_ne hb] at q; exact A.gd.gh b o q
    · obtain ⟨c, s, n, q⟩ := (A.gd.sp a ea).1
      rw [q]; simp
    · rw [upd_ne (fun z => ne (by rw [ea, z]))]; exact A.gd.notIn ea
    · by_cases e : i = j
      · subst e
        rw [List.getElem?_set_self hil] at h1
        cases h1
        rw [e1] at h2; cases h2
        exact ⟨_, rfl, rp⟩
      · rw [List.getElem?_set_ne e] at h1
        have q := B.cell j c o h1 h2
        cases c with
        | no => trivial
        | dat d => obtain ⟨v, e1, r⟩ := q; exact ⟨v, e1, r.mono s1⟩
        | own es =>
          obtain ⟨p', ws, e3, hp', gp', ne', r', hm'⟩ := q
          refine ⟨p', ws, e3, hp', ?_, ne', r'.mono s1, hm'⟩
          rw [upd_ne (fun z => ?_)]
          · exact gp'
          · subst z
            exact A.dis i j ds es e hi h1 (by rw [e1, h2, e3])
        | spr => exact q
    · have key : ∀ {j : Nat} {es : List D}, (δ.set i (.dat (.list ds)))[j]? = some (.own es) → δ[j]? = some (.own es) := fun {j es} h => by
        by_cases e : i = j
        · subst e; rw [List.getElem?_set_self hil] at h; cases h
        · rw [List.getElem?_set_ne e] at h; exact h
      exact A.dis j k es fs hjk (key h1) (key h2)
  refine h false H (upd G p (.lst vs)) (fun _ => True) up_true σ H ⟨_, B'⟩ Q fun v d H' ⟨sc, pd⟩ ⟨G', b⟩ => q v d H' pd ⟨G, ?_⟩
  have rs : Rp K G v d := by
    rcases sc with ⟨n, e⟩ | ⟨n, e⟩ | e | ⟨n, e⟩
    · subst e; rw [b.ex.2.int_inv]; exact .int n
    · subst e; rw [b.ex.2.bl_inv]; exact .bl n
    · subst e; rw [b.ex.2.non_inv]; exact .non
    · subst e; rw [b.ex.2.str_inv]; exact .str n
  have gh : Same G H' := fun b' o' e' => b.gd.gh _ _ (b.gd.g0 _ _ (s1 _ _ e'))
  exact A.grow (Same.refl _) gh (fun _ _ h => h) b.gd.hh (fun z ez => (b.gd.sp z ez).1) ⟨A.ex, rs⟩
end
end Dl

namespace Dl
open PySem PySem.Spec PyProof.Rows L2 DlP
/-! ### the law's own call -/
theorem law_callG {P : Program} {w : World} {K : Fg} {mg mb : Str → Option Value} {k : Nat} {fa a : Addr} {fd : FuncData} {x : Str} {sp : Sp} {s₁ : Shared} {vs : List Value} {ns : List Int}
    (KX : K.In s₁.heap) (hns : s₁.heap.Ns mainGlobals mg) (hb : s₁.heap.Ns builtinsNs mb) (hbb : ∀ x : Str, x ≠ "__name__" → mb x = bootBuiltins x) (hlim : s₁.heap.NoLimit) (hg : s₁.gens = #[])
    (ha : s₁.heap.get? a = some { cls := .type "list", data := .seq vs.toArray }) (hi : IntsAre vs ns) (hl : ns.length ≤ sizeLine) (hr : Room k callerA)
    (F : ∀ base : Heap, K.In base → base.Ns mainGlobals mg → FnG P w K mg base CX0 k fa fd [x] sp) (hbind : ∀ (s : Shared) (u : Value), BindsTo s fd ⟨[u], []⟩ [(x, u)])
    (hsp : ∀ H : Hp, Only H → SqL K H a (ns.map V.int) → sp [.ref a] H (fun v _ => v = .bl true) fun _ _ _ => False) :
    codeAny (model P w) callerA (.call (.ref fa) ⟨[.ref a], []⟩) (fun r s' => r = .ok (.ret (.bool true)) ∧ OldK s₁.heap s'.heap ∧ s'.os = s₁.os ∧ AllBare s'.gens) s₁ := by
  have rv := vals_ints hi
  have lenV := hi.length
  have core : ∀ H : Hp, Only H → SqL K H a (ns.map V.int) → HOk P w H s₁.heap → (∀ b, H b ≠ none → b = a) → (H a ≠ none → K.lookup a = none) →
      codeAny (model P w) callerA (.call (.ref fa) ⟨[.ref a], []⟩) (fun r s' => r = .ok (.ret (.bool true)) ∧ OldK s₁.heap s'.heap ∧ s'.os = s₁.os ∧ AllBare s'.gens) s₁ := by
    intro H hO hS hok hA hK
    have noA : ∀ {b : Addr} {o : Obj} {es : Array DictEntry} {ep : Nat}, s₁.heap.get? b = some o → o.data = .dict es ep → H b = none := fun {b o es ep} e d => by
      cases q : H b with
      | none => rfl
      | some u =>
        have e' : b = a := hA b (by rw [q]; simp)
        subst e'
        rw [ha] at e; cases e
        have d' : Data.seq vs.toArray _ = Data.dict es ep := d
        cases d'
    have nsK : ∀ {b : Addr} {m : Str → Option Value}, s₁.heap.Ns b m → (hidT s₁.heap H).Ns b m := fun {b m} ⟨o, es, ep, e, d, r⟩ => ⟨o, es, ep, hidT_get e (noA e d), d, r⟩
    have hKb : K.In (hidT s₁.heap H) := fun b o e => hidT_get (KX b o e) (by
      cases q : H b with
      | none => rfl
      | some u =>
        have e' : b = a := hA b (by rw [q]; simp)
        subst e'
        rw [hK (by rw [q]; simp)] at e; cases e)
    have hM : Mod K mg (hidT s₁.heap H) := ⟨hKb, nsK hns, ⟨mb, nsK hb, hbb⟩, let ⟨mc, h1, h2⟩ := hlim; ⟨mc, nsK h1, h2⟩⟩
    have e0 : Env0 P w K mg (hidT s₁.heap H) callerA [] s₁ H := ⟨rfl, hM, fun b o e => of_hidT e, Nat.le_of_eq (hidT_size _ _), trivial, fun b hb => absurd (show b ∈ ([] : List Addr) from hb) (by simp), hok, .of_eq hg⟩
    refine codeAny_mono ((F _ hKb (nsK hns)).run callerA [] s₁ H ⟨[.ref a], []⟩ [.ref a] [.ref a] _ _ hr rfl e0 (hbind s₁ (.ref a)) (.cons rfl .nil) (hsp H hO hS)) fun r s' h => ?_
    cases r with
    | error e => exact False.elim h
    | ok fl =>
      cases fl with
      | next => exact False.elim h
      | brk => exact False.elim h
      | cont => exact False.elim h
      | ret u =>
        obtain ⟨v, H', os, bare, un, hok', r', q⟩ := h
        have q' : v = .bl true := q
        subst q'
        obtain rfl : u = Value.bool true := r'
        refine ⟨rfl, OldK.of_keep fun b o e => ?_, os, bare⟩
        cases q : H b with
        | none => exact un.keep b o e q (by intro z; exact absurd (show b ∈ ([] : List Addr) from z) (by simp)) (by simp)
        | some u =>
          rcases hO b with z | ⟨ob, xs, z⟩
          · rw [q] at z; cases z
          · have z2 := un.frzs b ob _ z
            obtain ⟨e1, _⟩ := hok b _ z
            obtain ⟨e2, _⟩ := hok' b _ z2
            rw [e] at e1; cases e1
            exact e2
  cases hk : K.lookup a with
  | some o =>
    have e := KX a o hk
    rw [ha] at e
    cases e
    refine core (fun _ => none) (fun _ => .inl rfl) (.inr ⟨_, vs.toArray, _, hk, rfl, rfl, rfl, by rw [List.size_toArray, lenV]; exact hl, by simpa using rv⟩) (fun b u z => by have z' : (none : Option HO) = some u := z; cases z') (fun b z => absurd rfl z) fun z => absurd rfl z
  | none =>
    refine core (fun b => if b = a then some (.frz { cls := .type "list", data := .seq vs.toArray } (.lst (ns.map V.int))) else none) (fun b => ?_) (.inl (.inr ⟨{ cls := .type "list", data := .seq vs.toArray }, if_pos rfl⟩)) (fun b u z => ?_) (fun b z => ?_) fun _ => hk
    · by_cases hb : b = a
      · exact .inr ⟨_, _, if_pos hb⟩
      · exact .inl (if_neg hb)
    · by_cases hb : b = a
      · have z' := (if_pos hb).symm.trans z
        cases z'
        subst hb
        exact ⟨ha, by rw [List.length_map]; exact hl, vs, _, rv, ha⟩
      · have z' := (if_neg hb).symm.trans z
        cases z'
    · by_cases hb : b = a
      · exact hb
      · exact absurd (if_neg hb) z
def preLaw (ds : List D) : Prop := ∃ ns : List Int, ds = [scrD ns] ∧ ns.length ≤ 63
def postLaw (_ : List D) (d : D) : Prop := d = .bool true
theorem walkG {l : PySem.W.OpenLaw} {k : Nat} {q : Program} {loose : List Str} {XP : (Str → Option Value) → Heap → Prop} {YP : World → Heap → Prop} {d : DefRec} {K : Params → PySem.W.Frag} {x : Str}
    (hn : l.most = some 63) (hdf : d.params.defaults = []) (hr : Room k callerA)
    (hY : ∀ (w : World) (h : Heap), YP w h → (K w.params).In h)
    (F : ∀ (w : World) (mg : Str → Option Value) (fa : Addr) (h : Heap), (K w.params).In h → h.Ns mainGlobals mg → mg d.name = some (.ref fa) →
      ∃ fd : FuncData, (∀ (s : Shared) (u : Value), BindsTo s fd ⟨[u], []⟩ [(x, u)]) ∧
        ∀ base : Heap, (K w.params).In base → base.Ns mainGlobals mg → FnG l.prog w (K w.params) mg base CX0 k fa fd [x] (spF (K w.params) preLaw postLaw)) :
    PySem.W.WalkO q loose XP YP l.row.toRowW d [] (fun f vs => PySem.call f vs) := by
  refine Att.attach_call hn hdf fun w s₀ s₁ mg mb fa o pm cd doc a vs ns G Y ho hd hcd hmg hobj hints hlen hg => ?_
  have KX := hY w _ Y
  obtain ⟨fd, hb, hF⟩ := F w mg fa _ KX G.T.g hmg
  refine law_callG KX G.T.g G.T.b G.T.builtins G.T.nolimit hg hobj hints (Nat.le_trans hlen (by rw [sizeLine_eq]; decide)) hr hF hb fun H hO hS => ?_
  have hT : SqL (K w.params) (thin H) a (ns.map V.int) := by
    rcases hS with (h | ⟨o, h⟩) | h
    · rcases hO a with z | ⟨o, xs, z⟩
      · rw [h] at z; cases z
      · rw [h] at z; cases z
    · exact .inl (.inr ⟨o, thin_of h fun xs z => nomatch z⟩)
    · exact .inr h
  exact ⟨H, [scrD ns], Same.refl _, .cons (.scr hT) .nil, ⟨ns, rfl, hlen⟩, fun H' G' v d _ _ _ _ r p => by
    have p : d = .bool true := p
    subst p
    exact r.bl_inv⟩
/-! ### the spring comes -/
/-- no lists in it but the script -/
def flatD : D → Prop
  | .list _ => False
  | .tuple _ => False
  | .dict [(.list _, .none)] => True
  | .dict _ => False
  | _ => True
theorem flat_dict : ∀ {ds : List (D × D)}, flatD (.dict ds) → ∃ xs, ds = [(.list xs, .none)]
  | [], f => f.elim
  | [(.list xs, .none)], _ => ⟨xs, rfl⟩
  | (a, b) :: _ :: _, f => by cases a <;> cases b <;> exact f.elim
  | [(.none, _)], f => f.elim
  | [(.bool _, _)], f => f.elim
  | [(.int _, _)], f => f.elim
  | [(.str _, _)], f => f.elim
  | [(.tuple _, _)], f => f.elim
  | [(.dict _, _)], f => f.elim
  | [(.list _, .bool _)], f => f.elim
  | [(.list _, .int _)], f => f.elim
  | [(.list _, .str _)], f => f.elim
  | [(.list _, .list _)], f => f.elim
  | [(.list _, .tuple _)], f => f.elim
  | [(.list _, .dict _)], f => f.elim
theorem Rp.thin {K : Fg} {G : Hp} {v : V} {d : D} (r : Rp K G v d) (f : flatD d) : Rp K (Dl.thin G) v d := by
  cases r with
  | non => exact .non
  | bl b => exact .bl b
  | int i => exact .int i
  | str x => exact .str x
  | lst h r => exact f.elim
  | tup h r => exact f.elim
  | dic h r =>
    obtain ⟨xs, e⟩ := flat_dict f
    subst e
    exact absurd rfl (r.no_list _ (List.mem_singleton.mpr rfl) _)
  | scr h => exact .scr (sqL_mono (thin_thin G) h)
theorem RpA.thin {K : Fg} {G : Hp} : ∀ {vs : List V} {ds : List D}, RpA K G vs ds → (∀ d ∈ ds, flatD d) → RpA K (Dl.thin G) vs ds
  | _, _, .nil, _ => .nil
  | _, _, .cons r t, h => .cons (r.thin (h _ (by simp))) (RpA.thin t fun d hd => h d (by simp [hd]))
section
variable {K : Fg} {δ : List Cell} {ta : TA} {pre : List D → Prop} {nx : List Cell → Prop} {rt : D → Prop} {bk ct : List Cell → Prop} {u : TS}
def noOwn (δ : List Cell) : Prop := ∀ (i : Nat) (es : List D), δ[i]? ≠ some (Cell.own es)
/-- what stands in a frame without the spring's slot -/
def dry (δ : List Cell) : List Cell := δ.map fun c => match c with | .spr => .no | c => c
theorem ws_spring {i : Nat} {E0 : XK} {post : List D → D → Prop} (hno : noOwn δ) (h : WA K none ta δ fun ds => pre ds ∧ (∀ d ∈ ds, flatD d) ∧ (∀ d, post ds d → ∃ c s n, d = .list [.int c, .int s, .int n]) ∧
      ∀ a, WS K (some a) u ⟨fun δ' => nx (dry δ'), rt, fun δ' => bk (dry δ'), fun δ' => ct (dry δ')⟩ (δ.set i .spr)) :
    WS K none (tSeq (tAsg (tCall (spF K pre post) [] E0 ta) (gName i)) u) ⟨nx, rt, bk, ct⟩ δ := fun H0 G0 E up σ H Dn A R => by
  refine h true H0 G0 E up σ H A _ fun vs ds H1 ⟨p, hfl, hpo, k⟩ ⟨G, a⟩ => ?_
  show spF K pre post (vs ++ []) H1 _ E0
  rw [List.append_nil]
  refine ⟨thin G, ds, (thin_same G).trans a.gd.gh, a.ex.2.thin hfl, p, fun H' G' v d s1 s2 s3 fr r hp => ?_⟩
  obtain ⟨c, z, n, ed⟩ := hpo d hp
  subst ed
  obtain ⟨b, xs, ev, hG', rx⟩ := r.lst_inv
  subst ev
  have exs : xs = [.int c, .int z, .int n] := rx.ints (ns := [c, z, n])
  subst exs
  have sp : SprV H' b := ⟨c, z, n, s3 _ _ hG'⟩
  have hb : H1 b = none := by
    cases q : H1 b with
    | none => rfl
    | some o =>
      exfalso
      cases q2 : thin G b with
      | none => rw [fr b (by rw [q]; simp) q2] at hG'; cases hG'
      | some u =>
        have q3 := s2 _ _ q2
        rw [hG'] at q3
        cases q3
        exact thin_no q2
  have gb : G b = none := by
    cases z : G b with
    | none => rfl
    | some o => rw [a.gd.gh b o z] at hb; cases hb
  have h0b : H0 b = none := by
    cases z : H0 b with
    | none => rfl
    | some o => exact absurd hb (a.gd.live (by rw [z]; simp))
  have B : AtG K true (some b) H' G (δ.set i .spr) E (σ.set i (some (.ref b))) G H' := by
    refine ⟨⟨Same.refl _, a.gd.gh.trans s1, fun _ _ h => h, .refl _ _, fun c ec => ?_⟩, by rw [List.length_set, List.length_set]; exact a.len, fun j c o h1 h2 => ?_, fun j k es fs _ h1 _ => ?_, a.ex.1⟩
    · cases ec
      refine ⟨sp, ?_, gb⟩
      obtain ⟨c, s, n, e⟩ := sp
      rw [e]; simp
    · by_cases e : i = j
      · subst e
        have hi : i < δ.length := by
          have := (List.getElem?_eq_some_iff.mp h1).1
          rwa [List.length_set] at this
        rw [List.getElem?_set_self hi] at h1
        rw [List.getElem?_set_self (by rw [a.len]; exact hi)] at h2
        cases h1; cases h2
        exact ⟨b, rfl, rfl⟩
      · rw [List.getElem?_set_ne e] at h1 h2
        have q := a.cell j c o h1 h2
        cases c with
        | no => trivial
        | dat d => exact q
        | own es => exact absurd h1 (hno j es)
        | spr => obtain ⟨z, ez, _⟩ := q; cases ez
    · by_cases e : i = j
      · subst e
        have hi : i < δ.length := by
          have := (List.getElem?_eq_some_iff.mp h1).1
          rwa [List.length_set] at this
        rw [List.getElem?_set_self hi] at h1; cases h1
      · rw [List.getElem?_set_ne e] at h1
        exact absurd h1 (hno j es)
  have back : ∀ {δ' : List Cell} {F : Hp → Prop} {σ' : L2.St} {H'' : Hp}, At K true (some b) H' G δ' F σ' H'' → At K true none H0 G0 (dry δ') F σ' H'' := fun {δ' F σ' H''} ⟨G'', c⟩ => by
    have hs : ExB none H0 H'' := fun z o _ e => by
      have nz : (some b : Option Addr) ≠ some z := fun e' => by cases e'; rw [h0b] at e; cases e
      exact c.gd.hh z o nz (s1 z o (a.gd.hh z o (fun e' => nomatch e') e))
    have live' : ∀ z, H0 z ≠ none → H' z ≠ none := fun z hz => by
      have := a.gd.live hz
      cases q : H1 z with
      | none => exact absurd q this
      | some o => rw [s1 z o q]; simp
    refine ⟨G'', ⟨a.gd.g0.trans c.gd.g0, c.gd.gh, fun z h1 h2 => c.gd.fr z (live' z h1) (a.gd.fr z h1 h2), hs, fun _ e => nomatch e⟩, by unfold dry; rw [List.length_map]; exact c.len, fun j c' o h1 h2 => ?_, fun j k es fs hjk h1 h2 => ?_, c.ex⟩
    · unfold dry at h1
      rw [List.getElem?_map] at h1
      obtain ⟨c0, hc, e⟩ := Option.map_eq_some_iff.mp h1
      have q := c.cell j c0 o hc h2
      cases c0 with
      | no => cases e; trivial
      | dat d => cases e; exact q
      | own es =>
        cases e
        obtain ⟨p', vs, e1, hp, gp, ne, r, hm⟩ := q
        refine ⟨p', vs, e1, hp, gp, fun z => (nomatch z), r, fun _ => ?_⟩
        cases z : H0 p' with
        | none => rfl
        | some o' => exact absurd (hm rfl) (live' p' (by rw [z]; simp))
      | spr => cases e; trivial
    · have key : ∀ {j : Nat} {es : List D}, (dry δ')[j]? = some (.own es) → δ'[j]? = some (.own es) := fun {j es} h => by
        unfold dry at h
        rw [List.getElem?_map] at h
        obtain ⟨c0, hc, e⟩ := Option.map_eq_some_iff.mp h
        cases c0 with
        | own es' => cases e; exact hc
        | no => cases e
        | dat d => cases e
        | spr => cases e
      exact c.dis j k es fs hjk (key h1) (key h2)
  show u Dn (σ.set i (some (.ref b))) H'
  refine k b H' G E up _ H' Dn ⟨G, B⟩ ⟨fun δ' σ' H'' p' A' => R.nx _ _ _ p' (back A'), fun δ' σ' H'' p' A' => R.bk _ _ _ p' (back A'), fun δ' σ' H'' p' A' => R.ct _ _ _ p' (back A'), fun δ' v d σ' H'' p' A' => R.rt _ v d _ _ p' (back A')⟩
end
end Dl

namespace Dl
open PySem PySem.Spec PyProof.Rows L2 DlP
theorem cmul_left {i j : Int} (h : -(2 ^ 64) < i ∧ i < 2 ^ 64) : CMul i j := .inl h
theorem cmul_right {i j : Int} (h : -(2 ^ 64) < j ∧ j < 2 ^ 64) : CMul i j := .inr h
theorem and_cases {b : Bool} {A B : Prop} (h1 : b = true → A) (h2 : b = false → B) : (b = true → A) ∧ (b = false → B) := ⟨h1, h2⟩
theorem ex_int {x : Int} {P : Int → Prop} (h : P x) : ∃ i, (PyData.int x) = .int i ∧ P i := ⟨x, rfl, h⟩
theorem ex_bool {x : Bool} {P : Bool → Prop} (h : P x) : ∃ i, (PyData.bool x) = .bool i ∧ P i := ⟨x, rfl, h⟩
theorem ex_list {x : List D} {P : List D → Prop} (h : P x) : ∃ i, (PyData.list x) = .list i ∧ P i := ⟨x, rfl, h⟩
theorem ex_tuple {x : List D} {P : List D → Prop} (h : P x) : ∃ i, (PyData.tuple x) = .tuple i ∧ P i := ⟨x, rfl, h⟩
theorem ex_seqL {x : List D} {P : List D → Prop} (h : P x) : ∃ i, SeqD (.list x) i ∧ P i := ⟨x, .inl rfl, h⟩
theorem ex_seqT {x : List D} {P : List D → Prop} (h : P x) : ∃ i, SeqD (.tuple x) i ∧ P i := ⟨x, .inr rfl, h⟩
section
variable {K : Fg} {sa : Option Addr} {δ : List Cell} {P : D → Prop} {ta tb te : TE}
theorem ow_modN {i j : Int} (c : j ≠ 0) (p : P (.int (i.fmod j))) : OW K sa (rI (fun _ j => j ≠ 0) fun i j => .int (i.fmod j)) (.int i) (.int j) P := ow_Ii c p
theorem ow_fdivN {i j : Int} (c : CDivN i j) (p : P (.int (i.fdiv j))) : OW K sa (rI CDivN fun i j => .int (i.fdiv j)) (.int i) (.int j) P := ow_Ii c p
theorem ow_pow {i j : Int} (c : CPow i j) (p : P (.int (i ^ j.toNat))) : OW K sa (rI CPow fun i j => .int (i ^ j.toNat)) (.int i) (.int j) P := ow_Ii c p
theorem we_neg {i : Int} (h : WE K sa te δ fun d => ∃ i, d = .int i ∧ P (.int (-i))) : WE K sa (tUn (rU fun i => .int (-i)) te) δ P := fun m H0 G0 E up σ H A Q q =>
  h m H0 G0 E up σ H A _ fun v d H1 ⟨i, e, p⟩ ⟨G, a⟩ => by
    subst e
    exact ⟨i, a.ex.2.int_inv, q _ _ H1 p ⟨G, a.same ⟨a.ex.1, .int _⟩⟩⟩
theorem we_isN {te : TE} (h : WE K sa te δ fun d => P (.bool (match d with | .none => true | _ => false))) : WE K sa (tOp (fun x y H Q => y = .non ∧ Q (.bl (decide (x = .non))) H) te (tC .non)) δ P := fun m H0 G0 E up σ H A Q q =>
  h m H0 G0 E up σ H A _ fun v d H1 p ⟨G, a⟩ => by
    refine ⟨rfl, q _ _ H1 p ⟨G, a.same ⟨a.ex.1, ?_⟩⟩⟩
    have r := a.ex.2
    cases r <;> exact .bl _
theorem we_notN {te : TE} (h : WE K sa te δ fun d => P (.bool (match d with | .none => false | _ => true))) : WE K sa (tOp (fun x y H Q => y = .non ∧ Q (.bl (!decide (x = .non))) H) te (tC .non)) δ P := fun m H0 G0 E up σ H A Q q =>
  h m H0 G0 E up σ H A _ fun v d H1 p ⟨G, a⟩ => by
    refine ⟨rfl, q _ _ H1 p ⟨G, a.same ⟨a.ex.1, ?_⟩⟩⟩
    have r := a.ex.2
    cases r <;> exact .bl _
/-- a < b < c -/
theorem we_chain {r r' : R2} {tc : TE} (h : WE K sa ta δ fun d => WE K sa tb δ fun e => ∀ (m : Bool) (H0 G0 : Hp) (E : Hp → Prop), Up E → ∀ (σ : L2.St) (H : Hp) (v w : V), At K m sa H0 G0 δ (fun G => E G ∧ Rp K G v d ∧ Rp K G w e) σ H → ∀ Q : VK, (∀ v d H', P d → At K m sa H0 G0 δ (fun G => E G ∧ Rp K G v d) σ H' → Q v H') → r v w H fun z H3 => ∃ k, z = .bl k ∧ if k = true then tc σ H3 fun u H4 => r' w u H4 Q else Q (.bl false) H3) :
    WE K sa (tChain r r' ta tb tc) δ P := fun m H0 G0 E up σ H A Q q =>
  h m H0 G0 E up σ H A _ fun v d H1 h1 A1 => h1 m H0 G0 _ (up_and up up_rp) σ H1 A1 _ fun w e H2 h2 A2 => h2 m H0 G0 E up σ H2 v w (A2.imp fun _ x => ⟨x.1.1, x.1.2, x.2⟩) Q q
/-- of whole numbers -/
theorem we_chainI {g g' : Int → Int → Bool} {tc : TE} (h : WE K sa ta δ fun d => ∃ i, d = .int i ∧ WE K sa tb δ fun e => ∃ j, e = .int j ∧ (g i j = true → WE K sa tc δ fun f => ∃ l, f = .int l ∧ P (.bool (g' j l))) ∧ (g i j = false → P (.bool false))) :
    WE K sa (tChain (rI0 fun i j => .bl (g i j)) (rI0 fun i j => .bl (g' i j)) ta tb tc) δ P := fun m H0 G0 E up σ H A Q q =>
  h m H0 G0 E up σ H A _ fun v d H1 ⟨i, e1, h1⟩ A1 => h1 m H0 G0 _ (up_and up up_rp) σ H1 A1 _ fun w e H2 ⟨j, e2, h2, h3⟩ ⟨G, a⟩ => by
    subst e1 e2
    refine ⟨i, j, a.ex.1.2.int_inv, a.ex.2.int_inv, g i j, rfl, ?_⟩
    cases hg : g i j with
    | true =>
      refine iteT (h2 hg m H0 G0 E up σ H2 ⟨G, a.same a.ex.1.1⟩ _ fun u f H3 ⟨l, e3, p⟩ ⟨G2, a2⟩ => ?_)
      subst e3
      exact ⟨j, l, a.ex.2.int_inv, a2.ex.2.int_inv, q _ _ H3 p ⟨G2, a2.same ⟨a2.ex.1, .bl _⟩⟩⟩
    | false => exact iteF (q _ _ H2 (h3 hg) ⟨G, a.same ⟨a.ex.1.1, .bl _⟩⟩)
theorem wt_chainI {g g' : Int → Int → Bool} {tc : TE} {P : Bool → Prop} (h : WE K sa ta δ fun d => ∃ i, d = .int i ∧ WE K sa tb δ fun e => ∃ j, e = .int j ∧ (g i j = true → WE K sa tc δ fun f => ∃ l, f = .int l ∧ P (g' j l)) ∧ (g i j = false → P false)) :
    WT K sa (tTest (tChain (rI0 fun i j => .bl (g i j)) (rI0 fun i j => .bl (g' i j)) ta tb tc)) δ P :=
  wt_test (we_chainI (h.imp fun d ⟨i, e, h1⟩ => ⟨i, e, h1.imp fun e' ⟨j, e2, h2, h3⟩ => ⟨j, e2, fun hg => (h2 hg).imp fun f ⟨l, e3, p⟩ => ⟨l, e3, _, rfl, p⟩, fun hg => ⟨_, rfl, h3 hg⟩⟩⟩))
end
end Dl

namespace Dl
open PySem PySem.Spec PyProof.Rows L2 DlP
/-! ### data without the script in it -/
mutual
def clean : D → Bool
  | .list ds => cleanAll ds
  | .tuple ds => cleanAll ds
  | .dict kvs => cleanKv kvs
  | .none => true
  | .bool _ => true
  | .int _ => true
  | .str _ => true
def cleanAll : List D → Bool
  | [] => true
  | d :: ds => clean d && cleanAll ds
def cleanKv : List (D × D) → Bool
  | [] => true
  | (.list _, _) :: _ => false
  | (_, v) :: r => clean v && cleanKv r
end
theorem clean_ne {d : D} (h : clean d = true) (ns : List Int) : d ≠ scrD ns := fun e => by
  subst e
  simp [scrD, clean, cleanKv] at h
theorem cleanAll_mem : ∀ {ds : List D}, cleanAll ds = true → ∀ d ∈ ds, clean d = true
  | d :: ds, h, x, hx => by
    have h' := (by simpa [cleanAll] using h : _ ∧ _)
    rcases List.mem_cons.mp hx with e | e
    · rw [e]; exact h'.1
    · exact cleanAll_mem h'.2 x e
  | [], _, _, hx => by cases hx
theorem cleanAll_of : ∀ {ds : List D}, (∀ d ∈ ds, clean d = true) → cleanAll ds = true
  | [], _ => rfl
  | d :: ds, h => by
    rw [cleanAll, h d (by simp), cleanAll_of fun x hx => h x (by simp [hx])]
    rfl
def isIntD : D → Bool | .int _ => true | .bool _ => true | _ => false
def isBoolD : D → Bool | .bool _ => true | _ => false
def isTupD : D → Bool | .tuple _ => true | _ => false
theorem kb_NoneType_int : kitB "NoneType" "int" = some false := by decide +kernel
theorem kb_bool_int : kitB "bool" "int" = some true := by decide +kernel
theorem kb_int_int : kitB "int" "int" = some true := by decide +kernel
theorem kb_str_int : kitB "str" "int" = some false := by decide +kernel
theorem kb_list_int : kitB "list" "int" = some false := by decide +kernel
theorem kb_tuple_int : kitB "tuple" "int" = some false := by decide +kernel
theorem kb_dict_int : kitB "dict" "int" = some false := by decide +kernel
theorem kit_isInt {K : PySem.W.Frag} : ∀ d : D, PySem.W.kitOne K (.type (tyD d)) (.type "int") = some (isIntD d)
  | .none => kit_ty kb_NoneType_int
  | .bool _ => kit_ty kb_bool_int
  | .int _ => kit_ty kb_int_int
  | .str _ => kit_ty kb_str_int
  | .list _ => kit_ty kb_list_int
  | .tuple _ => kit_ty kb_tuple_int
  | .dict _ => kit_ty kb_dict_int
theorem kb_NoneType_bool : kitB "NoneType" "bool" = some false := by decide +kernel
theorem kb_bool_bool : kitB "bool" "bool" = some true := by decide +kernel
theorem kb_int_bool : kitB "int" "bool" = some false := by decide +kernel
theorem kb_str_bool : kitB "str" "bool" = some false := by decide +kernel
theorem kb_list_bool : kitB "list" "bool" = some false := by decide +kernel
theorem kb_tuple_bool : kitB "tuple" "bool" = some false := by decide +kernel
theorem kb_dict_bool : kitB "dict" "bool" = some false := by decide +kernel
theorem kit_isBool {K : PySem.W.Frag} : ∀ d : D, PySem.W.kitOne K (.type (tyD d)) (.type "bool") = some (isBoolD d)
  | .none => kit_ty kb_NoneType_bool
  | .bool _ => kit_ty kb_bool_bool
  | .int _ => kit_ty kb_int_bool
  | .str _ => kit_ty kb_str_bool
  | .list _ => kit_ty kb_list_bool
  | .tuple _ => kit_ty kb_tuple_bool
  | .dict _ => kit_ty kb_dict_bool
theorem kb_NoneType_tuple : kitB "NoneType" "tuple" = some false := by decide +kernel
theorem kb_bool_tuple : kitB "bool" "tuple" = some false := by decide +kernel
theorem kb_int_tuple : kitB "int" "tuple" = some false := by decide +kernel
theorem kb_str_tuple : kitB "str" "tuple" = some false := by decide +kernel
theorem kb_list_tuple : kitB "list" "tuple" = some false := by decide +kernel
theorem kb_tuple_tuple : kitB "tuple" "tuple" = some true := by decide +kernel
theorem kb_dict_tuple : kitB "dict" "tuple" = some false := by decide +kernel
theorem kit_isTup {K : PySem.W.Frag} : ∀ d : D, PySem.W.kitOne K (.type (tyD d)) (.type "tuple") = some (isTupD d)
  | .none => kit_ty kb_NoneType_tuple
  | .bool _ => kit_ty kb_bool_tuple
  | .int _ => kit_ty kb_int_tuple
  | .str _ => kit_ty kb_str_tuple
  | .list _ => kit_ty kb_list_tuple
  | .tuple _ => kit_ty kb_tuple_tuple
  | .dict _ => kit_ty kb_dict_tuple
section
variable {K : Fg} {sa : Option Addr} {δ : List Cell} {te : TE} {P : D → Prop}
theorem we_isInt (h : WE K sa te δ fun d => clean d = true ∧ P (.bool (isIntD d))) : WE K sa (tCB (rIsi K) (tCons te (tCons (tC (.ty "int")) tNil))) δ P :=
  we_isi (h.imp fun d p => ⟨clean_ne p.1, isIntD d, kit_isInt d, p.2⟩)
theorem we_isBool (h : WE K sa te δ fun d => clean d = true ∧ P (.bool (isBoolD d))) : WE K sa (tCB (rIsi K) (tCons te (tCons (tC (.ty "bool")) tNil))) δ P :=
  we_isi (h.imp fun d p => ⟨clean_ne p.1, isBoolD d, kit_isBool d, p.2⟩)
theorem we_isTup (h : WE K sa te δ fun d => clean d = true ∧ P (.bool (isTupD d))) : WE K sa (tCB (rIsi K) (tCons te (tCons (tC (.ty "tuple")) tNil))) δ P :=
  we_isi (h.imp fun d p => ⟨clean_ne p.1, isTupD d, kit_isTup d, p.2⟩)
theorem inV_ints (i : Int) : ∀ ns : List Int, inV (.int i) (ns.map V.int) = ns.contains i
  | [] => rfl
  | n :: ns => by
    have ih := inV_ints i ns
    unfold inV at ih ⊢
    rw [List.map_cons, List.any_cons, ih, List.contains_cons]
    have e : eqV (.int n) (.int i) = (i == n) := by
      show (n == i) = (i == n)
      exact Bool.beq_comm
    rw [e]
theorem flat_ints (ns : List Int) : (ns.map V.int).all flatV = true := by
  rw [List.all_eq_true]
  intro x hx
  obtain ⟨n, _, rfl⟩ := List.mem_map.mp hx
  rfl
/-- a whole number in a tuple of the module -/
theorem we_inC {a : Addr} {ns : List Int} {vs : List V} (ha : SqT K (fun _ => none) a vs) (hv : vs = ns.map V.int) (h : WE K sa te δ fun d => ∃ i, d = .int i ∧ P (.bool (ns.contains i))) : WE K sa (tOp (rIn K false) te (tC (.ref a))) δ P := fun m H0 G0 E up σ H A Q q =>
  h m H0 G0 E up σ H A _ fun v d H1 hp hG => by
    obtain ⟨i, e, p⟩ := hp
    obtain ⟨G, a1⟩ := hG
    subst e
    subst hv
    have ev := a1.ex.2.int_inv
    subst ev
    refine ⟨a, _, rfl, .inr (sqT_mono (fun b o e => by cases e) ha), rfl, flat_ints ns, ?_⟩
    rw [inV_ints]
    exact q _ _ H1 p ⟨G, a1.same ⟨a1.ex.1, .bl _⟩⟩
/-- .. in a tuple that is made on the way, in a list or a tuple of whole numbers -/
theorem ow_inI {i : Int} {ns : List Int} {d : D} (hd : SeqD d (ns.map PyData.int)) (p : P (.bool (ns.contains i))) : OW K sa (rIn K false) (.int i) d P :=
  ow_at (z := .bl (ns.contains i)) (fun _ => .bl _) p fun G H v w Q s r1 r2 q => by
    have ev := r1.int_inv
    subst ev
    rcases hd with e | e
    · subst e
      obtain ⟨a, xs, e2, hs, rx⟩ := r2.lst_inv
      have ex := rx.ints
      subst ex
      exact ⟨a, _, e2, .inl (.inl (.inl (s _ _ hs))), rfl, flat_ints ns, by rw [inV_ints]; exact q⟩
    · subst e
      obtain ⟨a, xs, e2, hs, rx⟩ := r2.tup_inv
      have ex := rx.ints
      subst ex
      exact ⟨a, _, e2, .inr (sqT_mono s hs), rfl, flat_ints ns, by rw [inV_ints]; exact q⟩
theorem ow_notInI {i : Int} {ns : List Int} {d : D} (hd : SeqD d (ns.map PyData.int)) (p : P (.bool (!ns.contains i))) : OW K sa (rIn K true) (.int i) d P :=
  ow_at (z := .bl (!ns.contains i)) (fun _ => .bl _) p fun G H v w Q s r1 r2 q => by
    have ev := r1.int_inv
    subst ev
    rcases hd with e | e
    · subst e
      obtain ⟨a, xs, e2, hs, rx⟩ := r2.lst_inv
      have ex := rx.ints
      subst ex
      exact ⟨a, _, e2, .inl (.inl (.inl (s _ _ hs))), rfl, flat_ints ns, by rw [inV_ints]; exact q⟩
    · subst e
      obtain ⟨a, xs, e2, hs, rx⟩ := r2.tup_inv
      have ex := rx.ints
      subst ex
      exact ⟨a, _, e2, .inr (sqT_mono s hs), rfl, flat_ints ns, by rw [inV_ints]; exact q⟩
theorem cw_gcd {i j : Int} (p : P (.int ((Nat.gcd i.natAbs j.natAbs : Nat) : Int))) : CW K sa rGcd [.int i, .int j] P :=
  cw_at (fun _ => .int _) p fun G H vs Q _ r q => by
    obtain ⟨v, w, e, rv, rw'⟩ := r.two
    exact ⟨i, j, by rw [e, rv.int_inv, rw'.int_inv], q⟩
end
/-! ### comprehensions, told by a function -/
theorem fm_map {f : D → D} {ds es : List D} (h : FM (fun d o => o = some (f d)) ds es) : es = ds.map f := by
  induction h with
  | nil => rfl
  | yes _ r ih => rw [ih, List.map_append]; cases r; rfl
  | no _ r _ => cases r
theorem fm_filter {t : D → Bool} {f : D → D} {ds es : List D} (h : FM (fun d o => o = if t d = true then some (f d) else none) ds es) : es = (ds.filter t).map f := by
  induction h with
  | nil => rfl
  | @yes d e ds es _ r ih =>
    rw [ih, List.filter_append, List.map_append]
    cases ht : t d with
    | true => rw [if_pos ht] at r; cases r; simp [ht]
    | false => rw [ht, if_neg Bool.false_ne_true] at r; cases r
  | @no d ds es _ r ih =>
    rw [ih, List.filter_append, List.map_append]
    cases ht : t d with
    | true => rw [if_pos ht] at r; cases r
    | false => simp [ht]
theorem fm_rel {R : D → D → Prop} {ds es : List D} (h : FM (fun d o => ∃ e, o = some e ∧ R d e) ds es) : es.length = ds.length ∧ ∀ (i : Nat) (d e : D), ds[i]? = some d → es[i]? = some e → R d e := by
  induction h with
  | nil => exact ⟨rfl, fun i d e h => by simp at h⟩
  | @yes d e ds es _ r ih =>
    obtain ⟨e', e1, r⟩ := r
    cases e1
    refine ⟨by rw [List.length_append, List.length_append, ih.1]; rfl, fun i d' e' h1 h2 => ?_⟩
    by_cases hi : i < ds.length
    · rw [List.getElem?_append_left hi] at h1
      rw [List.getElem?_append_left (by rw [ih.1]; exact hi)] at h2
      exact ih.2 i d' e' h1 h2
    · rw [List.getElem?_append_right (by omega)] at h1
      rw [List.getElem?_append_right (by omega), ih.1] at h2
      cases hk : i - ds.length with
      | zero => rw [hk] at h1 h2; cases h1; cases h2; exact r
      | succ n => rw [hk] at h1; simp at h1
  | no _ r _ => obtain ⟨_, e, _⟩ := r; cases e
section
variable {K : Fg} {sa : Option Addr} {δ : List Cell} {te : TE} {tt : TT}
theorem wt_yes {P : Bool → Prop} (p : P true) : WT K sa tYes δ P := fun m H0 G0 E up σ H A Q q => q _ _ p A
theorem wf_map {wi : TI} {g : TG} {vs : List Nat} {P : List D → Prop} (f : D → D) (h : WJ K sa false wi δ fun ds => ds.length ≤ sizeLine ∧ (∀ (i : Nat) (d : D), ds[i]? = some d → WGv K sa vs g (wipeC δ vs) d fun δ2 => WE K sa te δ2 fun e => e = f d) ∧ P (ds.map f)) :
    WF K sa (tLc wi g tYes te vs) δ P := wf_lc fun m H0 G0 E up σ H A R q => h m H0 G0 E up σ H A R fun J ds H1 G1 Stay ⟨hz, step, p⟩ a I sx ss => q J ds H1 G1 Stay ⟨hz, fun d o => o = some (f d), fun i d hd =>
      fun m H0 G0 E up σ H v A Q q => step i d hd m H0 G0 E up σ H v A Q fun δ2 σ2 w => q δ2 σ2 (wt_yes ⟨fun _ => w.imp fun e he => by rw [he], fun z => nomatch z⟩), fun es fm => by rw [fm_map fm]; exact p⟩ a I sx ss
theorem wf_filter {wi : TI} {g : TG} {vs : List Nat} {P : List D → Prop} (t : D → Bool) (f : D → D) (h : WJ K sa false wi δ fun ds => ds.length ≤ sizeLine ∧ (∀ (i : Nat) (d : D), ds[i]? = some d → WGv K sa vs g (wipeC δ vs) d fun δ2 => WT K sa tt δ2 fun b => b = t d ∧ (b = true → WE K sa te δ2 fun e => e = f d)) ∧ P ((ds.filter t).map f)) :
    WF K sa (tLc wi g tt te vs) δ P := wf_lc fun m H0 G0 E up σ H A R q => h m H0 G0 E up σ H A R fun J ds H1 G1 Stay ⟨hz, step, p⟩ a I sx ss => q J ds H1 G1 Stay ⟨hz, fun d o => o = if t d = true then some (f d) else none, fun i d hd =>
      fun m H0 G0 E up σ H v A Q q => step i d hd m H0 G0 E up σ H v A Q fun δ2 σ2 w => q δ2 σ2 (w.imp fun b ⟨hb, we⟩ => ⟨fun z => (we z).imp fun e he => by show some e = _; rw [← hb, if_pos z, he], fun z => by show none = _; rw [← hb, z, if_neg Bool.false_ne_true]⟩), fun es fm => by rw [fm_filter fm]; exact p⟩ a I sx ss
theorem wf_rel {wi : TI} {g : TG} {vs : List Nat} {P : List D → Prop} (h : WJ K sa false wi δ fun ds => ds.length ≤ sizeLine ∧ ∃ R : D → D → Prop, (∀ (i : Nat) (d : D), ds[i]? = some d → WGv K sa vs g (wipeC δ vs) d fun δ2 => WE K sa te δ2 fun e => R d e) ∧
      ∀ es, es.length = ds.length → (∀ (i : Nat) (d e : D), ds[i]? = some d → es[i]? = some e → R d e) → P es) :
    WF K sa (tLc wi g tYes te vs) δ P := wf_lc fun m H0 G0 E up σ H A R q => h m H0 G0 E up σ H A R fun J ds H1 G1 Stay ⟨hz, R', step, p⟩ a I sx ss => q J ds H1 G1 Stay ⟨hz, fun d o => ∃ e, o = some e ∧ R' d e, fun i d hd =>
      fun m H0 G0 E up σ H v A Q q => step i d hd m H0 G0 E up σ H v A Q fun δ2 σ2 w => q δ2 σ2 (wt_yes ⟨fun _ => w.imp fun e he => ⟨e, rfl, he⟩, fun z => nomatch z⟩), fun es fm => p es (fm_rel fm).1 (fm_rel fm).2⟩ a I sx ss
end
end Dl

namespace Dl
open PySem PySem.Spec PyProof.Rows L2 DlP
/-! ### rules that name the fragment, so that a comprehension's parts don't hang on its scope -/
section
variable {X : Cx} {K : Fg} (hk : X.K = K)
include hk
theorem op_addUK : OpR X (binaryOp .Add) (rAddU K) := by subst hk; exact op_addU
theorem op_mulUK : OpR X (binaryOp .Mult) (rMulU K) := by subst hk; exact op_mulU
theorem op_eqUK (hu : X.A.units + 64 < cLine) : OpR X (compareOp .Eq) (rEqU K) := by subst hk; exact op_eqU hu
theorem op_neUK (hu : X.A.units + 64 < cLine) : OpR X (compareOp .NotEq) (rNeU K) := by subst hk; exact op_neU hu
theorem sl_anyK : SlR X (rSlU K) := by subst hk; exact sl_any
theorem ix_seqK : IxR X (rIx K) := by subst hk; exact ix_seq
theorem op_in_seqK : OpR X (compareOp .In) (rIn K false) := by subst hk; exact op_in_seq
theorem op_notIn_seqK : OpR X (compareOp .NotIn) (rIn K true) := by subst hk; exact op_notIn_seq
theorem call_lenK : CallR X (.builtin "len") (fun xs H Q => ∃ x n, xs = [x] ∧ LenV K x H n ∧ Q (.int n) H) := by subst hk; exact call_len
theorem cr_sumK (hc : X.calm = true) : CallR X (.builtin "sum") (rSum K) := by subst hk; exact cr_sum hc
theorem cr_allK (hc : X.calm = true) : CallR X (.builtin "all") (rAll K) := by subst hk; exact cr_all hc
theorem call_anyUK (hc : X.calm = true) : CallR X (.builtin "any") (rAnyU K) := by subst hk; exact call_anyU hc
theorem cr_sortedK : CallR X (.builtin "sorted") (rSorted K) := by subst hk; exact cr_sorted
theorem call_reprUK (hu : X.A.units + 64 < cLine) (hgd : X.A.guards = some []) : CallR X (.builtin "repr") (rRepr K) := by subst hk; exact call_reprU hu hgd
theorem call_isiK : CallR X (.builtin "isinstance") (rIsi K) := by subst hk; exact call_isi
theorem call_tuple_ofK : CallR X (.type "tuple") (fun xs H Q => ∃ p ys, xs = [.ref p] ∧ ((SqL K H p ys ∧ ∀ l, H l = none → Q (.ref l) (upd H l (.tup ys))) ∨ (SqT K H p ys ∧ Q (.ref p) H))) := by subst hk; exact call_tuple_of
theorem call_list_ofK : CallR X (.type "list") (fun xs H Q => ∃ p ys, xs = [.ref p] ∧ (SqL K H p ys ∨ SqT K H p ys) ∧ ∀ l, H l = none → Q (.ref l) (upd H l (.lst ys))) := by subst hk; exact call_list_of
theorem pi_seqK {tg : Expr} {l : Expr} {tl : TE} (hl : PE X l tl) : PI X tg l (iSeq K tl) := by subst hk; exact pi_seq hl
end
theorem pg_tupK {X : Cx} {K : Fg} (hk : X.K = K) {pos : Pos} {es : List Expr} {k : Nat} {t : TGs} {n : Nat} (hc : X.calm = true) (h : PGs X es t)
    (hn : (assignEach es X.env).length = n := by rfl) (hst : (assignEach es X.env).findIdx? (·.1) = none := by rfl) : PG X (.Tuple es k pos) (gTup K n t) := by subst hk; exact pg_tup hc h hn hst
theorem pi_zipUK {X : Cx} {K : Fg} (hk : X.K = K) {e e2 : Expr} {ta : TA} {p pos tpos : Pos} {elts : List Expr} {kk : Nat} (hg : Gl X "zip") (hm : X.mg "zip" = none) (ha : PA X [e, e2] ta)
    (hs : starEach [e, e2] X.env = (false, eval e X.env) :: starEach [e2] X.env := by rfl) (hpl : (backTo pos (starEach [e2] X.env)).any (·.1) = false := by rfl) :
    PI X (.Tuple elts kk tpos) (.Call (.Name "zip" p) [e, e2] [] pos) (iZipU K ta) := by subst hk; exact pi_zipU hg hm ha hs hpl
theorem pi_enumUK {X : Cx} {K : Fg} (hk : X.K = K) {e : Expr} {ta : TA} {p pos tpos : Pos} {elts : List Expr} {kk : Nat} (hg : Gl X "enumerate") (hm : X.mg "enumerate" = none) (ha : PA X [e] ta) (hs : starEach [e] X.env = [(false, eval e X.env)] := by rfl) :
    PI X (.Tuple elts kk tpos) (.Call (.Name "enumerate" p) [e] [] pos) (iEnumU K ta) := by subst hk; exact pi_enumU hg hm ha hs
def CDivL (_ j : Int) : Prop := j ≠ 0 ∧ j.natAbs.log2 < 9000
theorem op_fdivL {X : Cx} : OpR X (binaryOp .FloorDiv) (rI CDivL fun i j => .int (i.fdiv j)) := opI fun _ _ _ _ _ _ _ hc q => floordiv_int hc.1 q (.inl (PyProof.noPylong_of_log2 hc.2))
theorem cdivL {i j : Int} (h0 : j ≠ 0) (h1 : j.natAbs < 2 ^ 62) : CDivL i j := ⟨h0, Nat.lt_trans ((Nat.log2_lt (by omega)).mpr h1) (by decide)⟩
theorem ow_fdivL {K : Fg} {sa : Option Addr} {P : D → Prop} {i j : Int} (c : CDivL i j) (p : P (.int (i.fdiv j))) : OW K sa (rI CDivL fun i j => .int (i.fdiv j)) (.int i) (.int j) P := ow_Ii c p
theorem szl {n : Nat} (h : n ≤ 16777216) : n ≤ sizeLine := by rw [sizeLine_eq]; exact h
theorem szlt {n : Nat} (h : n < 16777216) : n < sizeLine := by rw [sizeLine_eq]; exact h
theorem cw_allT {K : Fg} {sa : Option Addr} {α : Type} {as : List α} {P : D → Prop} (p : P (.bool true)) : CW K sa (rAll K) [.list (as.map fun _ => PyData.bool true)] P := by
  have e : as.map (fun _ => PyData.bool true) = (as.map fun _ => true).map PyData.bool := by rw [List.map_map]; rfl
  rw [e]
  refine cw_all ?_
  have e2 : (as.map fun _ => true).all id = true := by simp
  rw [e2]
  exact p
theorem or_cases {b : Bool} {A B : Prop} (h1 : b = false → A) (h2 : b = true → B) : (b = false → A) ∧ (b = true → B) := ⟨h1, h2⟩
theorem ex_two {x y : D} {P : D → D → Prop} (h : P x y) : ∃ d e, [x, y] = [d, e] ∧ P d e := ⟨x, y, rfl, h⟩
theorem ex_oneI {x : Int} {P : Int → Prop} (h : P x) : ∃ i, [PyData.int x] = [.int i] ∧ P i := ⟨x, rfl, h⟩
section
variable {K : Fg} {sa : Option Addr} {δ : List Cell} {P : D → Prop}
/-- tuple(xs), xs one's own -/
theorem we_tupOwn {i : Nat} {ds : List D} (hi : δ[i]? = some (.own ds)) (p : P (.tuple ds)) :
    WE K sa (tCB (fun xs H Q => ∃ p ys, xs = [.ref p] ∧ ((SqL K H p ys ∧ ∀ l, H l = none → Q (.ref l) (upd H l (.tup ys))) ∨ (SqT K H p ys ∧ Q (.ref p) H))) (tCons (tVar i) tNil)) δ P := fun m H0 G0 E up σ H ⟨G, a⟩ Q q => by
  obtain ⟨o, e, b, xs, ev, hb, gp, ne, rx, hm⟩ := a.slot hi
  subst ev
  exact ⟨_, e, b, xs, rfl, .inl ⟨.inl (.inl hb), fun l hl => at_newTup up ⟨G, a.same ⟨a.ex, rx⟩⟩ p q hl⟩⟩
end
theorem list_of_get {α : Type} (f : α → D) (Q : α → Prop) : ∀ (es : List D), (∀ (i : Nat) (e : D), es[i]? = some e → ∃ a, e = f a ∧ Q a) → ∃ as : List α, es = as.map f ∧ ∀ a ∈ as, Q a
  | [], _ => ⟨[], rfl, fun _ h => nomatch h⟩
  | e :: es, h => by
    obtain ⟨a, ea, qa⟩ := h 0 e rfl
    obtain ⟨as, eas, qas⟩ := list_of_get f Q es fun i e he => h (i + 1) e (by simpa using he)
    refine ⟨a :: as, by rw [ea, eas]; rfl, fun x hx => ?_⟩
    rcases List.mem_cons.mp hx with z | z
    · subst z; exact qa
    · exact qas x z
theorem of_rel {α : Type} {f : α → D} {Q : α → Prop} {ds es : List D} (hl : es.length = ds.length) (h : ∀ (i : Nat) (d e : D), ds[i]? = some d → es[i]? = some e → ∃ a, e = f a ∧ Q a) : ∃ as : List α, es = as.map f ∧ as.length = ds.length ∧ ∀ a ∈ as, Q a := by
  obtain ⟨as, e, q⟩ := list_of_get f Q es fun i e he => by
    have hi : i < ds.length := by rw [← hl]; exact (List.getElem?_eq_some_iff.mp he).1
    exact h i ds[i] e (List.getElem?_eq_getElem hi) he
  refine ⟨as, e, ?_, q⟩
  rw [← hl, e, List.length_map]
def dot (l r : List Int) : Int := (List.zipWith (· * ·) l r).sum
def mulD : D → D | .tuple [.int x, .int y] => .int (x * y) | _ => .none
theorem zip_mul : ∀ l r : List Int, (zipD (l.map PyData.int) (r.map PyData.int)).map mulD = (List.zipWith (· * ·) l r).map PyData.int
  | [], _ => rfl
  | _ :: _, [] => rfl
  | x :: l, y :: r => by
    show mulD _ :: (zipD (l.map PyData.int) (r.map PyData.int)).map mulD = _
    rw [zip_mul l r]
    rfl
theorem mem_ints {ns : List Int} {i : Nat} {d : D} (h : (ns.map PyData.int)[i]? = some d) : ∃ x ∈ ns, d = .int x := by
  have hm := List.mem_of_getElem? h
  obtain ⟨x, hx, rfl⟩ := List.mem_map.mp hm
  exact ⟨x, hx, rfl⟩
theorem get_map {α : Type} {f : α → D} {as : List α} {i : Nat} {d : D} (h : (as.map f)[i]? = some d) : ∃ a, as[i]? = some a ∧ d = f a := by
  rw [List.getElem?_map] at h
  cases z : as[i]? with
  | none => rw [z] at h; cases h
  | some a => rw [z] at h; cases h; exact ⟨a, rfl, rfl⟩
theorem replI (n : Nat) (d : D) : (List.replicate n [d]).flatten = List.replicate n d := by
  induction n with
  | zero => rfl
  | succ n ih => rw [List.replicate_succ, List.flatten_cons, ih, List.replicate_succ]; rfl
section
variable {K : Fg} {sa : Option Addr} {δ : List Cell} {P : D → Prop} {ta : TA} {tb : TE}
theorem we_lst (h : WA K sa ta δ fun ds => ds.length ≤ sizeLine ∧ P (.list ds)) : WE K sa (tLst ta) δ P := we_fresh (wf_lst h)
theorem we_tup2 {tb : TE} {tc : TE} (h : WE K sa tb δ fun d => WE K sa tc δ fun e => P (.tuple [d, e])) : WE K sa (tTup (tCons tb (tCons tc tNil))) δ P :=
  we_tup (wa_cons (h.imp fun d w => wa_cons (w.imp fun e p => wa_nil ⟨szl (by simp), p⟩)))
theorem we_tup1 {tb : TE} (h : WE K sa tb δ fun d => P (.tuple [d])) : WE K sa (tTup (tCons tb tNil)) δ P :=
  we_tup (wa_cons (h.imp fun d p => wa_nil ⟨szl (by simp), p⟩))
theorem WA.imp {P P' : List D → Prop} (h : WA K sa ta δ P') (k : ∀ d, P' d → P d) : WA K sa ta δ P := fun m H0 G0 E up σ H A Q q => h m H0 G0 E up σ H A Q fun d ds H1 p a => q d ds H1 (k ds p) a
theorem WF.imp {te : TE} {P P' : List D → Prop} (h : WF K sa te δ P') (k : ∀ d, P' d → P d) : WF K sa te δ P := fun m H0 G0 E up σ H A Q q => h m H0 G0 E up σ H A Q fun p vs ds H1 pp => q p vs ds H1 (k ds pp)
theorem we_catLc {wi : TI} {g : TG} {tt : TT} {te : TE} {vs : List Nat} (h : WE K sa tb δ fun d => ∃ ds, d = .list ds ∧ WF K sa (tLc wi g tt te vs) δ fun es => ds.length + es.length ≤ sizeLine ∧ P (.list (ds ++ es))) : WE K sa (tOp (rAddU K) tb (tLc wi g tt te vs)) δ P :=
  we_fresh (wf_catU (h.imp fun d ⟨ds, e, w⟩ => ⟨ds, e, we_fresh (w.imp fun es ⟨z, p⟩ => ⟨es, rfl, z, p⟩)⟩))
theorem we_repL (h : WA K sa ta δ fun ds => ds.length ≤ sizeLine ∧ WE K sa tb δ fun e => ∃ k : Int, e = .int k ∧ (-(2 ^ 63) ≤ k ∧ k < 2 ^ 63) ∧ ds.length * k.toNat ≤ sizeLine ∧ P (.list (List.replicate k.toNat ds).flatten)) : WE K sa (tOp (rMulU K) (tLst ta) tb) δ P :=
  we_fresh (wf_repU (we_lst (h.imp fun ds ⟨z, w⟩ => ⟨z, ds, rfl, w⟩)))
end
end Dl

namespace Lw
open PySem PySem.Spec PyProof.Rows L2 DlP Dl
def topS (i : Nat) : Stmt := PySem.Challenge.pw_evennets_k05_whole_points_and_places.main.body.getD i (.Pass ⟨0, 0, 0, 0⟩)
abbrev s_row_times : Stmt := topS 7
theorem sc_row_times : FnScope ["base", "row", "other", "left", "right"] ["base", "row", "other"] (defScope s_row_times) := ⟨rfl, rfl, rfl, by decide +kernel, rfl, by decide +kernel, by decide +kernel⟩
abbrev s_is_whole : Stmt := topS 9
theorem sc_is_whole : FnScope ["value"] ["value"] (defScope s_is_whole) := ⟨rfl, rfl, rfl, by decide +kernel, rfl, by decide +kernel, by decide +kernel⟩
abbrev s_power : Stmt := topS 10
theorem sc_power : FnScope ["number", "exponent", "answer", "_"] ["number", "exponent"] (defScope s_power) := ⟨rfl, rfl, rfl, by decide +kernel, rfl, by decide +kernel, by decide +kernel⟩
abbrev s_reduced : Stmt := topS 11
theorem sc_reduced : FnScope ["above", "below", "common"] ["above", "below"] (defScope s_reduced) := ⟨rfl, rfl, rfl, by decide +kernel, rfl, by decide +kernel, by decide +kernel⟩
abbrev s_is_base : Stmt := topS 14
theorem sc_is_base : FnScope ["value"] ["value"] (defScope s_is_base) := ⟨rfl, rfl, rfl, by decide +kernel, rfl, by decide +kernel, by decide +kernel⟩
abbrev s_is_figure : Stmt := topS 15
theorem sc_is_figure : FnScope ["base", "value"] ["base", "value"] (defScope s_is_figure) := ⟨rfl, rfl, rfl, by decide +kernel, rfl, by decide +kernel, by decide +kernel⟩
abbrev s_is_row : Stmt := topS 16
theorem sc_is_row : FnScope ["base", "value", "least", "most", "one"] ["base", "value", "least", "most"] (defScope s_is_row) := ⟨rfl, rfl, rfl, by decide +kernel, rfl, by decide +kernel, by decide +kernel⟩
abbrev s_is_table : Stmt := topS 22
theorem sc_is_table : FnScope ["base", "value", "row"] ["base", "value"] (defScope s_is_table) := ⟨rfl, rfl, rfl, by decide +kernel, rfl, by decide +kernel, by decide +kernel⟩
abbrev s_is_of_size : Stmt := topS 23
theorem sc_is_of_size : FnScope ["table", "depth", "width"] ["table", "depth", "width"] (defScope s_is_of_size) := ⟨rfl, rfl, rfl, by decide +kernel, rfl, by decide +kernel, by decide +kernel⟩
abbrev s_are_tables : Stmt := topS 24
theorem sc_are_tables : FnScope ["base", "value", "depth", "width", "table"] ["base", "value"] (defScope s_are_tables) := ⟨rfl, rfl, rfl, by decide +kernel, rfl, by decide +kernel, by decide +kernel⟩
abbrev s_is_net : Stmt := topS 25
theorem sc_is_net : FnScope ["value", "base", "tables"] ["value"] (defScope s_is_net) := ⟨rfl, rfl, rfl, by decide +kernel, rfl, by decide +kernel, by decide +kernel⟩
abbrev s_check_net : Stmt := topS 26
theorem sc_check_net : FnScope ["net"] ["net"] (defScope s_check_net) := ⟨rfl, rfl, rfl, by decide +kernel, rfl, by decide +kernel, by decide +kernel⟩
abbrev s_width_of : Stmt := topS 27
theorem sc_width_of : FnScope ["net"] ["net"] (defScope s_width_of) := ⟨rfl, rfl, rfl, by decide +kernel, rfl, by decide +kernel, by decide +kernel⟩
abbrev s_check_start : Stmt := topS 28
theorem sc_check_start : FnScope ["net", "start", "width"] ["net", "start"] (defScope s_check_start) := ⟨rfl, rfl, rfl, by decide +kernel, rfl, by decide +kernel, by decide +kernel⟩
abbrev s_start_at : Stmt := topS 29
theorem sc_start_at : FnScope ["base", "width", "number", "figures", "_"] ["base", "width", "number"] (defScope s_start_at) := ⟨rfl, rfl, rfl, by decide +kernel, rfl, by decide +kernel, by decide +kernel⟩
abbrev s_point_at : Stmt := topS 30
theorem sc_point_at : FnScope ["net", "start", "base", "tables", "table", "row"] ["net", "start"] (defScope s_point_at) := ⟨rfl, rfl, rfl, by decide +kernel, rfl, by decide +kernel, by decide +kernel⟩
abbrev s_fraction_of : Stmt := topS 31
theorem sc_fraction_of : FnScope ["base", "figures", "above", "figure"] ["base", "figures"] (defScope s_fraction_of) := ⟨rfl, rfl, rfl, by decide +kernel, rfl, by decide +kernel, by decide +kernel⟩
abbrev s_point_of : Stmt := topS 32
theorem sc_point_of : FnScope ["net", "start"] ["net", "start"] (defScope s_point_of) := ⟨rfl, rfl, rfl, by decide +kernel, rfl, by decide +kernel, by decide +kernel⟩
abbrev s_place_of : Stmt := topS 33
theorem sc_place_of : FnScope ["net", "start", "figures"] ["net", "start"] (defScope s_place_of) := ⟨rfl, rfl, rfl, by decide +kernel, rfl, by decide +kernel, by decide +kernel⟩
abbrev s_points_of : Stmt := topS 34
theorem sc_points_of : FnScope ["net", "base", "width", "many", "number"] ["net"] (defScope s_points_of) := ⟨rfl, rfl, rfl, by decide +kernel, rfl, by decide +kernel, by decide +kernel⟩
abbrev s__law_spring : Stmt := topS 36
theorem sc__law_spring : FnScope ["script", "turn", "salt", "seed", "each", "cell"] ["script", "turn", "salt"] (defScope s__law_spring) := ⟨rfl, rfl, rfl, by decide +kernel, rfl, by decide +kernel, by decide +kernel⟩
abbrev s__law_draw : Stmt := topS 37
theorem sc__law_draw : FnScope ["spring", "many", "digit"] ["spring", "many"] (defScope s__law_draw) := ⟨rfl, rfl, rfl, by decide +kernel, rfl, by decide +kernel, by decide +kernel⟩
abbrev s__law_pick : Stmt := topS 38
theorem sc__law_pick : FnScope ["spring", "some"] ["spring", "some"] (defScope s__law_pick) := ⟨rfl, rfl, rfl, by decide +kernel, rfl, by decide +kernel, by decide +kernel⟩
abbrev s__law_power : Stmt := topS 39
theorem sc__law_power : FnScope ["p", "many", "worth", "turn"] ["p", "many"] (defScope s__law_power) := ⟨rfl, rfl, rfl, by decide +kernel, rfl, by decide +kernel, by decide +kernel⟩
abbrev s__law_most : Stmt := topS 40
theorem sc__law_most : FnScope ["p", "top", "turn", "many", "worth"] ["p", "top"] (defScope s__law_most) := ⟨rfl, rfl, rfl, by decide +kernel, rfl, by decide +kernel, by decide +kernel⟩
abbrev s__law_times : Stmt := topS 41
theorem sc__law_times : FnScope ["p", "left", "right", "x", "y"] ["p", "left", "right"] (defScope s__law_times) := ⟨rfl, rfl, rfl, by decide +kernel, rfl, by decide +kernel, by decide +kernel⟩
abbrev s__law_starts : Stmt := topS 42
theorem sc__law_starts : FnScope ["p", "m", "rows", "turn", "later", "fig", "row"] ["p", "m"] (defScope s__law_starts) := ⟨rfl, rfl, rfl, by decide +kernel, rfl, by decide +kernel, by decide +kernel⟩
abbrev s__law_line : Stmt := topS 43
theorem sc__law_line : FnScope ["spring", "p", "m", "turn"] ["spring", "p", "m"] (defScope s__law_line) := ⟨rfl, rfl, rfl, by decide +kernel, rfl, by decide +kernel, by decide +kernel⟩
abbrev s__law_table : Stmt := topS 44
theorem sc__law_table : FnScope ["spring", "p", "deep", "m", "few", "j", "way", "rows", "c"] ["spring", "p", "deep", "m"] (defScope s__law_table) := ⟨rfl, rfl, rfl, by decide +kernel, rfl, by decide +kernel, by decide +kernel⟩
abbrev s__law_net : Stmt := topS 45
theorem sc__law_net : FnScope ["spring", "top", "walk", "p", "deep", "many", "m", "room", "turn"] ["spring", "top", "walk"] (defScope s__law_net) := ⟨rfl, rfl, rfl, by decide +kernel, rfl, by decide +kernel, by decide +kernel⟩
abbrev s__law_large_net : Stmt := topS 46
theorem sc__law_large_net : FnScope ["spring", "p", "m", "deep", "many", "turn"] ["spring"] (defScope s__law_large_net) := ⟨rfl, rfl, rfl, by decide +kernel, rfl, by decide +kernel, by decide +kernel⟩
abbrev s__law_point : Stmt := topS 47
theorem sc__law_point : FnScope ["web", "begin", "found", "table", "row"] ["web", "begin"] (defScope s__law_point) := ⟨rfl, rfl, rfl, by decide +kernel, rfl, by decide +kernel, by decide +kernel⟩
abbrev s__law_points : Stmt := topS 48
theorem sc__law_points : FnScope ["web", "begin"] ["web"] (defScope s__law_points) := ⟨rfl, rfl, rfl, by decide +kernel, rfl, by decide +kernel, by decide +kernel⟩
abbrev s__law_place : Stmt := topS 49
theorem sc__law_place : FnScope ["p", "line", "fig", "turn", "worth", "low"] ["p", "line"] (defScope s__law_place) := ⟨rfl, rfl, rfl, by decide +kernel, rfl, by decide +kernel, by decide +kernel⟩
abbrev s__law_is_told : Stmt := topS 50
theorem sc__law_is_told : FnScope ["web", "begin", "point", "due", "line"] ["web", "begin", "point"] (defScope s__law_is_told) := ⟨rfl, rfl, rfl, by decide +kernel, rfl, by decide +kernel, by decide +kernel⟩
abbrev s_law : Stmt := topS 51
theorem sc_law : FnScope ["script", "turn", "spring", "web", "again", "large", "begin", "points", "starts", "k"] ["script"] (defScope s_law) := ⟨rfl, rfl, rfl, by decide +kernel, rfl, by decide +kernel, by decide +kernel⟩
structure Bi (K : Fg) (mg : Str → Option Value) : Prop where
  z_abs : mg "abs" = none
  z_all : mg "all" = none
  z_bool : mg "bool" = none
  z_int : mg "int" = none
  z_isinstance : mg "isinstance" = none
  z_len : mg "len" = none
  z_max : mg "max" = none
  z_min : mg "min" = none
  z_range : mg "range" = none
  z_repr : mg "repr" = none
  z_sum : mg "sum" = none
  z_tuple : mg "tuple" = none
  z_zip : mg "zip" = none
  m_gcd : mg "gcd" = some (.builtin "math.gcd")
  c_BASES : ∃ a : Addr, mg "BASES" = some (.ref a) ∧ SqT K (fun _ => none) a [.int 2, .int 3, .int 5, .int 7]
  c_MOST_DIMENSIONS : ∃ t : Tok, mg "MOST_DIMENSIONS" = some (.int 6 t)
  c_MOST_DEPTH : ∃ t : Tok, mg "MOST_DEPTH" = some (.int 12 t)
  c_MOST_WIDTH : ∃ t : Tok, mg "MOST_WIDTH" = some (.int 12 t)
  c_MOST_STARTS : ∃ t : Tok, mg "MOST_STARTS" = some (.int 4096 t)
structure Df (P : Program) (w : World) (K : Fg) (mg : Str → Option Value) (base : Heap) (k : Nat) (x : Str) (f : Addr) (fd : FuncData) (ps : List Str) (sp : Sp) : Prop where
  g : mg x = some (.ref f)
  kp : PySem.W.keepIn K (.ref f) = true
  b : Binds K fd ps []
  ok : FnG P w K mg base CX0 k f fd ps sp
end Lw

namespace Lw
open PySem PySem.Spec PyProof.Rows L2 DlP Dl
local macro_rules | `(tactic| walk_at "dl") => `(tactic| first
  | with_reducible refine ws_next ?_
  | with_reducible refine ws_seq ?_
  | with_reducible refine ws_if ?_
  | with_reducible refine wt_not ?_
  | with_reducible refine wt_and ?_
  | with_reducible refine wt_or ?_
  | with_reducible refine wt_chainI ?_
  | with_reducible refine wt_test ?_
  | with_reducible refine wt_B ?_
  | with_reducible refine ws_ret ?_
  | with_reducible refine ws_cont ?_
  | with_reducible refine ws_break ?_
  | with_reducible refine wa_cons ?_
  | with_reducible refine wa_nil ?_
  | ((with_reducible refine we_var (d := ?dd) ?hv ?_); (case hv => exact rfl))
  | with_reducible refine we_int ?_
  | with_reducible refine we_bl ?_
  | with_reducible refine we_non ?_
  | with_reducible refine we_str ?_
  | with_reducible refine we_neg ?_
  | ((with_reducible refine we_spr ?hv ?hw (fun z => ?_)); (case hv => exact rfl); (case hw => decide))
  | ((with_reducible refine ws_spr ?hv ?hw ?_); (case hv => exact rfl); (case hw => decide))
  | with_reducible refine ws_set ?_
  | with_reducible refine ws_asgG ?_
  | with_reducible refine wg_two ?_
  | with_reducible refine wg_name ?_
  | with_reducible refine we_andV ?_
  | with_reducible refine we_orV ?_
  | with_reducible refine we_notV ?_
  | with_reducible refine we_if ?_
  | with_reducible refine we_chainI ?_
  | with_reducible refine we_isN ?_
  | with_reducible refine we_notN ?_
  | with_reducible refine we_repL ?_
  | with_reducible refine we_catLc ?_
  | with_reducible refine we_op ?_
  | with_reducible refine we_isInt ?_
  | with_reducible refine we_isBool ?_
  | with_reducible refine we_isTup ?_
  | with_reducible refine we_cb ?_
  | with_reducible refine we_tup2 ?_
  | with_reducible refine we_tup1 ?_
  | with_reducible refine we_tup ?_
  | with_reducible refine ow_addI ?_
  | with_reducible refine ow_I0b ?_
  | with_reducible refine ow_eqUI ?_
  | with_reducible refine ow_neUI ?_
  | ((with_reducible refine ow_mulI ?hc ?_); (case hc => first | exact cmul_right (by decide) | exact cmul_left (by decide) | exact cmul_right (by omega) | exact cmul_left (by omega)))
  | ((with_reducible refine ow_modN ?hc ?_); (case hc => omega))
  | ((with_reducible refine ow_fdivL ?hc ?_); (case hc => (exact cdivL (by omega) (by omega))))
  | ((with_reducible refine ow_pow ?hc ?_); (case hc => exact ⟨by decide, by decide, by decide⟩))
  | with_reducible refine ow_I0i ?_
  | with_reducible refine cw_int ?_
  | with_reducible refine cw_intB ?_
  | with_reducible refine cw_abs ?_
  | with_reducible refine cw_max2 ?_
  | with_reducible refine cw_min2 ?_
  | with_reducible refine cw_allT ?_
  | with_reducible refine cw_tupleL ?_
  | with_reducible refine cw_tupleT ?_
  | with_reducible refine cw_lenL ?_
  | with_reducible refine cw_lenT ?_
  | with_reducible refine cw_lenScr ?_
  | with_reducible refine ex_int ?_
  | with_reducible refine ex_two ?_
  | with_reducible refine ex_bool ?_
  | with_reducible refine ex_list ?_
  | with_reducible refine ex_tuple ?_
  | with_reducible refine ex_seqL ?_
  | with_reducible refine ex_seqT ?_
  | with_reducible refine and_cases (fun hb => ?_) (fun hb => ?_)
  | with_reducible refine or_cases (fun hb => ?_) (fun hb => ?_))


section
variable {P : Program} {w : World} {K : Fg} {mg : Str → Option Value} {base : Heap}
def preDraw (ds : List D) : Prop := ∃ m : Int, ds = [.int m] ∧ 0 < m ∧ m < 1000000000
def postDraw (ds : List D) (d : D) : Prop := ∃ m r : Int, ds = [.int m] ∧ d = .int r ∧ 0 ≤ r ∧ r < m
theorem fmod_lt {a b : Int} (h : 0 < b) : 0 ≤ a.fmod b ∧ a.fmod b < b := by
  rw [Int.fmod_eq_emod_of_nonneg a (Int.le_of_lt h)]
  exact ⟨Int.emod_nonneg a (by omega), Int.emod_lt_of_pos a h⟩
theorem ok__law_draw {f : Addr} {fd : FuncData} (F : Fun K "_law_draw" "_law_draw" s__law_draw f fd) (B : Bi K mg) : FnG P w K mg base CX0 1 f fd ["spring", "many"] (spS K preDraw postDraw) := by
  refine ok_fnS F sc__law_draw (fun ds ⟨m, e, _⟩ => by rw [e]; rfl) (fun cdv A outer s H E hr hgd => ?_)
  refine ⟨_, (pss_cons (ps_if (pt_cmpR op_gt (pe_ix (ix_seqK (K := K) rfl) (pv 0) pe_int (fun _ _ => rfl)) pe_int (nomark _))
      (pss_cons (ps_set (i := 2) sc__law_draw.nd rfl (by first | exact Or.inl rfl | exact Or.inr rfl) (pe_op op_modN (pe_callTy call_int1 (by rfl) B.z_int (by decide +kernel) (pa_cons (pe_ix (ix_seqK (K := K) rfl) (pv 0) pe_int (fun _ _ => rfl)) pa_nil)) (pv 1)))
      (pss_cons (ps_asg (pe_op op_fdivL (pe_ix (ix_seqK (K := K) rfl) (pv 0) pe_int (fun _ _ => rfl)) (pv 1)) (pg_sub (pv 0) pe_int set_list))
      (pss_one (ps_ret (pv 2)))))
      pss_nil)
      (pss_cons (ps_asg (pe_op (op_addUK (K := K) rfl) (pe_ix (ix_seqK (K := K) rfl) (pv 0) pe_int (fun _ _ => rfl)) pe_int) (pg_sub (pv 0) pe_int set_list))
      (pss_cons (ps_asg (pe_op op_modN (pe_callTy call_int1 (by rfl) B.z_int (by decide +kernel) (pa_cons (pe_op (op_addUK (K := K) rfl) (pe_op (op_addUK (K := K) rfl) (pe_op (op_mulUK (K := K) rfl) (pe_ix (ix_seqK (K := K) rfl) (pv 0) pe_int (fun _ _ => rfl)) pe_int) (pe_op (op_mulUK (K := K) rfl) (pe_ix (ix_seqK (K := K) rfl) (pv 0) pe_int (fun _ _ => rfl)) pe_int)) pe_int) pa_nil)) pe_int) (pg_sub (pv 0) pe_int set_list))
      (pss_one (ps_ret (pe_op op_modN (pe_callTy call_int1 (by rfl) B.z_int (by decide +kernel) (pa_cons (pe_op op_fdivL (pe_ix (ix_seqK (K := K) rfl) (pv 0) pe_int (fun _ _ => rfl)) pe_int) pa_nil)) (pv 1))))))), ?_⟩
  rintro a ds ⟨m, rfl, h0, h1⟩
  show WS _ (some a) _ _ [.spr, .dat (.int m), .no]
  repeat' walk_at "dl"
  all_goals exact ⟨m, _, rfl, rfl, fmod_lt h0⟩
def prePick (ds : List D) : Prop := ∃ es : List D, (ds = [.list es] ∨ ds = [.tuple es]) ∧ 0 < es.length ∧ es.length < 1000000000
def postPick (ds : List D) (d : D) : Prop := ∀ es : List D, (ds = [.list es] ∨ ds = [.tuple es]) → d ∈ es
theorem ok__law_pick {f fD : Addr} {fd fdD : FuncData} (F : Fun K "_law_pick" "_law_pick" s__law_pick f fd) (B : Bi K mg) (d__law_draw : Df P w K mg base 1 "_law_draw" fD fdD ["spring", "many"] (spS K preDraw postDraw)) : FnG P w K mg base CX0 2 f fd ["spring", "some"] (spS K prePick postPick) := by
  refine ok_fnS F sc__law_pick (fun ds ⟨m, e, _⟩ => by rcases e with e | e <;> (rw [e]; rfl)) (fun cdv A outer s H E hr hgd => ?_)
  refine ⟨_, (pss_one (ps_ret (pe_ix (ix_seqK (K := K) rfl) (pv 1) (pe_callG d__law_draw.ok (hr.mono (by decide)) hgd (by rfl) d__law_draw.g d__law_draw.kp d__law_draw.b .nil pass0 (pa_cons (pv 0) (pa_cons (pe_callB (call_lenK (K := K) rfl) (by rfl) B.z_len (by decide +kernel) (pa_cons (pv 1) pa_nil)) pa_nil))) (fun _ _ => rfl)))), ?_⟩
  rintro a ds ⟨es, e, h0, h1⟩
  rcases e with rfl | rfl
  · show WS _ (some a) _ _ [.spr, .dat (.list es)]
    walk_at "dl"
    walk_at "dl"
    walk_at "dl"
    refine we_callS rfl ?_
    repeat' walk_at "dl"
    refine ⟨⟨_, rfl, by omega, by omega⟩, ?_⟩
    rintro d ⟨m, r, e, rfl, h2, h3⟩
    cases e
    obtain ⟨j, rfl⟩ := Int.eq_ofNat_of_zero_le h2
    have hj : j < es.length := by omega
    refine ow_ixL' (x := es[j]) (atI_nat (by simp [hj])) ?_
    intro fs hf
    rcases hf with hf | hf
    · cases hf; exact List.getElem_mem hj
    · cases hf
  · show WS _ (some a) _ _ [.spr, .dat (.tuple es)]
    walk_at "dl"
    walk_at "dl"
    walk_at "dl"
    refine we_callS rfl ?_
    repeat' walk_at "dl"
    refine ⟨⟨_, rfl, by omega, by omega⟩, ?_⟩
    rintro d ⟨m, r, e, rfl, h2, h3⟩
    cases e
    obtain ⟨j, rfl⟩ := Int.eq_ofNat_of_zero_le h2
    have hj : j < es.length := by omega
    refine ow_ixT' (x := es[j]) (atI_nat (by simp [hj])) ?_
    intro fs hf
    rcases hf with hf | hf
    · cases hf
    · cases hf; exact List.getElem_mem hj
/-- the seed: some whole number; the spring: three of them -/
def preSpr (ds : List D) : Prop := ∃ (ns : List Int) (t s : Int), ds = [scrD ns, .int t, .int s] ∧ ns.length ≤ 63 ∧ 0 ≤ t
def postSpr (_ : List D) (d : D) : Prop := ∃ c s n : Int, d = .list [.int c, .int s, .int n]
theorem ok__law_spring {f : Addr} {fd : FuncData} (F : Fun K "_law_spring" "_law_spring" s__law_spring f fd) (B : Bi K mg) : FnG P w K mg base CX0 1 f fd ["script", "turn", "salt"] (spF K preSpr postSpr) := by
  refine ok_fn F sc__law_spring (fun ds ⟨ns, t, s, e, _⟩ => by rw [e]; rfl) (fun cdv A outer s H E hr hgd => ?_)
  refine ⟨_, (pss_cons (ps_set (i := 3) sc__law_spring.nd rfl (by first | exact Or.inl rfl | exact Or.inr rfl) (pe_op (op_addUK (K := K) rfl) (pv 2) (pe_op (op_mulUK (K := K) rfl) pe_int (pv 1))))
      (pss_cons (ps_for PassesOwn.never (by rfl) (pi_seqK (K := K) rfl (pe_slice (sl_anyK (K := K) rfl) (pv 0) po_none (po_some pe_int))) (pg_name (i := 4) sc__law_spring.nd rfl (by first | exact Or.inl rfl | exact Or.inr rfl))
      (pss_one (ps_set (i := 3) sc__law_spring.nd rfl (by first | exact Or.inl rfl | exact Or.inr rfl) (pe_op op_modN (pe_callTy call_int1 (by rfl) B.z_int (by decide +kernel) (pa_cons (pe_op (op_addUK (K := K) rfl) (pe_op (op_addUK (K := K) rfl) (pe_op (op_mulUK (K := K) rfl) (pv 3) pe_int) (pe_op op_modN (pe_callTy call_int1 (by rfl) B.z_int (by decide +kernel) (pa_cons (pv 4) pa_nil)) pe_int)) pe_int) pa_nil)) pe_int))))
      (pss_cons (ps_set (i := 5) sc__law_spring.nd rfl (by first | exact Or.inl rfl | exact Or.inr rfl) (pe_ifExp (pt_cmpR op_lt (pv 1) (pe_callB (call_lenK (K := K) rfl) (by rfl) B.z_len (by decide +kernel) (pa_cons (pv 0) pa_nil)) (nomark _)) (pe_callTy call_int1 (by rfl) B.z_int (by decide +kernel) (pa_cons (pe_ix (ix_seqK (K := K) rfl) (pv 0) (pv 1) (fun _ _ => rfl)) pa_nil)) pe_int))
      (pss_one (ps_ret (pe_lst (pa_cons (pe_ifExp (pt_cmpR op_ge (pe_callB call_abs (by rfl) B.z_abs (by decide +kernel) (pa_cons (pv 5) pa_nil)) (pe_op op_pow pe_int pe_int) (nomark _)) (pe_callB call_abs (by rfl) B.z_abs (by decide +kernel) (pa_cons (pv 5) pa_nil)) pe_int) (pa_cons (pv 3) (pa_cons pe_int pa_nil))))))))), ?_⟩
  rintro ds ⟨ns, t, s, rfl, hl, ht⟩
  show WS _ none _ _ [.dat (scrD ns), .dat (.int t), .dat (.int s), .no, .no, .no]
  repeat' walk_at "dl"
  refine ws_for (wj_seq (we_fresh (wf_slScrU (we_var rfl ⟨rfl, wo_none (wo_some (we_int ⟨_, rfl, ⟨_, .inl rfl, ?_⟩⟩))⟩))))
  refine ⟨fun _ δ => ∃ (z : Int) (c : Cell), δ = [.dat (scrD ns), .dat (.int t), .dat (.int s), .dat (.int z), c, .no], ⟨_, _, rfl⟩, fun i d δ' hd ⟨z, c, e⟩ => ?_, fun δ' ⟨z, c, e⟩ => ?_⟩
  · subst e
    have hm := List.mem_of_getElem? hd
    have hm := List.mem_of_mem_drop (List.mem_of_mem_take hm)
    obtain ⟨x, _, rfl⟩ := List.mem_map.mp hm
    refine wg_name ?_
    repeat' walk_at "dl"
    exact ⟨_, _, rfl⟩
  · subst e
    repeat' walk_at "dl"
    · obtain ⟨j, rfl⟩ := Int.eq_ofNat_of_zero_le ht
      rename_i hb
      have hj : j < ns.length := by simpa using hb
      refine ow_ixScr (x := ns[j]) (atI_nat (by simp [hj])) ?_
      repeat' walk_at "dl"
      all_goals
        refine we_fresh (wf_lst ?_)
        repeat' walk_at "dl"
        all_goals exact ⟨szl (by simp), ⟨_, _, _, rfl⟩⟩
    · refine we_fresh (wf_lst ?_)
      repeat' walk_at "dl"
      all_goals exact ⟨szl (by simp), ⟨_, _, _, rfl⟩⟩
end

end Lw

namespace Lw
open PySem PySem.Spec PyProof.Rows L2 DlP Dl
local macro_rules | `(tactic| walk_at "dl") => `(tactic| first
  | with_reducible refine ws_next ?_
  | with_reducible refine ws_seq ?_
  | with_reducible refine ws_if ?_
  | with_reducible refine wt_not ?_
  | with_reducible refine wt_and ?_
  | with_reducible refine wt_or ?_
  | with_reducible refine wt_chainI ?_
  | with_reducible refine wt_test ?_
  | with_reducible refine wt_B ?_
  | with_reducible refine ws_ret ?_
  | with_reducible refine ws_cont ?_
  | with_reducible refine ws_break ?_
  | with_reducible refine wa_cons ?_
  | with_reducible refine wa_nil ?_
  | ((with_reducible refine we_var (d := ?dd) ?hv ?_); (case hv => exact rfl))
  | with_reducible refine we_int ?_
  | with_reducible refine we_bl ?_
  | with_reducible refine we_non ?_
  | with_reducible refine we_str ?_
  | with_reducible refine we_neg ?_
  | ((with_reducible refine we_spr ?hv ?hw (fun z => ?_)); (case hv => exact rfl); (case hw => decide))
  | ((with_reducible refine ws_spr ?hv ?hw ?_); (case hv => exact rfl); (case hw => decide))
  | with_reducible refine ws_set ?_
  | with_reducible refine ws_asgG ?_
  | with_reducible refine wg_two ?_
  | with_reducible refine wg_name ?_
  | with_reducible refine we_andV ?_
  | with_reducible refine we_orV ?_
  | with_reducible refine we_notV ?_
  | with_reducible refine we_if ?_
  | with_reducible refine we_chainI ?_
  | with_reducible refine we_isN ?_
  | with_reducible refine we_notN ?_
  | with_reducible refine we_repL ?_
  | with_reducible refine we_catLc ?_
  | with_reducible refine we_op ?_
  | with_reducible refine we_isInt ?_
  | with_reducible refine we_isBool ?_
  | with_reducible refine we_isTup ?_
  | with_reducible refine we_cb ?_
  | with_reducible refine we_tup2 ?_
  | with_reducible refine we_tup1 ?_
  | with_reducible refine we_tup ?_
  | with_reducible refine ow_addI ?_
  | with_reducible refine ow_I0b ?_
  | with_reducible refine ow_eqUI ?_
  | with_reducible refine ow_neUI ?_
  | ((with_reducible refine ow_mulI ?hc ?_); (case hc => first | exact cmul_right (by decide) | exact cmul_left (by decide) | exact cmul_right (by omega) | exact cmul_left (by omega)))
  | ((with_reducible refine ow_modN ?hc ?_); (case hc => omega))
  | ((with_reducible refine ow_fdivL ?hc ?_); (case hc => (exact cdivL (by omega) (by omega))))
  | ((with_reducible refine ow_pow ?hc ?_); (case hc => exact ⟨by decide, by decide, by decide⟩))
  | with_reducible refine ow_I0i ?_
  | with_reducible refine cw_int ?_
  | with_reducible refine cw_intB ?_
  | with_reducible refine cw_abs ?_
  | with_reducible refine cw_max2 ?_
  | with_reducible refine cw_min2 ?_
  | with_reducible refine cw_allT ?_
  | with_reducible refine cw_tupleL ?_
  | with_reducible refine cw_tupleT ?_
  | with_reducible refine cw_lenL ?_
  | with_reducible refine cw_lenT ?_
  | with_reducible refine cw_lenScr ?_
  | with_reducible refine ex_int ?_
  | with_reducible refine ex_two ?_
  | with_reducible refine ex_bool ?_
  | with_reducible refine ex_list ?_
  | with_reducible refine ex_tuple ?_
  | with_reducible refine ex_seqL ?_
  | with_reducible refine ex_seqT ?_
  | with_reducible refine and_cases (fun hb => ?_) (fun hb => ?_)
  | with_reducible refine or_cases (fun hb => ?_) (fun hb => ?_))

abbrev Row := List Int
abbrev Tab := List Row
def rowD (r : Row) : D := .tuple (r.map .int)
def tabD (t : Tab) : D := .tuple (t.map rowD)
def netD (p : Int) (ts : List Tab) : D := .tuple [.int p, .tuple (ts.map tabD)]
def RowOk (p : Int) (m : Nat) (r : Row) : Prop := r.length = m ∧ ∀ x ∈ r, 0 ≤ x ∧ x < p
def TabOk (p : Int) (d m : Nat) (t : Tab) : Prop := t.length = d ∧ ∀ r ∈ t, RowOk p m r
def Base (p : Int) : Prop := p = 2 ∨ p = 3 ∨ p = 5 ∨ p = 7
def NetOk (p : Int) (s d m : Nat) (ts : List Tab) : Prop := Base p ∧ (1 ≤ s ∧ s ≤ 6) ∧ (1 ≤ d ∧ d ≤ 12) ∧ (1 ≤ m ∧ m ≤ 12) ∧ ts.length = s ∧ ∀ t ∈ ts, TabOk p d m t
theorem Base.pos {p : Int} (h : Base p) : 2 ≤ p ∧ p ≤ 7 := by rcases h with h | h | h | h <;> omega
section
variable {P : Program} {w : World} {K : Fg} {mg : Str → Option Value} {base : Heap}
def prePow (ds : List D) : Prop := ∃ (p : Int) (n : Nat), ds = [.int p, .int n] ∧ (0 < p ∧ p < 1000) ∧ n < 1000000000
def postPow (ds : List D) (d : D) : Prop := ∀ (p : Int) (n : Nat), ds = [.int p, .int n] → d = .int (p ^ n)
theorem ok__law_power {f : Addr} {fd : FuncData} (F : Fun K "_law_power" "_law_power" s__law_power f fd) (B : Bi K mg) : FnG P w K mg base CX0 1 f fd ["p", "many"] (spF K prePow postPow) := by
  refine ok_fn F sc__law_power (fun ds ⟨p, n, e, _⟩ => by rw [e]; rfl) (fun cdv A outer s H E hr hgd => ?_)
  refine ⟨_, (pss_cons (ps_set (i := 2) sc__law_power.nd rfl (by first | exact Or.inl rfl | exact Or.inr rfl) pe_int)
      (pss_cons (ps_for PassesOwn.never (by rfl) (pi_range1 (by rfl) B.z_range (pa_cons (pv 1) pa_nil)) (pg_name (i := 3) sc__law_power.nd rfl (by first | exact Or.inl rfl | exact Or.inr rfl))
      (pss_one (ps_set (i := 2) sc__law_power.nd rfl (by first | exact Or.inl rfl | exact Or.inr rfl) (pe_op (op_mulUK (K := K) rfl) (pv 2) (pv 0)))))
      (pss_one (ps_ret (pv 2))))), ?_⟩
  rintro ds ⟨p, n, rfl, h0, h1⟩
  show WS _ none _ _ [.dat (.int p), .dat (.int n), .no, .no]
  repeat' walk_at "dl"
  refine ws_for (wj_rng1 ?_)
  repeat' walk_at "dl"
  refine ⟨_, rfl, by omega, fun i δ => ∃ c, δ = [.dat (.int p), .dat (.int n), .dat (.int (p ^ i)), c], ⟨.no, by rw [Int.pow_zero]; rfl⟩, fun i d δ' hd ⟨c, e⟩ => ?_, fun δ' ⟨c, e⟩ => ?_⟩
  · subst e
    obtain ⟨hi, rfl⟩ := rngD_inv hd
    refine wg_name ?_
    repeat' walk_at "dl"
    exact ⟨_, by rw [Int.pow_succ]; rfl⟩
  · subst e
    repeat' walk_at "dl"
    intro p' n' e
    cases e
    rw [rngD_len, Int.toNat_natCast]
def preMost (ds : List D) : Prop := ∃ (p t : Int), ds = [.int p, .int t] ∧ Base p ∧ p ≤ t
def postMost (ds : List D) (d : D) : Prop := ∀ (p t : Int), ds = [.int p, .int t] → ∃ k : Nat, d = .int k ∧ (1 ≤ k ∧ k ≤ 12) ∧ p ^ k ≤ t
theorem ok__law_most {f : Addr} {fd : FuncData} (F : Fun K "_law_most" "_law_most" s__law_most f fd) (B : Bi K mg) : FnG P w K mg base CX0 1 f fd ["p", "top"] (spF K preMost postMost) := by
  refine ok_fn F sc__law_most (fun ds ⟨p, n, e, _⟩ => by rw [e]; rfl) (fun cdv A outer s H E hr hgd => ?_)
  refine ⟨_, (pss_cons (ps_par (i := 3) (j := 4) (by rfl) sc__law_most.nd rfl rfl (by decide) rfl rfl (pa_cons pe_int (pa_cons (pv 0) pa_nil)) (by rfl))
      (pss_cons (ps_for PassesOwn.never (by rfl) (pi_range1 (by rfl) B.z_range (pa_cons pe_int pa_nil)) (pg_name (i := 2) sc__law_most.nd rfl (by first | exact Or.inl rfl | exact Or.inr rfl))
      (pss_cons (ps_if (pt_cmpR op_gt (pv 4) (pv 1) (nomark _))
      (pss_one ps_break)
      pss_nil)
      (pss_one (ps_par (i := 3) (j := 4) (by rfl) sc__law_most.nd rfl rfl (by decide) rfl rfl (pa_cons (pe_op (op_addUK (K := K) rfl) (pv 3) pe_int) (pa_cons (pe_op (op_mulUK (K := K) rfl) (pv 4) (pv 0)) pa_nil)) (by rfl)))))
      (pss_one (ps_ret (pv 3))))), ?_⟩
  rintro ds ⟨p, t, rfl, hb, ht⟩
  have hp := hb.pos
  show WS _ none _ _ [.dat (.int p), .dat (.int t), .no, .no, .no]
  repeat' walk_at "dl"
  refine ws_par ?_
  repeat' walk_at "dl"
  refine ws_for (wj_rng1 ?_)
  repeat' walk_at "dl"
  refine ⟨_, rfl, by omega, fun i δ => ∃ c, δ = [.dat (.int p), .dat (.int t), c, .dat (.int i), .dat (.int (p ^ (i + 1)))] ∧ p ^ i ≤ t, ⟨_, by rw [Int.pow_succ, Int.pow_zero, Int.one_mul]; rfl, by rw [Int.pow_zero]; omega⟩, fun i d δ' hd ⟨c, e, hle⟩ => ?_, fun δ' ⟨c, e, hle⟩ => ?_⟩
  · subst e
    obtain ⟨hi, rfl⟩ := rngD_inv hd
    refine wg_name ?_
    repeat' walk_at "dl"
    · rename_i h
      intro p' t' e
      cases e
      refine ⟨i, rfl, ⟨?_, by simp at hi; omega⟩, hle⟩
      cases i with
      | zero => simp [Int.pow_succ] at h; omega
      | succ i => omega
    · rename_i h
      refine ws_par ?_
      repeat' walk_at "dl"
      exact ⟨_, by rw [Int.pow_succ p (i + 1)]; rfl, by simpa using h⟩
  · subst e
    repeat' walk_at "dl"
    intro p' t' e
    cases e
    refine ⟨_, rfl, ?_, hle⟩
    rw [rngD_len]
    decide
def postDot (ds : List D) (d : D) : Prop := ∀ (p : Int) (l r : Row), ds = [.int p, rowD l, rowD r] → d = .int ((dot l r).fmod p)
def preDot (ds : List D) : Prop := ∃ (p : Int) (l r : Row), ds = [.int p, rowD l, rowD r] ∧ 0 < p ∧ l.length ≤ 1000 ∧ ∀ x ∈ l, 0 ≤ x ∧ x < 1000
theorem rowD_inj {a b : Row} (h : rowD a = rowD b) : a = b := by
  unfold rowD at h
  injection h with h
  exact List.map_inj_right (fun x y e => by injection e) |>.mp h
theorem ok__law_times {f : Addr} {fd : FuncData} (F : Fun K "_law_times" "_law_times" s__law_times f fd) (B : Bi K mg) : FnG P w K mg base CX0 1 f fd ["p", "left", "right"] (spF K preDot postDot) := by
  refine ok_fn F sc__law_times (fun ds ⟨p, l, r, e, _⟩ => by rw [e]; rfl) (fun cdv A outer s H E hr hgd => ?_)
  refine ⟨_, (pss_one (ps_ret (pe_op op_modN (pe_callTy call_int1 (by rfl) B.z_int (by decide +kernel) (pa_cons (pe_callB (cr_sumK (K := K) rfl (by rfl)) (by rfl) B.z_sum (by decide +kernel) (pa_cons (pe_lc (own := [("x", 3), ("y", 4)]) (g := (gTup K 2 (gCons (gName 3) (gCons (gName 4) gNil)))) (tt := tYes) (by rfl) sc__law_times.nd (pi_zipUK (K := K) rfl (by rfl) B.z_zip (pa_cons (pv 1) (pa_cons (pv 2) pa_nil))) (blkOk_by (own := [("x", 3), ("y", 4)]) (N := ["p", "left", "right", "x", "y"]) (sc := defScope s__law_times) (by decide +kernel)) (fun _ _ _ _ _ => (pg_tupK (K := K) (n := 2) rfl (by rfl) (pgs_cons (pg_name (i := 3) sc__law_times.nd rfl (by first | exact Or.inl rfl | exact Or.inr rfl)) (pgs_cons (pg_name (i := 4) sc__law_times.nd rfl (by first | exact Or.inl rfl | exact Or.inr rfl)) pgs_nil)))) (fun _ _ _ _ _ => pts_nil) (fun _ _ _ _ _ => (pe_op (op_mulUK (K := K) rfl) (pv 3) (pv 4)))) pa_nil)) pa_nil)) (pv 0)))), ?_⟩
  rintro ds ⟨p, l, r, rfl, hp, hl, hx⟩
  show WS _ none _ _ [.dat (.int p), .dat (rowD l), .dat (rowD r), .no, .no]
  repeat' walk_at "dl"
  refine we_fresh (wf_map mulD (wj_zip ?_))
  repeat' walk_at "dl"
  refine ⟨_, _, _, _, rfl, .inr rfl, .inr rfl, szl (by rw [zipD_len, List.length_map]; omega), fun i d hd => ?_, ?_⟩
  · obtain ⟨a, b, ha, hb, rfl⟩ := zipD_inv hd
    obtain ⟨x, hm, rfl⟩ := mem_ints ha
    obtain ⟨y, _, rfl⟩ := mem_ints hb
    have := hx x hm
    refine wgv_two (by simp) (by simp) ?_
    repeat' walk_at "dl"
    rfl
  · rw [zip_mul]
    refine wa_nil (cw_sum ?_)
    repeat' walk_at "dl"
    intro p' l' r' e
    injection e with e1 e
    injection e with e2 e
    injection e with e3 e
    injection e1 with e1
    subst e1
    rw [← rowD_inj e2, ← rowD_inj e3]
    rfl
theorem ow_net0 {sa : Option Addr} {P : D → Prop} {p : Int} {ts : List Tab} (h : P (.int p)) : OW K sa (rIx K) (netD p ts) (.int 0) P := ow_ixT' (x := .int p) rfl h
theorem ow_net1 {sa : Option Addr} {P : D → Prop} {p : Int} {ts : List Tab} (h : P (.tuple (ts.map tabD))) : OW K sa (rIx K) (netD p ts) (.int 1) P := ow_ixT' (x := .tuple (ts.map tabD)) rfl h
theorem ow_tab0 {sa : Option Addr} {P : D → Prop} {r : Row} {t : Tab} (h : P (rowD r)) : OW K sa (rIx K) (tabD (r :: t)) (.int 0) P := ow_ixT' (x := rowD r) (atI_nat (j := 0) rfl) h
theorem ow_tabs0 {sa : Option Addr} {P : D → Prop} {t : Tab} {ts : List Tab} (h : P (tabD t)) : OW K sa (rIx K) (.tuple ((t :: ts).map tabD)) (.int 0) P := ow_ixT' (x := tabD t) (atI_nat (j := 0) rfl) h
theorem cw_lenRow {sa : Option Addr} {P : D → Prop} {r : Row} (p : P (.int r.length)) : CW K sa (fun xs H Q => ∃ x n, xs = [x] ∧ LenV K x H n ∧ Q (.int n) H) [rowD r] P := cw_lenT (by rw [List.length_map]; exact p)
theorem cw_lenTab {sa : Option Addr} {P : D → Prop} {r : Tab} (p : P (.int r.length)) : CW K sa (fun xs H Q => ∃ x n, xs = [x] ∧ LenV K x H n ∧ Q (.int n) H) [tabD r] P := cw_lenT (by rw [List.length_map]; exact p)
theorem ex_seqRow {r : Row} {P : List D → Prop} (h : P (r.map .int)) : ∃ i, SeqD (rowD r) i ∧ P i := ⟨_, .inr rfl, h⟩
theorem ex_seqTab {r : Tab} {P : List D → Prop} (h : P (r.map rowD)) : ∃ i, SeqD (tabD r) i ∧ P i := ⟨_, .inr rfl, h⟩
end

end Lw

namespace Lw
open PySem PySem.Spec PyProof.Rows L2 DlP Dl
local macro_rules | `(tactic| walk_at "dl") => `(tactic| first
  | with_reducible refine ws_next ?_
  | with_reducible refine ws_seq ?_
  | with_reducible refine ws_if ?_
  | with_reducible refine wt_not ?_
  | with_reducible refine wt_and ?_
  | with_reducible refine wt_or ?_
  | with_reducible refine wt_chainI ?_
  | with_reducible refine wt_test ?_
  | with_reducible refine wt_B ?_
  | with_reducible refine ws_ret ?_
  | with_reducible refine ws_cont ?_
  | with_reducible refine ws_break ?_
  | with_reducible refine wa_cons ?_
  | with_reducible refine wa_nil ?_
  | ((with_reducible refine we_var (d := ?dd) ?hv ?_); (case hv => exact rfl))
  | with_reducible refine we_int ?_
  | with_reducible refine we_bl ?_
  | with_reducible refine we_non ?_
  | with_reducible refine we_str ?_
  | with_reducible refine we_neg ?_
  | ((with_reducible refine we_spr ?hv ?hw (fun z => ?_)); (case hv => exact rfl); (case hw => decide))
  | ((with_reducible refine ws_spr ?hv ?hw ?_); (case hv => exact rfl); (case hw => decide))
  | with_reducible refine ws_set ?_
  | with_reducible refine ws_asgG ?_
  | with_reducible refine wg_two ?_
  | with_reducible refine wg_name ?_
  | with_reducible refine we_andV ?_
  | with_reducible refine we_orV ?_
  | with_reducible refine we_notV ?_
  | with_reducible refine we_if ?_
  | with_reducible refine we_chainI ?_
  | with_reducible refine we_isN ?_
  | with_reducible refine we_notN ?_
  | with_reducible refine we_repL ?_
  | with_reducible refine we_catLc ?_
  | with_reducible refine we_op ?_
  | with_reducible refine we_isInt ?_
  | with_reducible refine we_isBool ?_
  | with_reducible refine we_isTup ?_
  | with_reducible refine we_cb ?_
  | with_reducible refine we_tup2 ?_
  | with_reducible refine we_tup1 ?_
  | with_reducible refine we_tup ?_
  | with_reducible refine ow_addI ?_
  | with_reducible refine ow_I0b ?_
  | with_reducible refine ow_eqUI ?_
  | with_reducible refine ow_neUI ?_
  | ((with_reducible refine ow_mulI ?hc ?_); (case hc => first | exact cmul_right (by decide) | exact cmul_left (by decide) | exact cmul_right (by omega) | exact cmul_left (by omega)))
  | ((with_reducible refine ow_modN ?hc ?_); (case hc => omega))
  | ((with_reducible refine ow_fdivL ?hc ?_); (case hc => (exact cdivL (by omega) (by omega))))
  | ((with_reducible refine ow_pow ?hc ?_); (case hc => exact ⟨by decide, by decide, by decide⟩))
  | with_reducible refine ow_I0i ?_
  | with_reducible refine cw_int ?_
  | with_reducible refine cw_intB ?_
  | with_reducible refine cw_abs ?_
  | with_reducible refine cw_max2 ?_
  | with_reducible refine cw_min2 ?_
  | with_reducible refine cw_allT ?_
  | with_reducible refine cw_tupleL ?_
  | with_reducible refine cw_tupleT ?_
  | with_reducible refine cw_lenL ?_
  | with_reducible refine cw_lenT ?_
  | with_reducible refine cw_lenScr ?_
  | with_reducible refine ex_int ?_
  | with_reducible refine ex_two ?_
  | with_reducible refine ex_bool ?_
  | with_reducible refine ex_list ?_
  | with_reducible refine ex_tuple ?_
  | with_reducible refine ex_seqL ?_
  | with_reducible refine ex_seqT ?_
  | with_reducible refine and_cases (fun hb => ?_) (fun hb => ?_)
  | with_reducible refine or_cases (fun hb => ?_) (fun hb => ?_))

section
variable {P : Program} {w : World} {K : Fg} {mg : Str → Option Value} {base : Heap}
def preLine (ds : List D) : Prop := ∃ (p : Int) (n : Nat), ds = [.int p, .int n] ∧ (0 < p ∧ p < 1000) ∧ n < 1000
def postLine (ds : List D) (d : D) : Prop := ∀ (p : Int) (n : Nat), ds = [.int p, .int n] → ∃ r, d = rowD r ∧ RowOk p n r
theorem ok__law_line {f fD : Addr} {fd fdD : FuncData} (F : Fun K "_law_line" "_law_line" s__law_line f fd) (B : Bi K mg) (d__law_draw : Df P w K mg base 1 "_law_draw" fD fdD ["spring", "many"] (spS K preDraw postDraw)) : FnG P w K mg base CX0 2 f fd ["spring", "p", "m"] (spS K preLine postLine) := by
  refine ok_fnS F sc__law_line (fun ds ⟨p, n, e, _⟩ => by rw [e]; rfl) (fun cdv A outer s H E hr hgd => ?_)
  refine ⟨_, (pss_one (ps_ret (pe_callTy (call_tuple_ofK (K := K) rfl) (by rfl) B.z_tuple (by decide +kernel) (pa_cons (pe_lc (own := [("turn", 3)]) (g := (gName 3)) (tt := tYes) (by rfl) sc__law_line.nd (pi_range1 (by rfl) B.z_range (pa_cons (pv 2) pa_nil)) (blkOk_by (own := [("turn", 3)]) (N := ["spring", "p", "m", "turn"]) (sc := defScope s__law_line) (by decide +kernel)) (fun _ _ _ _ _ => (pg_name (i := 3) sc__law_line.nd rfl (by first | exact Or.inl rfl | exact Or.inr rfl))) (fun _ _ _ _ _ => pts_nil) (fun _ _ _ _ _ => (pe_callG d__law_draw.ok (hr.mono (by decide)) hgd (by rfl) d__law_draw.g d__law_draw.kp d__law_draw.b .nil pass0 (pa_cons (pv 0) (pa_cons (pv 1) pa_nil))))) pa_nil)))), ?_⟩
  rintro a ds ⟨p, n, rfl, hp, hn⟩
  show WS _ (some a) _ _ [.spr, .dat (.int p), .dat (.int n), .no]
  repeat' walk_at "dl"
  refine we_fresh (wf_rel (wj_rng1 ?_))
  repeat' walk_at "dl"
  refine ⟨_, rfl, by omega, szl (by rw [rngD_len]; omega), fun _ e => ∃ x, e = .int x ∧ (0 ≤ x ∧ x < p), fun i d hd => ?_, fun es hl hr => ?_⟩
  · refine wgv_name (by simp) ?_
    refine we_callS rfl ?_
    repeat' walk_at "dl"
    refine ⟨⟨p, rfl, by omega, by omega⟩, fun d ⟨m, r, e, hd, h0, h1⟩ => ?_⟩
    cases e
    exact ⟨r, hd, h0, h1⟩
  · obtain ⟨r, rfl, hl, hq⟩ := of_rel hl hr
    refine wa_nil (cw_tupleL ?_)
    intro p' n' e
    cases e
    exact ⟨r, rfl, by rw [hl, rngD_len]; omega, hq⟩
def preTab (ds : List D) : Prop := ∃ (p : Int) (d m : Nat), ds = [.int p, .int d, .int m] ∧ Base p ∧ (1 ≤ d ∧ d ≤ 12) ∧ (1 ≤ m ∧ m ≤ 12)
def postTab (ds : List D) (e : D) : Prop := ∀ (p : Int) (d m : Nat), ds = [.int p, .int d, .int m] → ∃ t, e = tabD t ∧ TabOk p d m t
theorem ok__law_table {f fD fL fP : Addr} {fd fdD fdL fdP : FuncData} (F : Fun K "_law_table" "_law_table" s__law_table f fd) (B : Bi K mg) (d__law_draw : Df P w K mg base 1 "_law_draw" fD fdD ["spring", "many"] (spS K preDraw postDraw))
    (d__law_line : Df P w K mg base 2 "_law_line" fL fdL ["spring", "p", "m"] (spS K preLine postLine)) (d__law_pick : Df P w K mg base 2 "_law_pick" fP fdP ["spring", "some"] (spS K prePick postPick)) :
    FnG P w K mg base CX0 3 f fd ["spring", "p", "deep", "m"] (spS K preTab postTab) := by
  refine ok_fnS F sc__law_table (fun ds ⟨p, d, m, e, _⟩ => by rw [e]; rfl) (fun cdv A outer s H E hr hgd => ?_)
  refine ⟨_, (pss_cons (ps_par (i := 6) (j := 7) (by rfl) sc__law_table.nd rfl rfl (by decide) rfl rfl (pa_cons (pe_callG d__law_draw.ok (hr.mono (by decide)) hgd (by rfl) d__law_draw.g d__law_draw.kp d__law_draw.b .nil pass0 (pa_cons (pv 0) (pa_cons pe_int pa_nil))) (pa_cons (pe_lst pa_nil) pa_nil)) (by rfl))
      (pss_cons (ps_set (i := 4) sc__law_table.nd rfl (by first | exact Or.inl rfl | exact Or.inr rfl) (pe_lst (pa_cons (pe_callG d__law_line.ok (hr.mono (by decide)) hgd (by rfl) d__law_line.g d__law_line.kp d__law_line.b .nil pass0 (pa_cons (pv 0) (pa_cons (pv 1) (pa_cons (pv 3) pa_nil)))) (pa_cons (pe_callG d__law_line.ok (hr.mono (by decide)) hgd (by rfl) d__law_line.g d__law_line.kp d__law_line.b .nil pass0 (pa_cons (pv 0) (pa_cons (pv 1) (pa_cons (pv 3) pa_nil)))) (pa_cons (pe_callTy (call_tuple_ofK (K := K) rfl) (by rfl) B.z_tuple (by decide +kernel) (pa_cons (pe_op (op_mulUK (K := K) rfl) (pe_lst (pa_cons pe_int pa_nil)) (pv 3)) pa_nil)) pa_nil)))))
      (pss_cons (ps_for PassesOwn.never (by rfl) (pi_range1 (by rfl) B.z_range (pa_cons (pv 2) pa_nil)) (pg_name (i := 5) sc__law_table.nd rfl (by first | exact Or.inl rfl | exact Or.inr rfl))
      (pss_one (ps_if (PW.pt (pw_and (pt_cmpR (op_eqUK (K := K) rfl hr.units) (pv 6) pe_int (nomark _)) (pw_and1 (pt_cmpR op_lt (pv 5) (pv 3) (nomark _)))))
      (pss_one (ps_expr (pe_bm PySem.F.plainAttrs_list PySem.F.slot_list_append PySem.F.type_list_append mt_append (pv 7) (pa_cons (pe_callTy (call_tuple_ofK (K := K) rfl) (by rfl) B.z_tuple (by decide +kernel) (pa_cons (pe_lc (own := [("c", 8)]) (g := (gName 8)) (tt := tYes) (by rfl) sc__law_table.nd (pi_range1 (by rfl) B.z_range (pa_cons (pv 3) pa_nil)) (blkOk_by (own := [("c", 8)]) (N := ["spring", "p", "deep", "m", "few", "j", "way", "rows", "c"]) (sc := defScope s__law_table) (by decide +kernel)) (fun _ _ _ _ _ => (pg_name (i := 8) sc__law_table.nd rfl (by first | exact Or.inl rfl | exact Or.inr rfl))) (fun _ _ _ _ _ => pts_nil) (fun _ _ _ _ _ => (pe_callTy call_int1 (by rfl) B.z_int (by decide +kernel) (pa_cons (pe_cmpR (op_eqUK (K := K) rfl hr.units) (pv 8) (pv 5) (nomark _)) pa_nil)))) pa_nil)) pa_nil))))
      (pss_one (ps_if (pt_cmpR (op_eqUK (K := K) rfl hr.units) (pv 6) pe_int (nomark _))
      (pss_one (ps_expr (pe_bm PySem.F.plainAttrs_list PySem.F.slot_list_append PySem.F.type_list_append mt_append (pv 7) (pa_cons (pe_callTy (call_tuple_ofK (K := K) rfl) (by rfl) B.z_tuple (by decide +kernel) (pa_cons (pe_lc (own := [("c", 8)]) (g := (gName 8)) (tt := tYes) (by rfl) sc__law_table.nd (pi_range1 (by rfl) B.z_range (pa_cons (pv 3) pa_nil)) (blkOk_by (own := [("c", 8)]) (N := ["spring", "p", "deep", "m", "few", "j", "way", "rows", "c"]) (sc := defScope s__law_table) (by decide +kernel)) (fun _ _ _ _ _ => (pg_name (i := 8) sc__law_table.nd rfl (by first | exact Or.inl rfl | exact Or.inr rfl))) (fun _ _ _ _ _ => pts_nil) (fun _ _ _ _ _ => (pe_callTy call_int1 (by rfl) B.z_int (by decide +kernel) (pa_cons (pe_cmpR (op_eqUK (K := K) rfl hr.units) (pv 8) (pe_op op_sub (pe_op op_sub (pv 3) pe_int) (pv 5)) (nomark _)) pa_nil)))) pa_nil)) pa_nil))))
      (pss_one (ps_if (pt_cmpR (op_eqUK (K := K) rfl hr.units) (pv 6) pe_int (nomark _))
      (pss_one (ps_expr (pe_bm PySem.F.plainAttrs_list PySem.F.slot_list_append PySem.F.type_list_append mt_append (pv 7) (pa_cons (pe_callG d__law_pick.ok (hr.mono (by decide)) hgd (by rfl) d__law_pick.g d__law_pick.kp d__law_pick.b .nil pass0 (pa_cons (pv 0) (pa_cons (pv 4) pa_nil))) pa_nil))))
      (pss_one (ps_if (PW.pt (pw_and (pt_cmpR (op_eqUK (K := K) rfl hr.units) (pv 6) pe_int (nomark _)) (pw_and1 (pt_cmpR op_lt (pv 5) (pv 3) (nomark _)))))
      (pss_one (ps_expr (pe_bm PySem.F.plainAttrs_list PySem.F.slot_list_append PySem.F.type_list_append mt_append (pv 7) (pa_cons (pe_op (op_addUK (K := K) rfl) (pe_op (op_addUK (K := K) rfl) (pe_callG d__law_line.ok (hr.mono (by decide)) hgd (by rfl) d__law_line.g d__law_line.kp d__law_line.b .nil pass0 (pa_cons (pv 0) (pa_cons (pv 1) (pa_cons (pv 5) pa_nil)))) (pe_tup (pa_cons pe_int pa_nil))) (pe_callTy (call_tuple_ofK (K := K) rfl) (by rfl) B.z_tuple (by decide +kernel) (pa_cons (pe_op (op_mulUK (K := K) rfl) (pe_lst (pa_cons pe_int pa_nil)) (pe_op op_sub (pe_op op_sub (pv 3) pe_int) (pv 5))) pa_nil))) pa_nil))))
      (pss_one (ps_expr (pe_bm PySem.F.plainAttrs_list PySem.F.slot_list_append PySem.F.type_list_append mt_append (pv 7) (pa_cons (pe_callG d__law_line.ok (hr.mono (by decide)) hgd (by rfl) d__law_line.g d__law_line.kp d__law_line.b .nil pass0 (pa_cons (pv 0) (pa_cons (pv 1) (pa_cons (pv 3) pa_nil)))) pa_nil)))))))))))))
      (pss_one (ps_ret (pe_callTy (call_tuple_ofK (K := K) rfl) (by rfl) B.z_tuple (by decide +kernel) (pa_cons (pv 7) pa_nil))))))), ?_⟩
  rintro a ds ⟨p, d, m, rfl, hb, hd, hm⟩
  have hp := hb.pos
  show WS _ (some a) _ _ [.spr, .dat (.int p), .dat (.int d), .dat (.int m), .no, .no, .no, .no, .no]
  have line : ∀ (k : Nat) (δ : List Cell) (P : D → Prop), k ≤ 12 → (∀ r, RowOk p k r → P (rowD r)) → ∀ dd, postLine [.int p, .int k] dd → P dd := fun k δ P hk h dd hdd => by
    obtain ⟨r, rfl, hr⟩ := hdd p k rfl
    exact h r hr
  walk_at "dl"
  refine ws_parF (we_callS rfl ?_) (by decide) (by simp)
  repeat' walk_at "dl"
  refine ⟨⟨6, rfl, by omega, by omega⟩, fun dd ⟨_, way, e, hway, _⟩ => wf_lst ?_⟩
  subst hway
  repeat' walk_at "dl"
  refine ⟨szl (by simp), ?_⟩
  repeat' walk_at "dl"
  refine we_lst ?_
  repeat' walk_at "dl"
  refine we_callS rfl ?_
  repeat' walk_at "dl"
  refine ⟨⟨p, m, rfl, by omega, by omega⟩, line m [] _ (by omega) fun r1 hr1 => ?_⟩
  repeat' walk_at "dl"
  refine we_callS rfl ?_
  repeat' walk_at "dl"
  refine ⟨⟨p, m, rfl, by omega, by omega⟩, line m [] _ (by omega) fun r2 hr2 => ?_⟩
  repeat' walk_at "dl"
  refine ⟨szl (by simp), ?_⟩
  repeat' walk_at "dl"
  refine ⟨by omega, szl (by simp; omega), ?_⟩
  rw [replI]
  repeat' walk_at "dl"
  refine ⟨szl (by simp), ?_⟩
  repeat' walk_at "dl"
  have hr3 : RowOk p m (List.replicate m 0) := ⟨List.length_replicate .., fun x hx => by rw [List.eq_of_mem_replicate hx]; omega⟩
  have e3 : PyData.tuple (List.replicate (Int.toNat m) (PyData.int 0)) = rowD (List.replicate m 0) := by unfold rowD; rw [List.map_replicate]; rfl
  rw [e3]
  refine ws_for (wj_rng1 ?_)
  repeat' walk_at "dl"
  refine ⟨_, rfl, by omega, fun i δ => ∃ (c1 : Cell) (t : Tab), δ = [.spr, .dat (.int p), .dat (.int d), .dat (.int m), .dat (.list [rowD r1, rowD r2, rowD (List.replicate m 0)]), c1, .dat (.int way), .own (t.map rowD), .no] ∧ TabOk p i m t, ⟨.no, [], rfl, rfl, fun _ h => nomatch h⟩, fun i dd δ' hi ⟨c1, t, e, ht⟩ => ?_, fun δ' ⟨c1, t, e, ht⟩ => ?_⟩
  · subst e
    obtain ⟨hi, rfl⟩ := rngD_inv hi
    have hi : i < d := by omega
    have hi2 : (0 : Int) + (i : Nat) = (i : Nat) := by omega
    rw [hi2]
    have put : ∀ r : Row, RowOk p m r → ∃ (c1 : Cell) (t' : Tab), ([.spr, .dat (.int p), .dat (.int d), .dat (.int m), .dat (.list [rowD r1, rowD r2, rowD (List.replicate m 0)]), .dat (.int (i : Nat)), .dat (.int way), .own (t.map rowD), .no] : List Cell).set 7 (.own (t.map rowD ++ [rowD r])) = [.spr, .dat (.int p), .dat (.int d), .dat (.int m), .dat (.list [rowD r1, rowD r2, rowD (List.replicate m 0)]), c1, .dat (.int way), .own (t'.map rowD), .no] ∧ TabOk p (i + 1) m t' := fun r hr =>
      ⟨_, t ++ [r], by rw [List.map_append]; rfl, by rw [List.length_append, ht.1]; rfl, fun x hx => by
        rcases List.mem_append.mp hx with z | z
        · exact ht.2 x z
        · rw [List.mem_singleton.mp z]; exact hr⟩
    have hz : (t.map rowD).length < sizeLine := szlt (by rw [List.length_map, ht.1]; omega)
    refine wg_name ?_
    repeat' walk_at "dl"
    all_goals refine ws_append rfl hz ?_
    all_goals repeat' walk_at "dl"
    all_goals first
      | (refine we_fresh (wf_rel (wj_rng1 ?_))
         repeat' walk_at "dl"
         refine ⟨_, rfl, by omega, szl (by rw [rngD_len]; omega), fun _ e => ∃ x, e = .int x ∧ (0 ≤ x ∧ x < p), fun i2 d2 hd2 => ?_, fun es hl hr => ?_⟩
         · obtain ⟨h2, rfl⟩ := rngD_inv hd2
           refine wgv_name (by simp) ?_
           repeat' walk_at "dl"
           split <;> omega
         · obtain ⟨r, rfl, hl, hq⟩ := of_rel hl hr
           refine wa_nil (cw_tupleL ?_)
           exact put r ⟨by rw [hl, rngD_len]; omega, hq⟩)
      | (refine we_callS rfl ?_
         repeat' walk_at "dl"
         refine ⟨⟨_, .inl rfl, by simp, by simp⟩, fun x hx => ?_⟩
         have hx := hx _ (.inl rfl)
         simp only [List.mem_cons, List.not_mem_nil, or_false] at hx
         rcases hx with rfl | rfl | rfl
         · exact put r1 hr1
         · exact put r2 hr2
         · exact put _ hr3)
      | (refine we_callS rfl ?_
         repeat' walk_at "dl"
         refine ⟨⟨p, m, rfl, by omega, by omega⟩, line m [] _ (by omega) fun r hr => put r hr⟩)
      | (rename_i hjm
         have hjm : i < m := by simpa using hjm
         refine we_callS rfl ?_
         repeat' walk_at "dl"
         refine ⟨⟨p, i, rfl, by omega, by omega⟩, line i [] _ (by omega) fun r hr => ?_⟩
         repeat' walk_at "dl"
         refine ow_addT (szl (by simp [hr.1]; omega)) ?_
         repeat' walk_at "dl"
         refine ⟨szl (by simp), ?_⟩
         repeat' walk_at "dl"
         refine ⟨by omega, szl (by simp; omega), ?_⟩
         rw [replI]
         repeat' walk_at "dl"
         refine ow_addT (szl (by simp [hr.1]; omega)) ?_
         have e4 : (PyData.tuple (List.map PyData.int r ++ [PyData.int 1] ++ List.replicate (Int.toNat (↑m - 1 - ↑i)) (PyData.int 0))) = rowD (r ++ [1] ++ List.replicate (m - 1 - i) 0) := by
           unfold rowD
           rw [List.map_append, List.map_append, List.map_replicate]
           have e5 : Int.toNat (↑m - 1 - ↑i) = m - 1 - i := by omega
           rw [e5]
           rfl
         rw [e4]
         refine put _ ⟨by simp [hr.1]; omega, fun x hx => ?_⟩
         rcases List.mem_append.mp hx with z | z
         · rcases List.mem_append.mp z with z | z
           · exact hr.2 x z
           · rw [List.mem_singleton.mp z]; omega
         · rw [List.eq_of_mem_replicate z]; omega)
  · subst e
    refine ws_ret (we_tupOwn rfl ?_)
    intro p' d' m' e
    cases e
    exact ⟨t, rfl, by rw [ht.1, rngD_len]; omega, ht.2⟩
end

end Lw

namespace Lw
open PySem PySem.Spec PyProof.Rows L2 DlP Dl
local macro_rules | `(tactic| walk_at "dl") => `(tactic| first
  | with_reducible refine ws_next ?_
  | with_reducible refine ws_seq ?_
  | with_reducible refine ws_if ?_
  | with_reducible refine wt_not ?_
  | with_reducible refine wt_and ?_
  | with_reducible refine wt_or ?_
  | with_reducible refine wt_chainI ?_
  | with_reducible refine wt_test ?_
  | with_reducible refine wt_B ?_
  | with_reducible refine ws_ret ?_
  | with_reducible refine ws_cont ?_
  | with_reducible refine ws_break ?_
  | with_reducible refine wa_cons ?_
  | with_reducible refine wa_nil ?_
  | ((with_reducible refine we_var (d := ?dd) ?hv ?_); (case hv => exact rfl))
  | with_reducible refine we_int ?_
  | with_reducible refine we_bl ?_
  | with_reducible refine we_non ?_
  | with_reducible refine we_str ?_
  | with_reducible refine we_neg ?_
  | ((with_reducible refine we_spr ?hv ?hw (fun z => ?_)); (case hv => exact rfl); (case hw => decide))
  | ((with_reducible refine ws_spr ?hv ?hw ?_); (case hv => exact rfl); (case hw => decide))
  | with_reducible refine ws_set ?_
  | with_reducible refine ws_asgG ?_
  | with_reducible refine wg_two ?_
  | with_reducible refine wg_name ?_
  | with_reducible refine we_andV ?_
  | with_reducible refine we_orV ?_
  | with_reducible refine we_notV ?_
  | with_reducible refine we_if ?_
  | with_reducible refine we_chainI ?_
  | with_reducible refine we_isN ?_
  | with_reducible refine we_notN ?_
  | with_reducible refine we_repL ?_
  | with_reducible refine we_catLc ?_
  | with_reducible refine we_op ?_
  | with_reducible refine we_isInt ?_
  | with_reducible refine we_isBool ?_
  | with_reducible refine we_isTup ?_
  | with_reducible refine we_cb ?_
  | with_reducible refine we_tup2 ?_
  | with_reducible refine we_tup1 ?_
  | with_reducible refine we_tup ?_
  | with_reducible refine ow_addI ?_
  | with_reducible refine ow_I0b ?_
  | with_reducible refine ow_eqUI ?_
  | with_reducible refine ow_neUI ?_
  | ((with_reducible refine ow_mulI ?hc ?_); (case hc => first | exact cmul_right (by decide) | exact cmul_left (by decide) | exact cmul_right (by omega) | exact cmul_left (by omega)))
  | ((with_reducible refine ow_modN ?hc ?_); (case hc => omega))
  | ((with_reducible refine ow_fdivL ?hc ?_); (case hc => (exact cdivL (by omega) (by omega))))
  | ((with_reducible refine ow_pow ?hc ?_); (case hc => exact ⟨by decide, by decide, by decide⟩))
  | with_reducible refine ow_I0i ?_
  | with_reducible refine cw_int ?_
  | with_reducible refine cw_intB ?_
  | with_reducible refine cw_abs ?_
  | with_reducible refine cw_max2 ?_
  | with_reducible refine cw_min2 ?_
  | with_reducible refine cw_allT ?_
  | with_reducible refine cw_tupleL ?_
  | with_reducible refine cw_tupleT ?_
  | with_reducible refine cw_lenL ?_
  | with_reducible refine cw_lenT ?_
  | with_reducible refine cw_lenScr ?_
  | with_reducible refine ex_int ?_
  | with_reducible refine ex_two ?_
  | with_reducible refine ex_bool ?_
  | with_reducible refine ex_list ?_
  | with_reducible refine ex_tuple ?_
  | with_reducible refine ex_seqL ?_
  | with_reducible refine ex_seqT ?_
  | with_reducible refine and_cases (fun hb => ?_) (fun hb => ?_)
  | with_reducible refine or_cases (fun hb => ?_) (fun hb => ?_))

section
variable {P : Program} {w : World} {K : Fg} {mg : Str → Option Value} {base : Heap}
theorem one_le_pow {p : Int} (hp : 1 ≤ p) : ∀ n : Nat, 1 ≤ p ^ n
  | 0 => by rw [Int.pow_zero]; omega
  | n + 1 => by
    rw [Int.pow_succ]
    have := Int.mul_le_mul (one_le_pow hp n) hp (by omega) (by have := one_le_pow hp n; omega)
    omega
theorem pow_mono {p : Int} (hp : 1 ≤ p) {a b : Nat} (h : a ≤ b) : p ^ a ≤ p ^ b := by
  obtain ⟨c, rfl⟩ := Nat.le.dest h
  rw [Int.pow_add]
  have h1 := one_le_pow hp a
  have h2 := one_le_pow hp c
  have := Int.mul_le_mul_of_nonneg_left h2 (show 0 ≤ p ^ a by omega)
  omega
theorem line_of {p : Int} {n : Nat} {P : D → Prop} (h : ∀ r, RowOk p n r → P (rowD r)) : ∀ d, postLine [.int p, .int n] d → P d := fun d hd => by
  obtain ⟨r, rfl, hr⟩ := hd p n rfl
  exact h r hr
theorem tab_of {p : Int} {n m : Nat} {P : D → Prop} (h : ∀ t, TabOk p n m t → P (tabD t)) : ∀ d, postTab [.int p, .int n, .int m] d → P d := fun d hd => by
  obtain ⟨r, rfl, hr⟩ := hd p n m rfl
  exact h r hr
theorem draw_of {m : Nat} {P : D → Prop} (h : ∀ r : Nat, r < m → P (.int r)) : ∀ d, postDraw [.int m] d → P d := fun d ⟨m', r, e, hd, h0, h1⟩ => by
  cases e
  obtain ⟨j, rfl⟩ := Int.eq_ofNat_of_zero_le h0
  rw [hd]
  exact h j (by omega)
theorem tabs_of {p : Int} {d m : Nat} {n : Nat} {es : List D} (hl : es.length = (rngD 0 n).length) (hr : ∀ (i : Nat) (d' e : D), (rngD 0 n)[i]? = some d' → es[i]? = some e → ∃ t, e = tabD t ∧ TabOk p d m t) : ∃ ts : List Tab, es = ts.map tabD ∧ ts.length = n ∧ ∀ t ∈ ts, TabOk p d m t := by
  obtain ⟨ts, e, h, q⟩ := of_rel hl hr
  exact ⟨ts, e, by rw [h, rngD_len], q⟩
theorem tabD_inj {a b : Tab} (h : tabD a = tabD b) : a = b := by
  unfold tabD at h
  injection h with h
  exact List.map_inj_right (fun x y e => rowD_inj e) |>.mp h
theorem netD_inj {p q : Int} {a b : List Tab} (h : netD p a = netD q b) : p = q ∧ a = b := by
  unfold netD at h
  injection h with h
  injection h with h1 h
  injection h with h2 h
  injection h1 with h1
  injection h2 with h2
  exact ⟨h1, List.map_inj_right (fun x y e => tabD_inj e) |>.mp h2⟩
def preNet (ds : List D) : Prop := ∃ t w : Int, ds = [.int t, .int w] ∧ 7 ≤ t ∧ 7 ≤ w
def postNet (ds : List D) (e : D) : Prop := ∀ t w : Int, ds = [.int t, .int w] → ∃ p ts s d m, e = netD p ts ∧ NetOk p s d m ts ∧ p ^ m ≤ t
def postLarge (_ : List D) (e : D) : Prop := ∃ p ts s d m, e = netD p ts ∧ NetOk p s d m ts
theorem ok__law_large_net {f fD fP fT : Addr} {fd fdD fdP fdT : FuncData} (F : Fun K "_law_large_net" "_law_large_net" s__law_large_net f fd) (B : Bi K mg) (d__law_draw : Df P w K mg base 1 "_law_draw" fD fdD ["spring", "many"] (spS K preDraw postDraw))
    (d__law_pick : Df P w K mg base 2 "_law_pick" fP fdP ["spring", "some"] (spS K prePick postPick)) (d__law_table : Df P w K mg base 3 "_law_table" fT fdT ["spring", "p", "deep", "m"] (spS K preTab postTab)) :
    FnG P w K mg base CX0 4 f fd ["spring"] (spS K (fun ds => ds = []) postLarge) := by
  refine ok_fnS F sc__law_large_net (fun ds e => by rw [e]; rfl) (fun cdv A outer s H E hr hgd => ?_)
  refine ⟨_, (pss_cons (ps_asg (pe_tup (pa_cons (pe_callG d__law_pick.ok (hr.mono (by decide)) hgd (by rfl) d__law_pick.g d__law_pick.kp d__law_pick.b .nil pass0 (pa_cons (pv 0) (pa_cons (pe_lst (pa_cons pe_int (pa_cons pe_int (pa_cons pe_int (pa_cons pe_int pa_nil))))) pa_nil))) (pa_cons (pe_op (op_addUK (K := K) rfl) pe_int (pe_callG d__law_draw.ok (hr.mono (by decide)) hgd (by rfl) d__law_draw.g d__law_draw.kp d__law_draw.b .nil pass0 (pa_cons (pv 0) (pa_cons pe_int pa_nil)))) pa_nil))) (pg_tupK (K := K) (n := 2) rfl (by rfl) (pgs_cons (pg_name (i := 1) sc__law_large_net.nd rfl (by first | exact Or.inl rfl | exact Or.inr rfl)) (pgs_cons (pg_name (i := 2) sc__law_large_net.nd rfl (by first | exact Or.inl rfl | exact Or.inr rfl)) pgs_nil))))
      (pss_cons (ps_asg (pe_tup (pa_cons (pe_op (op_addUK (K := K) rfl) pe_int (pe_callG d__law_draw.ok (hr.mono (by decide)) hgd (by rfl) d__law_draw.g d__law_draw.kp d__law_draw.b .nil pass0 (pa_cons (pv 0) (pa_cons pe_int pa_nil)))) (pa_cons (pe_op (op_addUK (K := K) rfl) pe_int (pe_callG d__law_draw.ok (hr.mono (by decide)) hgd (by rfl) d__law_draw.g d__law_draw.kp d__law_draw.b .nil pass0 (pa_cons (pv 0) (pa_cons pe_int pa_nil)))) pa_nil))) (pg_tupK (K := K) (n := 2) rfl (by rfl) (pgs_cons (pg_name (i := 3) sc__law_large_net.nd rfl (by first | exact Or.inl rfl | exact Or.inr rfl)) (pgs_cons (pg_name (i := 4) sc__law_large_net.nd rfl (by first | exact Or.inl rfl | exact Or.inr rfl)) pgs_nil))))
      (pss_one (ps_ret (pe_tup (pa_cons (pv 1) (pa_cons (pe_callTy (call_tuple_ofK (K := K) rfl) (by rfl) B.z_tuple (by decide +kernel) (pa_cons (pe_lc (own := [("turn", 5)]) (g := (gName 5)) (tt := tYes) (by rfl) sc__law_large_net.nd (pi_range1 (by rfl) B.z_range (pa_cons (pv 4) pa_nil)) (blkOk_by (own := [("turn", 5)]) (N := ["spring", "p", "m", "deep", "many", "turn"]) (sc := defScope s__law_large_net) (by decide +kernel)) (fun _ _ _ _ _ => (pg_name (i := 5) sc__law_large_net.nd rfl (by first | exact Or.inl rfl | exact Or.inr rfl))) (fun _ _ _ _ _ => pts_nil) (fun _ _ _ _ _ => (pe_callG d__law_table.ok (hr.mono (by decide)) hgd (by rfl) d__law_table.g d__law_table.kp d__law_table.b .nil pass0 (pa_cons (pv 0) (pa_cons (pv 1) (pa_cons (pv 3) (pa_cons (pv 2) pa_nil))))))) pa_nil)) pa_nil))))))), ?_⟩
  rintro a ds rfl
  show WS _ (some a) _ _ [.spr, .no, .no, .no, .no, .no]
  walk_at "dl"
  walk_at "dl"
  walk_at "dl"
  refine we_callS rfl ?_
  walk_at "dl"
  refine we_lst ?_
  repeat' walk_at "dl"
  refine ⟨szl (by simp), ?_⟩
  repeat' walk_at "dl"
  refine ⟨⟨_, .inl rfl, by simp, by simp⟩, fun pd hpd => ?_⟩
  have hpd := hpd _ (.inl rfl)
  have hp : ∃ p, pd = .int p ∧ Base p := by
    simp only [List.mem_cons, List.not_mem_nil, or_false] at hpd
    rcases hpd with rfl | rfl | rfl | rfl
    · exact ⟨_, rfl, .inl rfl⟩
    · exact ⟨_, rfl, .inr (.inl rfl)⟩
    · exact ⟨_, rfl, .inr (.inr (.inl rfl))⟩
    · exact ⟨_, rfl, .inr (.inr (.inr rfl))⟩
  obtain ⟨p, rfl, hb⟩ := hp
  repeat' walk_at "dl"
  refine we_callS rfl ?_
  repeat' walk_at "dl"
  refine ⟨⟨12, rfl, by omega, by omega⟩, draw_of (m := 12) fun m hm => ?_⟩
  repeat' walk_at "dl"
  refine we_callS rfl ?_
  repeat' walk_at "dl"
  refine ⟨⟨12, rfl, by omega, by omega⟩, draw_of (m := 12) fun d hd => ?_⟩
  repeat' walk_at "dl"
  refine we_callS rfl ?_
  repeat' walk_at "dl"
  refine ⟨⟨6, rfl, by omega, by omega⟩, draw_of (m := 6) fun s hs => ?_⟩
  repeat' walk_at "dl"
  refine we_fresh (wf_rel (wj_rng1 ?_))
  repeat' walk_at "dl"
  have em : (1 : Int) + (m : Nat) = ((m + 1 : Nat) : Int) := by omega
  have ed : (1 : Int) + (d : Nat) = ((d + 1 : Nat) : Int) := by omega
  refine ⟨_, rfl, by omega, szl (by rw [rngD_len]; omega), fun _ e => ∃ t, e = tabD t ∧ TabOk p (d + 1) (m + 1) t, fun i dd hd => ?_, fun es hl hr => ?_⟩
  · refine wgv_name (by simp) ?_
    refine we_callS rfl ?_
    repeat' walk_at "dl"
    rw [em, ed]
    exact ⟨⟨p, d + 1, m + 1, rfl, hb, by omega, by omega⟩, tab_of fun t ht => ⟨t, rfl, ht⟩⟩
  · obtain ⟨ts, rfl, hl, hq⟩ := tabs_of hl hr
    repeat' walk_at "dl"
    exact ⟨p, ts, s + 1, d + 1, m + 1, rfl, hb, by omega, by omega, by omega, by omega, hq⟩
theorem ok__law_net {f fD fP fT fM : Addr} {fd fdD fdP fdT fdM : FuncData} (F : Fun K "_law_net" "_law_net" s__law_net f fd) (B : Bi K mg) (d__law_draw : Df P w K mg base 1 "_law_draw" fD fdD ["spring", "many"] (spS K preDraw postDraw))
    (d__law_pick : Df P w K mg base 2 "_law_pick" fP fdP ["spring", "some"] (spS K prePick postPick)) (d__law_table : Df P w K mg base 3 "_law_table" fT fdT ["spring", "p", "deep", "m"] (spS K preTab postTab))
    (d__law_most : Df P w K mg base 1 "_law_most" fM fdM ["p", "top"] (spF K preMost postMost)) :
    FnG P w K mg base CX0 4 f fd ["spring", "top", "walk"] (spS K preNet postNet) := by
  refine ok_fnS F sc__law_net (fun ds ⟨_, _, e, _⟩ => by rw [e]; rfl) (fun cdv A outer s H E hr hgd => ?_)
  refine ⟨_, (pss_cons (ps_set (i := 3) sc__law_net.nd rfl (by first | exact Or.inl rfl | exact Or.inr rfl) (pe_callG d__law_pick.ok (hr.mono (by decide)) hgd (by rfl) d__law_pick.g d__law_pick.kp d__law_pick.b .nil pass0 (pa_cons (pv 0) (pa_cons (pe_lst (pa_cons pe_int (pa_cons pe_int (pa_cons pe_int (pa_cons pe_int (pa_cons pe_int (pa_cons pe_int (pa_cons pe_int pa_nil)))))))) pa_nil))))
      (pss_cons (ps_asg (pe_tup (pa_cons (pe_op (op_addUK (K := K) rfl) pe_int (pe_callG d__law_draw.ok (hr.mono (by decide)) hgd (by rfl) d__law_draw.g d__law_draw.kp d__law_draw.b .nil pass0 (pa_cons (pv 0) (pa_cons (pe_callG d__law_most.ok (hr.mono (by decide)) hgd (by rfl) d__law_most.g d__law_most.kp d__law_most.b .nil pass0 (pa_cons (pv 3) (pa_cons (pv 1) pa_nil))) pa_nil)))) (pa_cons (pe_callG d__law_most.ok (hr.mono (by decide)) hgd (by rfl) d__law_most.g d__law_most.kp d__law_most.b .nil pass0 (pa_cons (pv 3) (pa_cons (pv 2) pa_nil))) pa_nil))) (pg_tupK (K := K) (n := 2) rfl (by rfl) (pgs_cons (pg_name (i := 6) sc__law_net.nd rfl (by first | exact Or.inl rfl | exact Or.inr rfl)) (pgs_cons (pg_name (i := 7) sc__law_net.nd rfl (by first | exact Or.inl rfl | exact Or.inr rfl)) pgs_nil))))
      (pss_cons (ps_set (i := 4) sc__law_net.nd rfl (by first | exact Or.inl rfl | exact Or.inr rfl) (pe_op (op_addUK (K := K) rfl) pe_int (pe_callG d__law_draw.ok (hr.mono (by decide)) hgd (by rfl) d__law_draw.g d__law_draw.kp d__law_draw.b .nil pass0 (pa_cons (pv 0) (pa_cons (pe_callB (call_min2 (by rfl)) (by rfl) B.z_min (by decide +kernel) (pa_cons (pv 7) (pa_cons pe_int pa_nil))) pa_nil)))))
      (pss_cons (ps_set (i := 5) sc__law_net.nd rfl (by first | exact Or.inl rfl | exact Or.inr rfl) (pe_op (op_addUK (K := K) rfl) pe_int (pe_callG d__law_draw.ok (hr.mono (by decide)) hgd (by rfl) d__law_draw.g d__law_draw.kp d__law_draw.b .nil pass0 (pa_cons (pv 0) (pa_cons (pe_callB (call_min2 (by rfl)) (by rfl) B.z_min (by decide +kernel) (pa_cons (pe_op op_fdivL (pv 7) (pv 4)) (pa_cons pe_int pa_nil))) pa_nil)))))
      (pss_cons (ps_if (pt_cmpR (op_eqUK (K := K) rfl hr.units) (pv 5) pe_int (nomark _))
      (pss_one (ps_set (i := 5) sc__law_net.nd rfl (by first | exact Or.inl rfl | exact Or.inr rfl) (pe_op (op_addUK (K := K) rfl) pe_int (pe_callG d__law_draw.ok (hr.mono (by decide)) hgd (by rfl) d__law_draw.g d__law_draw.kp d__law_draw.b .nil pass0 (pa_cons (pv 0) (pa_cons (pe_callB (call_min2 (by rfl)) (by rfl) B.z_min (by decide +kernel) (pa_cons (pe_op op_fdivL (pv 7) (pv 4)) (pa_cons pe_int pa_nil))) pa_nil))))))
      pss_nil)
      (pss_one (ps_ret (pe_tup (pa_cons (pv 3) (pa_cons (pe_callTy (call_tuple_ofK (K := K) rfl) (by rfl) B.z_tuple (by decide +kernel) (pa_cons (pe_lc (own := [("turn", 8)]) (g := (gName 8)) (tt := tYes) (by rfl) sc__law_net.nd (pi_range1 (by rfl) B.z_range (pa_cons (pv 5) pa_nil)) (blkOk_by (own := [("turn", 8)]) (N := ["spring", "top", "walk", "p", "deep", "many", "m", "room", "turn"]) (sc := defScope s__law_net) (by decide +kernel)) (fun _ _ _ _ _ => (pg_name (i := 8) sc__law_net.nd rfl (by first | exact Or.inl rfl | exact Or.inr rfl))) (fun _ _ _ _ _ => pts_nil) (fun _ _ _ _ _ => (pe_callG d__law_table.ok (hr.mono (by decide)) hgd (by rfl) d__law_table.g d__law_table.kp d__law_table.b .nil pass0 (pa_cons (pv 0) (pa_cons (pv 3) (pa_cons (pv 4) (pa_cons (pv 6) pa_nil))))))) pa_nil)) pa_nil)))))))))), ?_⟩
  rintro a ds ⟨t, wk, rfl, ht, hw⟩
  show WS _ (some a) _ _ [.spr, .dat (.int t), .dat (.int wk), .no, .no, .no, .no, .no, .no]
  walk_at "dl"
  walk_at "dl"
  refine we_callS rfl ?_
  walk_at "dl"
  refine we_lst ?_
  repeat' walk_at "dl"
  refine ⟨szl (by simp), ?_⟩
  repeat' walk_at "dl"
  refine ⟨⟨_, .inl rfl, by simp, by simp⟩, fun pd hpd => ?_⟩
  have hpd := hpd _ (.inl rfl)
  have hp : ∃ p, pd = .int p ∧ Base p := by
    simp only [List.mem_cons, List.not_mem_nil, or_false] at hpd
    rcases hpd with rfl | rfl | rfl | rfl | rfl | rfl | rfl
    all_goals exact ⟨_, rfl, by unfold Base; omega⟩
  obtain ⟨p, rfl, hb⟩ := hp
  have hpp := hb.pos
  repeat' walk_at "dl"
  refine we_callS rfl ?_
  repeat' walk_at "dl"
  refine we_call ?_
  repeat' walk_at "dl"
  refine ⟨⟨p, t, rfl, hb, by omega⟩, fun dd hdd => ?_⟩
  obtain ⟨k, rfl, hk, hkt⟩ := hdd p t rfl
  repeat' walk_at "dl"
  refine ⟨⟨k, rfl, by omega, by omega⟩, draw_of fun m hm => ?_⟩
  repeat' walk_at "dl"
  refine we_call ?_
  repeat' walk_at "dl"
  refine ⟨⟨p, wk, rfl, hb, by omega⟩, fun dd hdd => ?_⟩
  obtain ⟨room, rfl, hroom, _⟩ := hdd p wk rfl
  repeat' walk_at "dl"
  refine we_callS rfl ?_
  repeat' walk_at "dl"
  have e1 : (if (4 : Int) < (room : Nat) then (4 : Int) else (room : Nat)) = ((min room 4 : Nat) : Int) := by split <;> omega
  rw [e1]
  refine ⟨⟨_, rfl, by omega, by omega⟩, draw_of fun d hd => ?_⟩
  repeat' walk_at "dl"
  have e2 : ((room : Nat) : Int).fdiv (1 + (d : Nat)) = ((room / (d + 1) : Nat) : Int) := by
    rw [Int.fdiv_eq_ediv_of_nonneg _ (by omega), Int.natCast_ediv]
    congr 1
    omega
  have hq : 1 ≤ room / (d + 1) := (Nat.le_div_iff_mul_le (by omega)).mpr (by omega)
  generalize room / (d + 1) = q at e2 hq
  have e3 : (if (6 : Int) < (q : Nat) then (6 : Int) else (q : Nat)) = ((min q 6 : Nat) : Int) := by split <;> omega
  have em : (1 : Int) + (m : Nat) = ((m + 1 : Nat) : Int) := by omega
  have ed : (1 : Int) + (d : Nat) = ((d + 1 : Nat) : Int) := by omega
  have hmk : p ^ (m + 1) ≤ t := by
    refine Int.le_trans ?_ hkt
    exact pow_mono (by omega) (by omega)
  refine we_callS rfl ?_
  repeat' walk_at "dl"
  rw [e2, e3]
  refine ⟨⟨_, rfl, by omega, by omega⟩, draw_of fun s hs => ?_⟩
  repeat' walk_at "dl"
  · refine we_callS rfl ?_
    repeat' walk_at "dl"
    rw [e2, e3]
    refine ⟨⟨_, rfl, by omega, by omega⟩, draw_of fun s hs => ?_⟩
    repeat' walk_at "dl"
    refine we_fresh (wf_rel (wj_rng1 ?_))
    repeat' walk_at "dl"
    refine ⟨_, rfl, by omega, szl (by rw [rngD_len]; omega), fun _ e => ∃ t, e = tabD t ∧ TabOk p (d + 1) (m + 1) t, fun i dd hd => ?_, fun es hl hr => ?_⟩
    · refine wgv_name (by simp) ?_
      refine we_callS rfl ?_
      repeat' walk_at "dl"
      rw [em, ed]
      exact ⟨⟨p, d + 1, m + 1, rfl, hb, by omega, by omega⟩, tab_of fun t ht => ⟨t, rfl, ht⟩⟩
    · obtain ⟨ts, rfl, hl, hq⟩ := tabs_of hl hr
      repeat' walk_at "dl"
      intro t' wk' e
      cases e
      exact ⟨p, ts, s + 1, d + 1, m + 1, rfl, ⟨hb, by omega, by omega, by omega, by omega, hq⟩, hmk⟩
  · refine we_fresh (wf_rel (wj_rng1 ?_))
    repeat' walk_at "dl"
    refine ⟨_, rfl, by omega, szl (by rw [rngD_len]; omega), fun _ e => ∃ t, e = tabD t ∧ TabOk p (d + 1) (m + 1) t, fun i dd hd => ?_, fun es hl hr => ?_⟩
    · refine wgv_name (by simp) ?_
      refine we_callS rfl ?_
      repeat' walk_at "dl"
      rw [em, ed]
      exact ⟨⟨p, d + 1, m + 1, rfl, hb, by omega, by omega⟩, tab_of fun t ht => ⟨t, rfl, ht⟩⟩
    · obtain ⟨ts, rfl, hl, hq⟩ := tabs_of hl hr
      repeat' walk_at "dl"
      intro t' wk' e
      cases e
      exact ⟨p, ts, s + 1, d + 1, m + 1, rfl, ⟨hb, by omega, by omega, by omega, by omega, hq⟩, hmk⟩
end

end Lw

namespace Lw
open PySem PySem.Spec PyProof.Rows L2 DlP Dl
/-! ### figures of a number -/
def digs (p m n : Nat) : List Int := (List.range m).map fun i => (((n / p ^ i) % p : Nat) : Int)
theorem digs_len (p m n : Nat) : (digs p m n).length = m := by unfold digs; rw [List.length_map, List.length_range]
theorem digs_lt {p : Nat} (h : 0 < p) (m n : Nat) : ∀ x ∈ digs p m n, 0 ≤ x ∧ x < (p : Int) := fun x hx => by
  obtain ⟨i, _, rfl⟩ := List.mem_map.mp hx
  have := Nat.mod_lt (n / p ^ i) h
  omega
theorem digs_snoc (p m n : Nat) : digs p (m + 1) n = digs p m n ++ [(((n / p ^ m) % p : Nat) : Int)] := by
  unfold digs
  rw [List.range_succ, List.map_append]
  rfl
theorem digs_lead {p m n f : Nat} (hp : 0 < p) (hn : n < p ^ m) (hf : f < p) : digs p (m + 1) (p ^ m * f + n) = digs p m n ++ [(f : Int)] := by
  rw [digs_snoc]
  have h1 : (p ^ m * f + n) / p ^ m % p = f := by
    rw [Nat.mul_add_div (Nat.pow_pos hp), Nat.div_eq_of_lt hn, Nat.add_zero, Nat.mod_eq_of_lt hf]
  rw [h1]
  congr 1
  unfold digs
  refine List.map_congr_left fun i hi => ?_
  have hi : i < m := List.mem_range.mp hi
  obtain ⟨c, rfl⟩ : ∃ c, m = i + (c + 1) := ⟨m - i - 1, by omega⟩
  have h2 : p ^ (i + (c + 1)) * f + n = p ^ i * (p * (p ^ c * f)) + n := by
    rw [Nat.pow_add, Nat.pow_succ]
    simp only [Nat.mul_assoc, Nat.mul_comm, Nat.mul_left_comm]
  rw [h2, Nat.mul_add_div (Nat.pow_pos hp), Nat.mul_add_mod]
/-! ### a fraction -/
def val (p : Int) (l : List Int) : Int := l.foldl (fun a f => a * p + f) 0
theorem val_snoc (p : Int) (l : List Int) (x : Int) : val p (l ++ [x]) = val p l * p + x := by unfold val; rw [List.foldl_append]; rfl
theorem val_bound {p : Int} (hp : 1 ≤ p) : ∀ (l : List Int), (∀ x ∈ l, 0 ≤ x ∧ x < p) → 0 ≤ val p l ∧ val p l < p ^ l.length := by
  have key : ∀ (l : List Int) (a : Int) (i : Nat), (∀ x ∈ l, 0 ≤ x ∧ x < p) → 0 ≤ a → a < p ^ i → 0 ≤ l.foldl (fun a f => a * p + f) a ∧ l.foldl (fun a f => a * p + f) a < p ^ (i + l.length) := by
    intro l
    induction l with
    | nil => intro a i _ h0 h1; exact ⟨h0, h1⟩
    | cons x l ih =>
      intro a i h h0 h1
      have hx := h x (by simp)
      have := ih (a * p + x) (i + 1) (fun y hy => h y (by simp [hy])) (by have := Int.mul_nonneg h0 (show 0 ≤ p by omega); omega) (by
        rw [Int.pow_succ]
        have := Int.mul_le_mul_of_nonneg_right (show a + 1 ≤ p ^ i by omega) (show 0 ≤ p by omega)
        rw [Int.add_mul] at this
        omega)
      rw [List.length_cons]
      have e : i + (l.length + 1) = i + 1 + l.length := by omega
      rw [e]
      exact this
  intro l h
  have := key l 0 0 h (by omega) (by rw [Int.pow_zero]; omega)
  rw [Nat.zero_add] at this
  exact this
/-- what is left when a number and p ^ k are divided by what divides both -/
def frac (p : Int) (l : List Int) : List Int :=
  [(((val p l).toNat / Nat.gcd (val p l).toNat (p.toNat ^ l.length) : Nat) : Int), ((p.toNat ^ l.length / Nat.gcd (val p l).toNat (p.toNat ^ l.length) : Nat) : Int)]
theorem coprime_of {p w : Nat} (hp : p = 2 ∨ p = 3 ∨ p = 5 ∨ p = 7) (h : w % p ≠ 0) : Nat.Coprime w p := by
  rw [Nat.coprime_iff_gcd_eq_one, Nat.gcd_comm, Nat.gcd_rec]
  have hl := Nat.mod_lt w (show p > 0 by omega)
  generalize w % p = r at h hl
  rcases hp with rfl | rfl | rfl | rfl
  · have : r = 1 := by omega
    subst this; decide
  · have : r = 1 ∨ r = 2 := by omega
    rcases this with rfl | rfl <;> decide
  · have : r = 1 ∨ r = 2 ∨ r = 3 ∨ r = 4 := by omega
    rcases this with rfl | rfl | rfl | rfl <;> decide
  · have : r = 1 ∨ r = 2 ∨ r = 3 ∨ r = 4 ∨ r = 5 ∨ r = 6 := by omega
    rcases this with rfl | rfl | rfl | rfl | rfl | rfl <;> decide
theorem left_over {p n w l i k : Nat} (hp : 0 < p) (h1 : w * p ^ i = n) (h2 : l * p ^ i = p ^ k) (h3 : Nat.gcd w l = 1) : n / Nat.gcd n (p ^ k) = w ∧ p ^ k / Nat.gcd n (p ^ k) = l := by
  have hg : Nat.gcd n (p ^ k) = p ^ i := by rw [← h1, ← h2, Nat.gcd_mul_right, h3, Nat.one_mul]
  rw [hg, ← h1, ← h2, Nat.mul_div_cancel _ (Nat.pow_pos hp), Nat.mul_div_cancel _ (Nat.pow_pos hp)]
  exact ⟨rfl, rfl⟩
end Lw

namespace Lw
open PySem PySem.Spec PyProof.Rows L2 DlP Dl
local macro_rules | `(tactic| walk_at "dl") => `(tactic| first
  | with_reducible refine ws_next ?_
  | with_reducible refine ws_seq ?_
  | with_reducible refine ws_if ?_
  | with_reducible refine wt_not ?_
  | with_reducible refine wt_and ?_
  | with_reducible refine wt_or ?_
  | with_reducible refine wt_chainI ?_
  | with_reducible refine wt_test ?_
  | with_reducible refine wt_B ?_
  | with_reducible refine ws_ret ?_
  | with_reducible refine ws_cont ?_
  | with_reducible refine ws_break ?_
  | with_reducible refine wa_cons ?_
  | with_reducible refine wa_nil ?_
  | ((with_reducible refine we_var (d := ?dd) ?hv ?_); (case hv => exact rfl))
  | with_reducible refine we_int ?_
  | with_reducible refine we_bl ?_
  | with_reducible refine we_non ?_
  | with_reducible refine we_str ?_
  | with_reducible refine we_neg ?_
  | ((with_reducible refine we_spr ?hv ?hw (fun z => ?_)); (case hv => exact rfl); (case hw => decide))
  | ((with_reducible refine ws_spr ?hv ?hw ?_); (case hv => exact rfl); (case hw => decide))
  | with_reducible refine ws_set ?_
  | with_reducible refine ws_asgG ?_
  | with_reducible refine wg_two ?_
  | with_reducible refine wg_name ?_
  | with_reducible refine we_andV ?_
  | with_reducible refine we_orV ?_
  | with_reducible refine we_notV ?_
  | with_reducible refine we_if ?_
  | with_reducible refine we_chainI ?_
  | with_reducible refine we_isN ?_
  | with_reducible refine we_notN ?_
  | with_reducible refine we_repL ?_
  | with_reducible refine we_catLc ?_
  | with_reducible refine we_op ?_
  | with_reducible refine we_isInt ?_
  | with_reducible refine we_isBool ?_
  | with_reducible refine we_isTup ?_
  | with_reducible refine we_cb ?_
  | with_reducible refine we_tup2 ?_
  | with_reducible refine we_tup1 ?_
  | with_reducible refine we_tup ?_
  | with_reducible refine ow_addI ?_
  | with_reducible refine ow_I0b ?_
  | with_reducible refine ow_eqUI ?_
  | with_reducible refine ow_neUI ?_
  | ((with_reducible refine ow_mulI ?hc ?_); (case hc => first | exact cmul_right (by decide) | exact cmul_left (by decide) | exact cmul_right (by omega) | exact cmul_left (by omega)))
  | ((with_reducible refine ow_modN ?hc ?_); (case hc => omega))
  | ((with_reducible refine ow_fdivL ?hc ?_); (case hc => (exact cdivL (by omega) (by omega))))
  | ((with_reducible refine ow_pow ?hc ?_); (case hc => exact ⟨by decide, by decide, by decide⟩))
  | with_reducible refine ow_I0i ?_
  | with_reducible refine cw_int ?_
  | with_reducible refine cw_intB ?_
  | with_reducible refine cw_abs ?_
  | with_reducible refine cw_max2 ?_
  | with_reducible refine cw_min2 ?_
  | with_reducible refine cw_allT ?_
  | with_reducible refine cw_tupleL ?_
  | with_reducible refine cw_tupleT ?_
  | with_reducible refine cw_lenL ?_
  | with_reducible refine cw_lenT ?_
  | with_reducible refine cw_lenScr ?_
  | with_reducible refine ex_int ?_
  | with_reducible refine ex_two ?_
  | with_reducible refine ex_bool ?_
  | with_reducible refine ex_list ?_
  | with_reducible refine ex_tuple ?_
  | with_reducible refine ex_seqL ?_
  | with_reducible refine ex_seqT ?_
  | with_reducible refine and_cases (fun hb => ?_) (fun hb => ?_)
  | with_reducible refine or_cases (fun hb => ?_) (fun hb => ?_))

local macro_rules | `(tactic| walk_at "dl") => `(tactic| first
  | with_reducible refine cw_lenRow ?_
  | with_reducible refine cw_lenTab ?_
  | with_reducible refine ow_net0 ?_
  | with_reducible refine ow_net1 ?_
  | with_reducible refine ow_tabs0 ?_
  | with_reducible refine ow_tab0 ?_
  | with_reducible refine ex_seqRow ?_
  | with_reducible refine ex_seqTab ?_)

section
variable {P : Program} {w : World} {K : Fg} {mg : Str → Option Value} {base : Heap}
theorem NetOk.first {p : Int} {s d m : Nat} {ts : List Tab} (h : NetOk p s d m ts) : ∃ r t ts', ts = (r :: t) :: ts' ∧ r.length = m := by
  obtain ⟨_, ⟨hs, _⟩, ⟨hd, _⟩, _, hl, ht⟩ := h
  cases ts with
  | nil => simp at hl; omega
  | cons t ts' =>
    have h1 := ht t (by simp)
    cases t with
    | nil => have := h1.1; simp at this; omega
    | cons r t => exact ⟨r, t, ts', rfl, (h1.2 r (by simp)).1⟩
/-- the point of a start -/
def ptOf (p : Int) (ts : List Tab) (b : Row) : Tab := ts.map fun t => t.map fun r => (dot r b).fmod p
def intOf : D → Int | .int i => i | _ => 0
def rowOf : D → Row | .tuple xs => xs.map intOf | _ => []
theorem rowOf_rowD (r : Row) : rowOf (rowD r) = r := by
  show (r.map PyData.int).map intOf = r
  rw [List.map_map]
  exact (List.map_congr_left fun _ _ => rfl).trans (List.map_id r)
def preStarts (ds : List D) : Prop := ∃ p m : Nat, ds = [.int p, .int m] ∧ (0 < p ∧ p < 1000) ∧ m < 1000 ∧ p ^ m ≤ 64
def postStarts (ds : List D) (d : D) : Prop := ∀ p m : Nat, ds = [.int p, .int m] → d = .list ((List.range (p ^ m)).map fun n => rowD (digs p m n))
def snocD (f : D) : D → D | .tuple xs => .tuple (xs ++ [f]) | _ => .none
theorem npow_mono {p : Nat} (h : 0 < p) {a b : Nat} (hab : a ≤ b) : p ^ a ≤ p ^ b := Nat.pow_le_pow_right h hab
theorem starts_lead {p i g : Nat} (hp : 0 < p) (hg : g < p) : ((List.range (p ^ i * g)).map fun n => rowD (digs p (i + 1) n)) ++ ((List.range (p ^ i)).map fun n => rowD (digs p i n)).map (snocD (.int g)) = (List.range (p ^ i * (g + 1))).map fun n => rowD (digs p (i + 1) n) := by
  rw [Nat.mul_add, Nat.mul_one, List.range_add, List.map_append, List.map_map, List.map_map]
  congr 1
  refine List.map_congr_left fun n hn => ?_
  have hn : n < p ^ i := List.mem_range.mp hn
  show snocD (.int g) (rowD (digs p i n)) = rowD (digs p (i + 1) (p ^ i * g + n))
  rw [digs_lead hp hn hg]
  unfold rowD
  rw [List.map_append]
  rfl
theorem ok__law_starts {f : Addr} {fd : FuncData} (F : Fun K "_law_starts" "_law_starts" s__law_starts f fd) (B : Bi K mg) : FnG P w K mg base CX0 1 f fd ["p", "m"] (spF K preStarts postStarts) := by
  refine ok_fn F sc__law_starts (fun ds ⟨p, n, e, _⟩ => by rw [e]; rfl) (fun cdv A outer s H E hr hgd => ?_)
  refine ⟨_, (pss_cons (ps_set (i := 2) sc__law_starts.nd rfl (by first | exact Or.inl rfl | exact Or.inr rfl) (pe_lst (pa_cons (pe_tup pa_nil) pa_nil)))
      (pss_cons (ps_for PassesOwn.never (by rfl) (pi_range1 (by rfl) B.z_range (pa_cons (pv 1) pa_nil)) (pg_name (i := 3) sc__law_starts.nd rfl (by first | exact Or.inl rfl | exact Or.inr rfl))
      (pss_cons (ps_set (i := 4) sc__law_starts.nd rfl (by first | exact Or.inl rfl | exact Or.inr rfl) (pe_lst pa_nil))
      (pss_cons (ps_for PassesOwn.never (by rfl) (pi_range1 (by rfl) B.z_range (pa_cons (pv 0) pa_nil)) (pg_name (i := 5) sc__law_starts.nd rfl (by first | exact Or.inl rfl | exact Or.inr rfl))
      (pss_one (ps_set (i := 4) sc__law_starts.nd rfl (by first | exact Or.inl rfl | exact Or.inr rfl) (pe_op (op_addUK (K := K) rfl) (pv 4) (pe_lc (own := [("row", 6)]) (g := (gName 6)) (tt := tYes) (by rfl) sc__law_starts.nd (pi_seqK (K := K) rfl (pv 2)) (blkOk_by (own := [("row", 6)]) (N := ["p", "m", "rows", "turn", "later", "fig", "row"]) (sc := defScope s__law_starts) (by decide +kernel)) (fun _ _ _ _ _ => (pg_name (i := 6) sc__law_starts.nd rfl (by first | exact Or.inl rfl | exact Or.inr rfl))) (fun _ _ _ _ _ => pts_nil) (fun _ _ _ _ _ => (pe_op (op_addUK (K := K) rfl) (pv 6) (pe_tup (pa_cons (pv 5) pa_nil)))))))))
      (pss_one (ps_set (i := 2) sc__law_starts.nd rfl (by first | exact Or.inl rfl | exact Or.inr rfl) (pv 4))))))
      (pss_one (ps_ret (pv 2))))), ?_⟩
  rintro ds ⟨p, m, rfl, hp, hm, h64⟩
  show WS _ none _ _ [.dat (.int p), .dat (.int m), .no, .no, .no, .no, .no]
  walk_at "dl"
  walk_at "dl"
  refine we_lst ?_
  repeat' walk_at "dl"
  refine ⟨szl (by simp), ?_⟩
  repeat' walk_at "dl"
  refine ⟨szl (by simp), ?_⟩
  repeat' walk_at "dl"
  refine ws_for (wj_rng1 ?_)
  repeat' walk_at "dl"
  refine ⟨_, rfl, by omega, fun i δ => ∃ c1 c2 c3, δ = [.dat (.int p), .dat (.int m), .dat (.list ((List.range (p ^ i)).map fun n => rowD (digs p i n))), c1, c2, c3, .no], ⟨_, _, _, rfl⟩, fun i d δ' hd ⟨c1, c2, c3, e⟩ => ?_, fun δ' ⟨c1, c2, c3, e⟩ => ?_⟩
  · subst e
    obtain ⟨hi, rfl⟩ := rngD_inv hd
    have hi : i < m := by omega
    have hpi : p ^ (i + 1) ≤ 64 := Nat.le_trans (npow_mono hp.1 hi) h64
    have hp1 : p ^ i * p ≤ 64 := by rw [← Nat.pow_succ]; exact hpi
    refine wg_name ?_
    walk_at "dl"
    walk_at "dl"
    refine we_lst ?_
    repeat' walk_at "dl"
    refine ⟨szl (by simp), ?_⟩
    repeat' walk_at "dl"
    refine ws_for (wj_rng1 ?_)
    repeat' walk_at "dl"
    refine ⟨_, rfl, by omega, fun g δ => ∃ c1 c3, δ = [.dat (.int p), .dat (.int m), .dat (.list ((List.range (p ^ i)).map fun n => rowD (digs p i n))), c1, .dat (.list ((List.range (p ^ i * g)).map fun n => rowD (digs p (i + 1) n))), c3, .no], ⟨_, _, rfl⟩, fun g d δ' hd ⟨c1, c3, e⟩ => ?_, fun δ' ⟨c1, c3, e⟩ => ?_⟩
    · subst e
      obtain ⟨hg, rfl⟩ := rngD_inv hd
      have hg : g < p := by omega
      have hi2 : (0 : Int) + (g : Nat) = (g : Nat) := by omega
      rw [hi2]
      have hs : p ^ i * (g + 1) ≤ 64 := Nat.le_trans (Nat.mul_le_mul_left _ hg) hp1
      have hs1 : p ^ i ≤ 64 := Nat.le_trans (Nat.le_mul_of_pos_right _ hp.1) hp1
      rw [Nat.mul_add, Nat.mul_one] at hs
      refine wg_name ?_
      repeat' walk_at "dl"
      refine wf_map (snocD (.int g)) (wj_seq ?_)
      repeat' walk_at "dl"
      refine ⟨szl (by simp; omega), fun j d hd => ?_, szl (by simp; omega), ?_⟩
      · obtain ⟨n, _, rfl⟩ := get_map hd
        refine wgv_name (by simp) ?_
        repeat' walk_at "dl"
        refine ow_addT (szl (by simp [digs_len]; omega)) ?_
        rfl
      · rw [starts_lead hp.1 hg]
        exact ⟨_, _, rfl⟩
    · subst e
      repeat' walk_at "dl"
      rw [rngD_len, Int.toNat_natCast, ← Nat.pow_succ]
      exact ⟨_, _, _, rfl⟩
  · subst e
    repeat' walk_at "dl"
    rw [rngD_len, Int.toNat_natCast]
    intro p' m' e
    cases e
    rfl
def prePt (ds : List D) : Prop := ∃ p s d m ts b, ds = [netD p ts, rowD b] ∧ NetOk p s d m ts ∧ RowOk p m b
def postPt (ds : List D) (e : D) : Prop := ∀ p ts b, ds = [netD p ts, rowD b] → e = tabD (ptOf p ts b)
theorem pt_line (p : Int) (t : Tab) (b : Row) : PyData.tuple ((t.map rowD).map fun d => .int ((dot (rowOf d) b).fmod p)) = rowD (t.map fun r => (dot r b).fmod p) := by
  unfold rowD
  rw [List.map_map, List.map_map]
  congr 1
  exact List.map_congr_left fun r _ => by show PyData.int ((dot (rowOf (rowD r)) b).fmod p) = _; rw [rowOf_rowD]; rfl
theorem pt_snoc {p : Int} {ts : List Tab} {b : Row} {i : Nat} {t : Tab} (h : ts[i]? = some t) : (ptOf p (ts.take i) b).map rowD ++ [rowD (t.map fun r => (dot r b).fmod p)] = (ptOf p (ts.take (i + 1)) b).map rowD := by
  unfold ptOf
  rw [List.take_succ, h]
  simp
theorem ok__law_point {f fT : Addr} {fd fdT : FuncData} (F : Fun K "_law_point" "_law_point" s__law_point f fd) (B : Bi K mg) (d__law_times : Df P w K mg base 1 "_law_times" fT fdT ["p", "left", "right"] (spF K preDot postDot)) : FnG P w K mg base CX0 2 f fd ["web", "begin"] (spF K prePt postPt) := by
  refine ok_fn F sc__law_point (fun ds ⟨_, _, _, _, _, _, e, _⟩ => by rw [e]; rfl) (fun cdv A outer s H E hr hgd => ?_)
  refine ⟨_, (pss_cons (ps_set (i := 2) sc__law_point.nd rfl (by first | exact Or.inl rfl | exact Or.inr rfl) (pe_lst pa_nil))
      (pss_cons (ps_for PassesOwn.never (by rfl) (pi_seqK (K := K) rfl (pe_ix (ix_seqK (K := K) rfl) (pv 0) pe_int (fun _ _ => rfl))) (pg_name (i := 3) sc__law_point.nd rfl (by first | exact Or.inl rfl | exact Or.inr rfl))
      (pss_one (ps_expr (pe_bm PySem.F.plainAttrs_list PySem.F.slot_list_append PySem.F.type_list_append mt_append (pv 2) (pa_cons (pe_callTy (call_tuple_ofK (K := K) rfl) (by rfl) B.z_tuple (by decide +kernel) (pa_cons (pe_lc (own := [("row", 4)]) (g := (gName 4)) (tt := tYes) (by rfl) sc__law_point.nd (pi_seqK (K := K) rfl (pv 3)) (blkOk_by (own := [("row", 4)]) (N := ["web", "begin", "found", "table", "row"]) (sc := defScope s__law_point) (by decide +kernel)) (fun _ _ _ _ _ => (pg_name (i := 4) sc__law_point.nd rfl (by first | exact Or.inl rfl | exact Or.inr rfl))) (fun _ _ _ _ _ => pts_nil) (fun _ _ _ _ _ => (pe_callG d__law_times.ok (hr.mono (by decide)) hgd (by rfl) d__law_times.g d__law_times.kp d__law_times.b .nil pass0 (pa_cons (pe_ix (ix_seqK (K := K) rfl) (pv 0) pe_int (fun _ _ => rfl)) (pa_cons (pv 4) (pa_cons (pv 1) pa_nil)))))) pa_nil)) pa_nil)))))
      (pss_one (ps_ret (pe_callTy (call_tuple_ofK (K := K) rfl) (by rfl) B.z_tuple (by decide +kernel) (pa_cons (pv 2) pa_nil)))))), ?_⟩
  rintro ds ⟨p, s, d, m, ts, b, rfl, hn, hb⟩
  have hp := hn.1.pos
  show WS _ none _ _ [.dat (netD p ts), .dat (rowD b), .no, .no, .no]
  walk_at "dl"
  refine ws_setF (wf_lst ?_)
  repeat' walk_at "dl"
  refine ⟨szl (by simp), ?_⟩
  repeat' walk_at "dl"
  refine ws_for (wj_seq ?_)
  repeat' walk_at "dl"
  refine ⟨fun i δ => ∃ c, δ = [.dat (netD p ts), .dat (rowD b), .own ((ptOf p (ts.take i) b).map rowD), c, .no], ⟨_, rfl⟩, fun i dd δ' hd ⟨c, e⟩ => ?_, fun δ' ⟨c, e⟩ => ?_⟩
  · subst e
    obtain ⟨t, ht, rfl⟩ := get_map hd
    have hi : i < ts.length := (List.getElem?_eq_some_iff.mp ht).1
    have htm := List.mem_of_getElem? ht
    have hto := hn.2.2.2.2.2 t htm
    refine wg_name ?_
    refine ws_append rfl (szlt (by simp [ptOf]; have := hn.2.1; have := hn.2.2.2.2.1; omega)) ?_
    repeat' walk_at "dl"
    refine we_fresh (wf_map (fun d => .int ((dot (rowOf d) b).fmod p)) (wj_seq ?_))
    repeat' walk_at "dl"
    refine ⟨szl (by simp [hto.1]; have := hn.2.2.1; omega), fun j d hd => ?_, ?_⟩
    · obtain ⟨r, hr, rfl⟩ := get_map hd
      have hrm := hto.2 r (List.mem_of_getElem? hr)
      refine wgv_name (by simp) ?_
      refine we_call ?_
      repeat' walk_at "dl"
      refine ⟨⟨p, r, b, rfl, by omega, by rw [hrm.1]; have := hn.2.2.2.1; omega, fun x hx => by have := hrm.2 x hx; omega⟩, fun e he => ?_⟩
      rw [he p r b rfl, rowOf_rowD]
    · refine wa_nil (cw_tupleL ?_)
      rw [pt_line, pt_snoc ht]
      exact ⟨_, rfl⟩
  · subst e
    refine ws_ret (we_tupOwn rfl ?_)
    rw [List.length_map, List.take_length]
    intro p' ts' b' e
    injection e with e1 e
    injection e with e2 e
    rw [← (netD_inj e1).1, ← (netD_inj e1).2, ← rowD_inj e2]
    rfl
def preWeb (ds : List D) : Prop := ∃ p s d m ts, ds = [netD p ts] ∧ NetOk p s d m ts ∧ p ^ m ≤ 64
/-- the points of all starts -/
def allPts (p : Int) (m : Nat) (ts : List Tab) : List Tab := (List.range (p.toNat ^ m)).map fun n => ptOf p ts (digs p.toNat m n)
def postPts (ds : List D) (e : D) : Prop := ∀ p s d m ts, ds = [netD p ts] → NetOk p s d m ts → e = .list ((allPts p m ts).map tabD)
theorem NetOk.width {p : Int} {s d m s' d' m' : Nat} {ts : List Tab} (h : NetOk p s d m ts) (h' : NetOk p s' d' m' ts) : m = m' := by
  obtain ⟨r, t, ts', e, hr⟩ := h.first
  obtain ⟨r2, t2, ts2, e2, hr2⟩ := h'.first
  subst e
  cases e2
  omega
theorem ok__law_points {f fT fS : Addr} {fd fdT fdS : FuncData} (F : Fun K "_law_points" "_law_points" s__law_points f fd) (B : Bi K mg) (d__law_point : Df P w K mg base 2 "_law_point" fT fdT ["web", "begin"] (spF K prePt postPt))
    (d__law_starts : Df P w K mg base 1 "_law_starts" fS fdS ["p", "m"] (spF K preStarts postStarts)) : FnG P w K mg base CX0 3 f fd ["web"] (spF K preWeb postPts) := by
  refine ok_fn F sc__law_points (fun ds ⟨_, _, _, _, _, e, _⟩ => by rw [e]; rfl) (fun cdv A outer s H E hr hgd => ?_)
  refine ⟨_, (pss_one (ps_ret (pe_lc (own := [("begin", 1)]) (g := (gName 1)) (tt := tYes) (by rfl) sc__law_points.nd (pi_seqK (K := K) rfl (pe_callG d__law_starts.ok (hr.mono (by decide)) hgd (by rfl) d__law_starts.g d__law_starts.kp d__law_starts.b .nil pass0 (pa_cons (pe_ix (ix_seqK (K := K) rfl) (pv 0) pe_int (fun _ _ => rfl)) (pa_cons (pe_callB (call_lenK (K := K) rfl) (by rfl) B.z_len (by decide +kernel) (pa_cons (pe_ix (ix_seqK (K := K) rfl) (pe_ix (ix_seqK (K := K) rfl) (pe_ix (ix_seqK (K := K) rfl) (pv 0) pe_int (fun _ _ => rfl)) pe_int (fun _ _ => rfl)) pe_int (fun _ _ => rfl)) pa_nil)) pa_nil)))) (blkOk_by (own := [("begin", 1)]) (N := ["web", "begin"]) (sc := defScope s__law_points) (by decide +kernel)) (fun _ _ _ _ _ => (pg_name (i := 1) sc__law_points.nd rfl (by first | exact Or.inl rfl | exact Or.inr rfl))) (fun _ _ _ _ _ => pts_nil) (fun _ _ _ _ _ => (pe_callG d__law_point.ok (hr.mono (by decide)) hgd (by rfl) d__law_point.g d__law_point.kp d__law_point.b .nil pass0 (pa_cons (pv 0) (pa_cons (pv 1) pa_nil))))))), ?_⟩
  rintro ds ⟨p, s, d, m, ts, rfl, hn, h64⟩
  have hp := hn.1.pos
  obtain ⟨pn, rfl⟩ := Int.eq_ofNat_of_zero_le (show 0 ≤ p by omega)
  obtain ⟨r0, t0, ts', ets, hr0⟩ := hn.first
  have h64n : pn ^ m ≤ 64 := by
    have e : ((pn ^ m : Nat) : Int) = (pn : Int) ^ m := by simp
    omega
  have hm := hn.2.2.2.1
  show WS _ none _ _ [.dat (netD pn ts), .no]
  walk_at "dl"
  refine we_fresh (wf_map (fun d => tabD (ptOf pn ts (rowOf d))) (wj_seq ?_))
  refine we_call ?_
  subst ets
  repeat' walk_at "dl"
  refine ⟨⟨pn, r0.length, rfl, by omega, by omega, by rw [hr0]; exact h64n⟩, fun sd hsd => ?_⟩
  rw [hsd pn r0.length rfl, hr0]
  repeat' walk_at "dl"
  refine ⟨szl (by simp; omega), fun i d hd => ?_, ?_⟩
  · obtain ⟨n, _, rfl⟩ := get_map hd
    refine wgv_name (by simp) ?_
    refine we_call ?_
    repeat' walk_at "dl"
    refine ⟨⟨pn, s, _, m, _, digs pn m n, rfl, hn, digs_len _ _ _, digs_lt (by omega) _ _⟩, fun e he => ?_⟩
    rw [he _ _ _ rfl, rowOf_rowD]
  · intro p' s' d' m' ts2 e hn2
    injection e with e1 e
    have e2 := (netD_inj e1).1
    have e3 := (netD_inj e1).2
    subst e3
    subst e2
    have em := hn2.width hn
    subst em
    unfold allPts
    rw [List.map_map, List.map_map, Int.toNat_natCast]
    congr 1
    exact List.map_congr_left fun n _ => by show tabD (ptOf _ _ (rowOf (rowD _))) = _; rw [rowOf_rowD]; rfl
end

end Lw

namespace Lw
open PySem PySem.Spec PyProof.Rows L2 DlP Dl
theorem piled_le {b : Nat} : ∀ {ts : List Str}, (∀ t ∈ ts, t.length ≤ b) → piled ts ≤ ts.length * (b + 2)
  | [], _ => by rw [piled_nil]; omega
  | t :: ts, h => by
    have h1 := h t (by simp)
    have h2 := piled_le (ts := ts) fun x hx => h x (by simp [hx])
    rw [piled_cons, List.length_cons, Nat.add_mul]
    omega
theorem shownAll_map : ∀ ds : List D, PyData.shownAll ds = ds.map PyData.shown
  | [] => by simp only [PyData.shownAll, List.map_nil]
  | d :: ds => by simp only [PyData.shownAll, List.map_cons, shownAll_map ds]
theorem tup_len {b : Nat} {ds : List D} (h : ∀ d ∈ ds, d.shown.length ≤ b) : (PyData.tuple ds).shown.length ≤ ds.length * (b + 2) + 3 := by
  have e : (PyData.tuple ds).shown = tupleText (PyData.shownAll ds) := by simp only [PyData.shown]
  rw [e, shownAll_map]
  have h2 := piled_le (ts := ds.map PyData.shown) (b := b) fun t ht => by
    obtain ⟨d, hd, rfl⟩ := List.mem_map.mp ht
    exact h d hd
  rw [List.length_map] at h2
  have h3 : (Str.join ", " (ds.map PyData.shown)).length ≤ piled (ds.map PyData.shown) := by
    by_cases z : ds.map PyData.shown = []
    · rw [z]; exact Nat.le_of_eq rfl
    · have := join_length_add _ z; omega
  have e3 : (Str.ofString "(").length = 1 := by decide
  have e4 : (Str.ofString ",)").length = 2 := by decide
  have e5 : (Str.ofString ")").length = 1 := by decide
  unfold tupleText
  rw [Str.length_append, Str.length_append]
  split
  · rw [e3, e4]; omega
  · rw [e3, e5]; omega
theorem showableAll_of : ∀ {ds : List D}, (∀ d ∈ ds, d.showable = true) → PyData.showableAll ds = true
  | [], _ => by simp only [PyData.showableAll]
  | d :: ds, h => by
    simp only [PyData.showableAll]
    rw [h d (by simp), showableAll_of fun x hx => h x (by simp [hx])]
    rfl
theorem noDictAll_of : ∀ {ds : List D}, (∀ d ∈ ds, d.hasDict = false) → PyData.hasDictAll ds = false
  | [], _ => by simp only [PyData.hasDictAll]
  | d :: ds, h => by
    simp only [PyData.hasDictAll]
    rw [h d (by simp), noDictAll_of fun x hx => h x (by simp [hx])]
    rfl
theorem depthAll_of {b : Nat} : ∀ {ds : List D}, (∀ d ∈ ds, d.depth ≤ b) → PyData.depthAll ds ≤ b
  | [], _ => by simp only [PyData.depthAll]; omega
  | d :: ds, h => by
    simp only [PyData.depthAll]
    have h1 := h d (by simp)
    have h2 := depthAll_of (ds := ds) fun x hx => h x (by simp [hx])
    omega
/-- data that may be shown, of some depth and length -/
def Shw (d : D) (k b : Nat) : Prop := d.showable = true ∧ d.hasDict = false ∧ d.depth ≤ k ∧ d.shown.length ≤ b
theorem Shw.tup {ds : List D} {k b n : Nat} (h : ∀ d ∈ ds, Shw d k b) (hn : ds.length ≤ n) : Shw (.tuple ds) (k + 1) (n * (b + 2) + 3) := by
  refine ⟨?_, ?_, ?_, ?_⟩
  · simp only [PyData.showable]; exact showableAll_of fun d hd => (h d hd).1
  · simp only [PyData.hasDict]; exact noDictAll_of fun d hd => (h d hd).2.1
  · simp only [PyData.depth]; exact Nat.succ_le_succ (depthAll_of fun d hd => (h d hd).2.2.1)
  · exact Nat.le_trans (tup_len fun d hd => (h d hd).2.2.2) (Nat.add_le_add_right (Nat.mul_le_mul_right _ hn) 3)
theorem Shw.int {i : Int} (h0 : 0 ≤ i) (h : i < 2 ^ 62) : Shw (.int i) 0 1921 := by
  have hl : i.natAbs.log2 < 1920 := by
    by_cases z : i.natAbs = 0
    · rw [z]; decide
    · exact Nat.lt_trans ((Nat.log2_lt z).mpr (show i.natAbs < 2 ^ 62 by omega)) (by decide)
  refine ⟨?_, ?_, ?_, ?_⟩
  · simp only [PyData.showable]; exact decide_eq_true hl
  · simp only [PyData.hasDict]
  · simp only [PyData.depth]; omega
  · simp only [PyData.shown]; exact int_text_len_1921 hl
theorem Shw.showD {d : D} {k b : Nat} (h : Shw d k b) (hk : k ≤ 60) (hb : b ≤ 16777216) : ShowD d := ⟨h.1, h.2.1, Nat.le_trans h.2.2.1 hk, Nat.le_trans h.2.2.2 (szl hb)⟩
theorem shw_row {r : Row} (h : ∀ x ∈ r, 0 ≤ x ∧ x < 2 ^ 62) (hl : r.length ≤ 12) : Shw (rowD r) 1 23079 :=
  Shw.tup (k := 0) (b := 1921) (n := 12) (fun d hd => by obtain ⟨x, hx, rfl⟩ := List.mem_map.mp hd; exact Shw.int (h x hx).1 (h x hx).2) (by rw [List.length_map]; exact hl)
theorem shw_tab {t : Tab} (h : ∀ r ∈ t, (∀ x ∈ r, 0 ≤ x ∧ x < 2 ^ 62) ∧ r.length ≤ 12) (hl : t.length ≤ 6) : Shw (tabD t) 2 138489 :=
  Shw.tup (k := 1) (b := 23079) (n := 6) (fun d hd => by obtain ⟨r, hr, rfl⟩ := List.mem_map.mp hd; exact shw_row (h r hr).1 (h r hr).2) (by rw [List.length_map]; exact hl)
theorem shw_tabs {ts : List Tab} (h : ∀ t ∈ ts, (∀ r ∈ t, (∀ x ∈ r, 0 ≤ x ∧ x < 2 ^ 62) ∧ r.length ≤ 12) ∧ t.length ≤ 6) (hl : ts.length ≤ 64) : Shw (.tuple (ts.map tabD)) 3 8863427 :=
  Shw.tup (k := 2) (b := 138489) (n := 64) (fun d hd => by obtain ⟨t, ht, rfl⟩ := List.mem_map.mp hd; exact shw_tab (h t ht).1 (h t ht).2) (by rw [List.length_map]; exact hl)
theorem pt_small {p : Int} {s d m : Nat} {ts : List Tab} {b : Row} (hn : NetOk p s d m ts) : (∀ r ∈ ptOf p ts b, (∀ x ∈ r, 0 ≤ x ∧ x < p) ∧ r.length ≤ 12) ∧ (ptOf p ts b).length ≤ 6 := by
  have hp := hn.1.pos
  refine ⟨fun r hr => ?_, ?_⟩
  · obtain ⟨t, ht, rfl⟩ := List.mem_map.mp hr
    have hto := hn.2.2.2.2.2 t ht
    refine ⟨fun x hx => ?_, ?_⟩
    · obtain ⟨q, _, rfl⟩ := List.mem_map.mp hx
      exact fmod_lt (by omega)
    · rw [List.length_map, hto.1]; exact hn.2.2.1.2
  · unfold ptOf
    rw [List.length_map, hn.2.2.2.2.1]
    exact hn.2.1.2
theorem frac_small {p : Int} {l : Row} (hp : Base p) (h : ∀ x ∈ l, 0 ≤ x ∧ x < p) (hl : l.length ≤ 12) : (∀ x ∈ frac p l, 0 ≤ x ∧ x < 2 ^ 62) ∧ (frac p l).length ≤ 12 := by
  have hpp := hp.pos
  obtain ⟨pn, rfl⟩ := Int.eq_ofNat_of_zero_le (show 0 ≤ p by omega)
  have hv := val_bound (p := pn) (by omega) l h
  have hb : pn ^ l.length ≤ 7 ^ 12 := Nat.le_trans (Nat.pow_le_pow_left (by omega) _) (Nat.pow_le_pow_right (by omega) hl)
  have hb2 : (pn : Int) ^ l.length = ((pn ^ l.length : Nat) : Int) := by simp
  have hs : (7 : Nat) ^ 12 < 2 ^ 62 := by decide
  refine ⟨fun x hx => ?_, by simp [frac]⟩
  unfold frac at hx
  rw [Int.toNat_natCast] at hx
  rcases List.mem_cons.mp hx with e | e
  · rw [e]
    have := Nat.div_le_self (val pn l).toNat (Nat.gcd (val pn l).toNat (pn ^ l.length))
    generalize (val pn l).toNat / Nat.gcd (val pn l).toNat (pn ^ l.length) = q at this
    omega
  · rw [List.mem_singleton.mp e]
    have := Nat.div_le_self (pn ^ l.length) (Nat.gcd (val pn l).toNat (pn ^ l.length))
    generalize pn ^ l.length / Nat.gcd (val pn l).toNat (pn ^ l.length) = q at this
    omega
end Lw

namespace Lw
open PySem PySem.Spec PyProof.Rows L2 DlP Dl
local macro_rules | `(tactic| walk_at "dl") => `(tactic| first
  | with_reducible refine ws_next ?_
  | with_reducible refine ws_seq ?_
  | with_reducible refine ws_if ?_
  | with_reducible refine wt_not ?_
  | with_reducible refine wt_and ?_
  | with_reducible refine wt_or ?_
  | with_reducible refine wt_chainI ?_
  | with_reducible refine wt_test ?_
  | with_reducible refine wt_B ?_
  | with_reducible refine ws_ret ?_
  | with_reducible refine ws_cont ?_
  | with_reducible refine ws_break ?_
  | with_reducible refine wa_cons ?_
  | with_reducible refine wa_nil ?_
  | ((with_reducible refine we_var (d := ?dd) ?hv ?_); (case hv => exact rfl))
  | with_reducible refine we_int ?_
  | with_reducible refine we_bl ?_
  | with_reducible refine we_non ?_
  | with_reducible refine we_str ?_
  | with_reducible refine we_neg ?_
  | ((with_reducible refine we_spr ?hv ?hw (fun z => ?_)); (case hv => exact rfl); (case hw => decide))
  | ((with_reducible refine ws_spr ?hv ?hw ?_); (case hv => exact rfl); (case hw => decide))
  | with_reducible refine ws_set ?_
  | with_reducible refine ws_asgG ?_
  | with_reducible refine wg_two ?_
  | with_reducible refine wg_name ?_
  | with_reducible refine we_andV ?_
  | with_reducible refine we_orV ?_
  | with_reducible refine we_notV ?_
  | with_reducible refine we_if ?_
  | with_reducible refine we_chainI ?_
  | with_reducible refine we_isN ?_
  | with_reducible refine we_notN ?_
  | with_reducible refine we_repL ?_
  | with_reducible refine we_catLc ?_
  | with_reducible refine we_op ?_
  | with_reducible refine we_isInt ?_
  | with_reducible refine we_isBool ?_
  | with_reducible refine we_isTup ?_
  | with_reducible refine we_cb ?_
  | with_reducible refine we_tup2 ?_
  | with_reducible refine we_tup1 ?_
  | with_reducible refine we_tup ?_
  | with_reducible refine ow_addI ?_
  | with_reducible refine ow_I0b ?_
  | with_reducible refine ow_eqUI ?_
  | with_reducible refine ow_neUI ?_
  | ((with_reducible refine ow_mulI ?hc ?_); (case hc => first | exact cmul_right (by decide) | exact cmul_left (by decide) | exact cmul_right (by omega) | exact cmul_left (by omega)))
  | ((with_reducible refine ow_modN ?hc ?_); (case hc => omega))
  | ((with_reducible refine ow_fdivL ?hc ?_); (case hc => (exact cdivL (by omega) (by omega))))
  | ((with_reducible refine ow_pow ?hc ?_); (case hc => exact ⟨by decide, by decide, by decide⟩))
  | with_reducible refine ow_I0i ?_
  | with_reducible refine cw_int ?_
  | with_reducible refine cw_intB ?_
  | with_reducible refine cw_abs ?_
  | with_reducible refine cw_max2 ?_
  | with_reducible refine cw_min2 ?_
  | with_reducible refine cw_allT ?_
  | with_reducible refine cw_tupleL ?_
  | with_reducible refine cw_tupleT ?_
  | with_reducible refine cw_lenL ?_
  | with_reducible refine cw_lenT ?_
  | with_reducible refine cw_lenScr ?_
  | with_reducible refine ex_int ?_
  | with_reducible refine ex_two ?_
  | with_reducible refine ex_bool ?_
  | with_reducible refine ex_list ?_
  | with_reducible refine ex_tuple ?_
  | with_reducible refine ex_seqL ?_
  | with_reducible refine ex_seqT ?_
  | with_reducible refine and_cases (fun hb => ?_) (fun hb => ?_)
  | with_reducible refine or_cases (fun hb => ?_) (fun hb => ?_))

local macro_rules | `(tactic| walk_at "dl") => `(tactic| first
  | with_reducible refine cw_lenRow ?_
  | with_reducible refine cw_lenTab ?_
  | with_reducible refine ow_net0 ?_
  | with_reducible refine ow_net1 ?_
  | with_reducible refine ow_tabs0 ?_
  | with_reducible refine ow_tab0 ?_
  | with_reducible refine ex_seqRow ?_
  | with_reducible refine ex_seqTab ?_)

section
variable {P : Program} {w : World} {K : Fg} {mg : Str → Option Value} {base : Heap}
def prePlace (ds : List D) : Prop := ∃ (p : Int) (r : Row), ds = [.int p, rowD r] ∧ Base p ∧ r.length ≤ 12 ∧ ∀ x ∈ r, 0 ≤ x ∧ x < p
def postPlace (ds : List D) (d : D) : Prop := ∀ (p : Int) (r : Row), ds = [.int p, rowD r] → d = rowD (frac p r)
theorem fdivN (a b : Nat) : ((a : Nat) : Int).fdiv (b : Nat) = ((a / b : Nat) : Int) := by rw [Int.fdiv_eq_ediv_of_nonneg _ (by omega), Int.natCast_ediv]
theorem fmodN (a b : Nat) : ((a : Nat) : Int).fmod (b : Nat) = ((a % b : Nat) : Int) := by rw [Int.fmod_eq_emod_of_nonneg _ (by omega), Int.natCast_emod]
theorem powN (a b : Nat) : ((a : Nat) : Int) ^ b = ((a ^ b : Nat) : Int) := by simp
theorem Base.nat {p : Nat} (h : Base p) : p = 2 ∨ p = 3 ∨ p = 5 ∨ p = 7 := by unfold Base at h; omega
theorem ok__law_place {f fW : Addr} {fd fdW : FuncData} (F : Fun K "_law_place" "_law_place" s__law_place f fd) (B : Bi K mg) (d__law_power : Df P w K mg base 1 "_law_power" fW fdW ["p", "many"] (spF K prePow postPow)) : FnG P w K mg base CX0 2 f fd ["p", "line"] (spF K prePlace postPlace) := by
  refine ok_fn F sc__law_place (fun ds ⟨_, _, e, _⟩ => by rw [e]; rfl) (fun cdv A outer s H E hr hgd => ?_)
  refine ⟨_, (pss_cons (ps_par (i := 4) (j := 5) (by rfl) sc__law_place.nd rfl rfl (by decide) rfl rfl (pa_cons pe_int (pa_cons (pe_callG d__law_power.ok (hr.mono (by decide)) hgd (by rfl) d__law_power.g d__law_power.kp d__law_power.b .nil pass0 (pa_cons (pv 0) (pa_cons (pe_callB (call_lenK (K := K) rfl) (by rfl) B.z_len (by decide +kernel) (pa_cons (pv 1) pa_nil)) pa_nil))) pa_nil)) (by rfl))
      (pss_cons (ps_for PassesOwn.never (by rfl) (pi_seqK (K := K) rfl (pv 1)) (pg_name (i := 2) sc__law_place.nd rfl (by first | exact Or.inl rfl | exact Or.inr rfl))
      (pss_one (ps_set (i := 4) sc__law_place.nd rfl (by first | exact Or.inl rfl | exact Or.inr rfl) (pe_op (op_addUK (K := K) rfl) (pe_op (op_mulUK (K := K) rfl) (pv 4) (pv 0)) (pv 2)))))
      (pss_cons (ps_for PassesOwn.never (by rfl) (pi_range1 (by rfl) B.z_range (pa_cons (pe_callB (call_lenK (K := K) rfl) (by rfl) B.z_len (by decide +kernel) (pa_cons (pv 1) pa_nil)) pa_nil)) (pg_name (i := 3) sc__law_place.nd rfl (by first | exact Or.inl rfl | exact Or.inr rfl))
      (pss_cons (ps_if (pt_cmpR (op_neUK (K := K) rfl hr.units) (pe_op op_modN (pe_callTy call_int1 (by rfl) B.z_int (by decide +kernel) (pa_cons (pv 4) pa_nil)) (pv 0)) pe_int (nomark _))
      (pss_one ps_break)
      pss_nil)
      (pss_one (ps_par (i := 4) (j := 5) (by rfl) sc__law_place.nd rfl rfl (by decide) rfl rfl (pa_cons (pe_op op_fdivL (pv 4) (pv 0)) (pa_cons (pe_op op_fdivL (pv 5) (pv 0)) pa_nil)) (by rfl)))))
      (pss_one (ps_ret (pe_tup (pa_cons (pv 4) (pa_cons (pv 5) pa_nil)))))))), ?_⟩
  rintro ds ⟨p, r, rfl, hb, hr, hx⟩
  have hp := hb.pos
  obtain ⟨pn, rfl⟩ := Int.eq_ofNat_of_zero_le (show 0 ≤ p by omega)
  have hpn := hb.nat
  have hv := val_bound (p := pn) (by omega) r hx
  show WS _ none _ _ [.dat (.int pn), .dat (rowD r), .no, .no, .no, .no]
  walk_at "dl"
  refine ws_par ?_
  repeat' walk_at "dl"
  refine we_call ?_
  repeat' walk_at "dl"
  refine ⟨⟨pn, r.length, rfl, by omega, by omega⟩, fun e he => ?_⟩
  rw [he pn r.length rfl]
  repeat' walk_at "dl"
  refine ws_for (wj_seq ?_)
  repeat' walk_at "dl"
  refine ⟨fun i δ => ∃ c, δ = [.dat (.int pn), .dat (rowD r), c, .no, .dat (.int (val pn (r.take i))), .dat (.int ((pn : Int) ^ r.length))], ⟨_, rfl⟩, fun i dd δ' hd ⟨c, e⟩ => ?_, fun δ' ⟨c, e⟩ => ?_⟩
  · subst e
    obtain ⟨x, hxi, rfl⟩ := get_map hd
    refine wg_name ?_
    repeat' walk_at "dl"
    have e : val (↑pn) (List.take (i + 1) r) = val (↑pn) (List.take i r) * ↑pn + x := by rw [List.take_succ, hxi]; exact val_snoc _ _ _
    rw [← e]
    exact ⟨_, rfl⟩
  · subst e
    rw [List.length_map, List.take_length, powN]
    obtain ⟨n, hn⟩ := Int.eq_ofNat_of_zero_le hv.1
    have fin : ∀ (w l i : Nat), w * pn ^ i = n → l * pn ^ i = pn ^ r.length → Nat.gcd w l = 1 → postPlace [.int pn, rowD r] (.tuple [.int w, .int l]) := fun w l i h1 h2 h3 p' r' e => by
      injection e with e1 e
      injection e with e2 e
      injection e1 with e1
      have e2 := rowD_inj e2
      subst e2
      subst e1
      have := left_over (k := r.length) (show 0 < pn by omega) h1 h2 h3
      unfold frac rowD
      rw [hn, Int.toNat_natCast, Int.toNat_natCast, this.1, this.2]
      rfl
    repeat' walk_at "dl"
    refine ws_for (wj_rng1 ?_)
    repeat' walk_at "dl"
    refine ⟨_, rfl, by omega, fun i δ => ∃ (c1 c2 : Cell) (w l : Nat), δ = [.dat (.int pn), .dat (rowD r), c1, c2, .dat (.int w), .dat (.int l)] ∧ w * pn ^ i = n ∧ l * pn ^ i = pn ^ r.length, ⟨_, _, n, pn ^ r.length, by rw [hn], by simp, by simp⟩, fun i dd δ' hd ⟨c1, c2, w, l, e, h1, h2⟩ => ?_, fun δ' ⟨c1, c2, w, l, e, h1, h2⟩ => ?_⟩
    · subst e
      obtain ⟨hi, rfl⟩ := rngD_inv hd
      have hi : i < r.length := by omega
      have hl : l = pn ^ (r.length - i) := by
        have : pn ^ (r.length - i) * pn ^ i = pn ^ r.length := by rw [← Nat.pow_add]; congr 1; omega
        rw [← this] at h2
        exact Nat.eq_of_mul_eq_mul_right (Nat.pow_pos (by omega)) h2
      refine wg_name ?_
      repeat' walk_at "dl"
      · rename_i hw
        rw [fmodN] at hw
        refine fin w l i h1 h2 ?_
        rw [hl]
        exact Nat.Coprime.pow_right _ (coprime_of hpn (by simp at hw; omega))
      · rename_i hw
        rw [fmodN] at hw
        have hw : w % pn = 0 := by simp at hw; omega
        refine ws_par ?_
        repeat' walk_at "dl"
        rw [fdivN, fdivN]
        refine ⟨_, _, w / pn, l / pn, rfl, ?_, ?_⟩
        · rw [Nat.pow_succ, ← h1, Nat.mul_comm (pn ^ i), ← Nat.mul_assoc, Nat.div_mul_cancel (Nat.dvd_of_mod_eq_zero hw)]
        · have hd : pn ∣ l := by
            rw [hl]
            obtain ⟨c, hc⟩ : ∃ c, r.length - i = c + 1 := ⟨r.length - i - 1, by omega⟩
            rw [hc, Nat.pow_succ]
            exact Nat.dvd_mul_left _ _
          rw [Nat.pow_succ, ← h2, Nat.mul_comm (pn ^ i), ← Nat.mul_assoc, Nat.div_mul_cancel hd]
    · subst e
      repeat' walk_at "dl"
      rw [rngD_len, Int.toNat_natCast] at h1 h2
      refine fin w l _ h1 h2 ?_
      have hl : l = 1 := by
        have : l * pn ^ r.length = 1 * pn ^ r.length := by rw [h2, Nat.one_mul]
        exact Nat.eq_of_mul_eq_mul_right (Nat.pow_pos (by omega)) this
      rw [hl, Nat.gcd_one_right]
end

end Lw

namespace Lw
open PySem PySem.Spec PyProof.Rows L2 DlP Dl
local macro_rules | `(tactic| walk_at "dl") => `(tactic| first
  | with_reducible refine ws_next ?_
  | with_reducible refine ws_seq ?_
  | with_reducible refine ws_if ?_
  | with_reducible refine wt_not ?_
  | with_reducible refine wt_and ?_
  | with_reducible refine wt_or ?_
  | with_reducible refine wt_chainI ?_
  | with_reducible refine wt_test ?_
  | with_reducible refine wt_B ?_
  | with_reducible refine ws_ret ?_
  | with_reducible refine ws_cont ?_
  | with_reducible refine ws_break ?_
  | with_reducible refine wa_cons ?_
  | with_reducible refine wa_nil ?_
  | ((with_reducible refine we_var (d := ?dd) ?hv ?_); (case hv => exact rfl))
  | with_reducible refine we_int ?_
  | with_reducible refine we_bl ?_
  | with_reducible refine we_non ?_
  | with_reducible refine we_str ?_
  | with_reducible refine we_neg ?_
  | ((with_reducible refine we_spr ?hv ?hw (fun z => ?_)); (case hv => exact rfl); (case hw => decide))
  | ((with_reducible refine ws_spr ?hv ?hw ?_); (case hv => exact rfl); (case hw => decide))
  | with_reducible refine ws_set ?_
  | with_reducible refine ws_asgG ?_
  | with_reducible refine wg_two ?_
  | with_reducible refine wg_name ?_
  | with_reducible refine we_andV ?_
  | with_reducible refine we_orV ?_
  | with_reducible refine we_notV ?_
  | with_reducible refine we_if ?_
  | with_reducible refine we_chainI ?_
  | with_reducible refine we_isN ?_
  | with_reducible refine we_notN ?_
  | with_reducible refine we_repL ?_
  | with_reducible refine we_catLc ?_
  | with_reducible refine we_op ?_
  | with_reducible refine we_isInt ?_
  | with_reducible refine we_isBool ?_
  | with_reducible refine we_isTup ?_
  | with_reducible refine we_cb ?_
  | with_reducible refine we_tup2 ?_
  | with_reducible refine we_tup1 ?_
  | with_reducible refine we_tup ?_
  | with_reducible refine ow_addI ?_
  | with_reducible refine ow_I0b ?_
  | with_reducible refine ow_eqUI ?_
  | with_reducible refine ow_neUI ?_
  | ((with_reducible refine ow_mulI ?hc ?_); (case hc => first | exact cmul_right (by decide) | exact cmul_left (by decide) | exact cmul_right (by omega) | exact cmul_left (by omega)))
  | ((with_reducible refine ow_modN ?hc ?_); (case hc => omega))
  | ((with_reducible refine ow_fdivL ?hc ?_); (case hc => (exact cdivL (by omega) (by omega))))
  | ((with_reducible refine ow_pow ?hc ?_); (case hc => exact ⟨by decide, by decide, by decide⟩))
  | with_reducible refine ow_I0i ?_
  | with_reducible refine cw_int ?_
  | with_reducible refine cw_intB ?_
  | with_reducible refine cw_abs ?_
  | with_reducible refine cw_max2 ?_
  | with_reducible refine cw_min2 ?_
  | with_reducible refine cw_allT ?_
  | with_reducible refine cw_tupleL ?_
  | with_reducible refine cw_tupleT ?_
  | with_reducible refine cw_lenL ?_
  | with_reducible refine cw_lenT ?_
  | with_reducible refine cw_lenScr ?_
  | with_reducible refine ex_int ?_
  | with_reducible refine ex_two ?_
  | with_reducible refine ex_bool ?_
  | with_reducible refine ex_list ?_
  | with_reducible refine ex_tuple ?_
  | with_reducible refine ex_seqL ?_
  | with_reducible refine ex_seqT ?_
  | with_reducible refine and_cases (fun hb => ?_) (fun hb => ?_)
  | with_reducible refine or_cases (fun hb => ?_) (fun hb => ?_))

local macro_rules | `(tactic| walk_at "dl") => `(tactic| first
  | with_reducible refine cw_lenRow ?_
  | with_reducible refine cw_lenTab ?_
  | with_reducible refine ow_net0 ?_
  | with_reducible refine ow_net1 ?_
  | with_reducible refine ow_tabs0 ?_
  | with_reducible refine ow_tab0 ?_
  | with_reducible refine ex_seqRow ?_
  | with_reducible refine ex_seqTab ?_)

section
variable {P : Program} {w : World} {K : Fg} {mg : Str → Option Value} {base : Heap}
def preAny (ds : List D) : Prop := ∃ d : D, ds = [d] ∧ clean d = true
def postWhole (ds : List D) (e : D) : Prop := ∀ d : D, ds = [d] → e = .bool (isIntD d && !isBoolD d)
theorem ok_is_whole {f : Addr} {fd : FuncData} (F : Fun K "is_whole" "is_whole" s_is_whole f fd) (B : Bi K mg) : FnG P w K mg base CX0 1 f fd ["value"] (spF K preAny postWhole) := by
  refine ok_fn F sc_is_whole (fun ds ⟨_, e, _⟩ => by rw [e]; rfl) (fun cdv A outer s H E hr hgd => ?_)
  refine ⟨_, (pss_one (ps_ret (pe_and (pe_callB (call_isiK (K := K) rfl) (by rfl) B.z_isinstance (by decide +kernel) (pa_cons (pv 0) (pa_cons (pe_bltn (v := .ty "int") (by rfl) B.z_int (by decide +kernel) rfl) pa_nil))) (pe_one (pe_not (pe_callB (call_isiK (K := K) rfl) (by rfl) B.z_isinstance (by decide +kernel) (pa_cons (pv 0) (pa_cons (pe_bltn (v := .ty "bool") (by rfl) B.z_bool (by decide +kernel) rfl) pa_nil)))))))), ?_⟩
  rintro ds ⟨d, rfl, hd⟩
  show WS _ none _ _ [.dat d]
  repeat' walk_at "dl"
  refine ⟨hd, ?_⟩
  repeat' walk_at "dl"
  · refine ⟨hd, ?_⟩
    repeat' walk_at "dl"
    rename_i h
    intro d' e
    cases e
    rw [h, Bool.true_and]
  · rename_i h
    intro d' e
    cases e
    rw [h, Bool.false_and]
/-- the bases, as the module holds them -/
theorem ok_is_base {f fW : Addr} {fd fdW : FuncData} (F : Fun K "is_base" "is_base" s_is_base f fd) (B : Bi K mg) (d_is_whole : Df P w K mg base 1 "is_whole" fW fdW ["value"] (spF K preAny postWhole)) : FnG P w K mg base CX0 2 f fd ["value"] (spF K (fun ds => ∃ p : Int, ds = [.int p] ∧ Base p) (fun _ e => e = .bool true)) := by
  refine ok_fn F sc_is_base (fun ds ⟨_, e, _⟩ => by rw [e]; rfl) (fun cdv A outer s H E hr hgd => ?_)
  refine ⟨_, (pss_one (ps_ret (pe_and (pe_callG d_is_whole.ok (hr.mono (by decide)) hgd (by rfl) d_is_whole.g d_is_whole.kp d_is_whole.b .nil pass0 (pa_cons (pv 0) pa_nil)) (pe_one (pe_cmpR (op_in_seqK (K := K) rfl) (pv 0) (pe_glob (v := .ref (Classical.choose B.c_BASES)) (by rfl) (Classical.choose_spec B.c_BASES).1 rfl) (by rfl)))))), ?_⟩
  rintro ds ⟨p, rfl, hb⟩
  show WS _ none _ _ [.dat (.int p)]
  walk_at "dl"
  walk_at "dl"
  refine we_call ?_
  repeat' walk_at "dl"
  refine ⟨⟨_, rfl, rfl⟩, fun e he => ?_⟩
  rw [he _ rfl]
  walk_at "dl"
  walk_at "dl"
  · refine we_inC (ns := [2, 3, 5, 7]) (Classical.choose_spec B.c_BASES).2 rfl ?_
    repeat' walk_at "dl"
    rcases hb with h | h | h | h <;> (subst h; rfl)
  · rename_i h
    cases h
def postFig (ds : List D) (e : D) : Prop := e = .bool true
def preFig (ds : List D) : Prop := ∃ p x : Int, ds = [.int p, .int x] ∧ 0 ≤ x ∧ x < p
theorem ok_is_figure {f fW : Addr} {fd fdW : FuncData} (F : Fun K "is_figure" "is_figure" s_is_figure f fd) (B : Bi K mg) (d_is_whole : Df P w K mg base 1 "is_whole" fW fdW ["value"] (spF K preAny postWhole)) : FnG P w K mg base CX0 2 f fd ["base", "value"] (spF K preFig postFig) := by
  refine ok_fn F sc_is_figure (fun ds ⟨_, _, e, _⟩ => by rw [e]; rfl) (fun cdv A outer s H E hr hgd => ?_)
  refine ⟨_, (pss_one (ps_ret (pe_and (pe_callG d_is_whole.ok (hr.mono (by decide)) hgd (by rfl) d_is_whole.g d_is_whole.kp d_is_whole.b .nil pass0 (pa_cons (pv 1) pa_nil)) (pe_one (pe_chain op_le op_lt pe_int (pv 1) (pv 0)))))), ?_⟩
  rintro ds ⟨p, x, rfl, h0, h1⟩
  show WS _ none _ _ [.dat (.int p), .dat (.int x)]
  walk_at "dl"
  walk_at "dl"
  refine we_call ?_
  repeat' walk_at "dl"
  refine ⟨⟨_, rfl, rfl⟩, fun e he => ?_⟩
  rw [he _ rfl]
  repeat' walk_at "dl"
  · show PyData.bool (decide (x < p)) = _
    simp [h1]
  · rename_i h1 h
    simp at h
    omega
  · rename_i h
    cases h
theorem cleanA_map {α : Type} {f : α → D} (h : ∀ a, clean (f a) = true) (as : List α) : cleanAll (as.map f) = true := cleanAll_of fun d hd => by
  obtain ⟨a, _, rfl⟩ := List.mem_map.mp hd
  exact h a
theorem clean_row (r : Row) : clean (rowD r) = true := cleanA_map (fun _ => rfl) r
theorem clean_tab (t : Tab) : clean (tabD t) = true := cleanA_map clean_row t
theorem clean_tabs (t : List Tab) : clean (.tuple (t.map tabD)) = true := cleanA_map clean_tab t
theorem clean_net (p : Int) (ts : List Tab) : clean (netD p ts) = true := by
  show (clean (.int p) && (clean (.tuple (ts.map tabD)) && true)) = true
  rw [clean_tabs]
  rfl
def preRow (ds : List D) : Prop := ∃ (p : Int) (r : Row) (l m : Int), ds = [.int p, rowD r, .int l, .int m] ∧ (∀ x ∈ r, 0 ≤ x ∧ x < p) ∧ r.length ≤ 1000 ∧ l ≤ r.length ∧ r.length ≤ m
theorem ok_is_row {f fW : Addr} {fd fdW : FuncData} (F : Fun K "is_row" "is_row" s_is_row f fd) (B : Bi K mg) (d_is_figure : Df P w K mg base 2 "is_figure" fW fdW ["base", "value"] (spF K preFig postFig)) : FnG P w K mg base CX0 3 f fd ["base", "value", "least", "most"] (spF K preRow postFig) := by
  refine ok_fn F sc_is_row (fun ds ⟨_, _, _, _, e, _⟩ => by rw [e]; rfl) (fun cdv A outer s H E hr hgd => ?_)
  refine ⟨_, (pss_cons (ps_if (PW.pt (pw_or (pt_not (pt_val (pe_callB (call_isiK (K := K) rfl) (by rfl) B.z_isinstance (by decide +kernel) (pa_cons (pv 1) (pa_cons (pe_bltn (v := .ty "tuple") (by rfl) B.z_tuple (by decide +kernel) rfl) pa_nil))))) (pw_or1 (pt_not (pt_chain op_le op_le (pv 2) (pe_callB (call_lenK (K := K) rfl) (by rfl) B.z_len (by decide +kernel) (pa_cons (pv 1) pa_nil)) (pv 3))))))
      (pss_one (ps_ret pe_bl))
      pss_nil)
      (pss_one (ps_ret (pe_callB (cr_allK (K := K) rfl (by rfl)) (by rfl) B.z_all (by decide +kernel) (pa_cons (pe_lc (own := [("one", 4)]) (g := (gName 4)) (tt := tYes) (by rfl) sc_is_row.nd (pi_seqK (K := K) rfl (pv 1)) (blkOk_by (own := [("one", 4)]) (N := ["base", "value", "least", "most", "one"]) (sc := defScope s_is_row) (by decide +kernel)) (fun _ _ _ _ _ => (pg_name (i := 4) sc_is_row.nd rfl (by first | exact Or.inl rfl | exact Or.inr rfl))) (fun _ _ _ _ _ => pts_nil) (fun _ _ _ _ _ => (pe_callG d_is_figure.ok (hr.mono (by decide)) hgd (by rfl) d_is_figure.g d_is_figure.kp d_is_figure.b .nil pass0 (pa_cons (pv 0) (pa_cons (pv 4) pa_nil))))) pa_nil))))), ?_⟩
  rintro ds ⟨p, r, l, m, rfl, hx, hl, h0, h1⟩
  show WS _ none _ _ [.dat (.int p), .dat (rowD r), .dat (.int l), .dat (.int m), .no]
  repeat' walk_at "dl"
  refine ⟨clean_row r, ?_⟩
  repeat' walk_at "dl"
  all_goals first
    | (exfalso; simp [isTupD, rowD] at *; done)
    | (exfalso; simp [isTupD, rowD] at *; omega)
    | skip
  · refine we_fresh (wf_map (fun _ => .bool true) (wj_seq ?_))
    repeat' walk_at "dl"
    refine ⟨szl (by simp; omega), fun i d hd => ?_, ?_⟩
    · obtain ⟨x, hm, rfl⟩ := mem_ints hd
      refine wgv_name (by simp) ?_
      refine we_call ?_
      repeat' walk_at "dl"
      exact ⟨⟨p, x, rfl, hx x hm⟩, fun e he => he⟩
    · repeat' walk_at "dl"
      rfl
def preTable (ds : List D) : Prop := ∃ (p : Int) (d m : Nat) (t : Tab), ds = [.int p, tabD t] ∧ TabOk p d m t ∧ (1 ≤ d ∧ d ≤ 12) ∧ (1 ≤ m ∧ m ≤ 12)
theorem ok_is_table {f fR : Addr} {fd fdR : FuncData} (F : Fun K "is_table" "is_table" s_is_table f fd) (B : Bi K mg) (d_is_row : Df P w K mg base 3 "is_row" fR fdR ["base", "value", "least", "most"] (spF K preRow postFig)) : FnG P w K mg base CX0 4 f fd ["base", "value"] (spF K preTable postFig) := by
  refine ok_fn F sc_is_table (fun ds ⟨_, _, _, _, e, _⟩ => by rw [e]; rfl) (fun cdv A outer s H E hr hgd => ?_)
  refine ⟨_, (pss_cons (ps_if (PW.pt (pw_or (pt_not (pt_val (pe_callB (call_isiK (K := K) rfl) (by rfl) B.z_isinstance (by decide +kernel) (pa_cons (pv 1) (pa_cons (pe_bltn (v := .ty "tuple") (by rfl) B.z_tuple (by decide +kernel) rfl) pa_nil))))) (pw_or1 (pt_not (pt_chain op_le op_le pe_int (pe_callB (call_lenK (K := K) rfl) (by rfl) B.z_len (by decide +kernel) (pa_cons (pv 1) pa_nil)) (pe_glob (v := .int 12) (by rfl) (Classical.choose_spec B.c_MOST_DEPTH) ⟨_, rfl⟩))))))
      (pss_one (ps_ret pe_bl))
      pss_nil)
      (pss_cons (ps_if (pt_not (pt_val (pe_callB (cr_allK (K := K) rfl (by rfl)) (by rfl) B.z_all (by decide +kernel) (pa_cons (pe_lc (own := [("row", 2)]) (g := (gName 2)) (tt := tYes) (by rfl) sc_is_table.nd (pi_seqK (K := K) rfl (pv 1)) (blkOk_by (own := [("row", 2)]) (N := ["base", "value", "row"]) (sc := defScope s_is_table) (by decide +kernel)) (fun _ _ _ _ _ => (pg_name (i := 2) sc_is_table.nd rfl (by first | exact Or.inl rfl | exact Or.inr rfl))) (fun _ _ _ _ _ => pts_nil) (fun _ _ _ _ _ => (pe_callG d_is_row.ok (hr.mono (by decide)) hgd (by rfl) d_is_row.g d_is_row.kp d_is_row.b .nil pass0 (pa_cons (pv 0) (pa_cons (pv 2) (pa_cons pe_int (pa_cons (pe_glob (v := .int 12) (by rfl) (Classical.choose_spec B.c_MOST_WIDTH) ⟨_, rfl⟩) pa_nil))))))) pa_nil))))
      (pss_one (ps_ret pe_bl))
      pss_nil)
      (pss_one (ps_ret (pe_callB (cr_allK (K := K) rfl (by rfl)) (by rfl) B.z_all (by decide +kernel) (pa_cons (pe_lc (own := [("row", 2)]) (g := (gName 2)) (tt := tYes) (by rfl) sc_is_table.nd (pi_seqK (K := K) rfl (pv 1)) (blkOk_by (own := [("row", 2)]) (N := ["base", "value", "row"]) (sc := defScope s_is_table) (by decide +kernel)) (fun _ _ _ _ _ => (pg_name (i := 2) sc_is_table.nd rfl (by first | exact Or.inl rfl | exact Or.inr rfl))) (fun _ _ _ _ _ => pts_nil) (fun _ _ _ _ _ => (pe_cmpR (op_eqUK (K := K) rfl hr.units) (pe_callB (call_lenK (K := K) rfl) (by rfl) B.z_len (by decide +kernel) (pa_cons (pv 2) pa_nil)) (pe_callB (call_lenK (K := K) rfl) (by rfl) B.z_len (by decide +kernel) (pa_cons (pe_ix (ix_seqK (K := K) rfl) (pv 1) pe_int (fun _ _ => rfl)) pa_nil)) (nomark _)))) pa_nil)))))), ?_⟩
  rintro ds ⟨p, d, m, t, rfl, ht, hd, hm⟩
  have hl := ht.1
  show WS _ none _ _ [.dat (.int p), .dat (tabD t), .no]
  repeat' walk_at "dl"
  refine ⟨clean_tab t, ?_⟩
  repeat' walk_at "dl"
  all_goals first
    | (exfalso; simp [isTupD, tabD] at *; done)
    | (exfalso; simp [isTupD, tabD] at *; omega)
    | skip
  · refine we_fresh (wf_map (fun _ => .bool true) (wj_seq ?_))
    repeat' walk_at "dl"
    refine ⟨szl (by simp; omega), fun i d hd => ?_, ?_⟩
    · obtain ⟨r, hr, rfl⟩ := get_map hd
      have hrm := ht.2 r (List.mem_of_getElem? hr)
      refine wgv_name (by simp) ?_
      refine we_call ?_
      repeat' walk_at "dl"
      exact ⟨⟨p, r, 1, 12, rfl, hrm.2, by rw [hrm.1]; omega, by rw [hrm.1]; omega, by rw [hrm.1]; omega⟩, fun e he => he⟩
    · repeat' walk_at "dl"
      all_goals first
        | (exfalso; simp at *; done)
        | skip
      refine we_fresh (wf_map (fun _ => .bool true) (wj_seq ?_))
      repeat' walk_at "dl"
      refine ⟨szl (by simp; omega), fun i dd hdd => ?_, ?_⟩
      · obtain ⟨r, hr, rfl⟩ := get_map hdd
        have hrm := ht.2 r (List.mem_of_getElem? hr)
        cases t with
        | nil => simp at hl; omega
        | cons r0 t0 =>
          have hr0 := ht.2 r0 (by simp)
          refine wgv_name (by simp) ?_
          repeat' walk_at "dl"
          rw [hrm.1, hr0.1]
          simp
      · repeat' walk_at "dl"
        rfl
theorem ok_is_of_size {f : Addr} {fd : FuncData} (F : Fun K "is_of_size" "is_of_size" s_is_of_size f fd) (B : Bi K mg) : FnG P w K mg base CX0 1 f fd ["table", "depth", "width"] (spF K (fun ds => ∃ (p : Int) (d m : Nat) (t : Tab), ds = [tabD t, .int d, .int m] ∧ TabOk p d m t ∧ (1 ≤ d ∧ d ≤ 12)) postFig) := by
  refine ok_fn F sc_is_of_size (fun ds ⟨_, _, _, _, e, _⟩ => by rw [e]; rfl) (fun cdv A outer s H E hr hgd => ?_)
  refine ⟨_, (pss_one (ps_ret (pe_and (pe_cmpR (op_eqUK (K := K) rfl hr.units) (pe_callB (call_lenK (K := K) rfl) (by rfl) B.z_len (by decide +kernel) (pa_cons (pv 0) pa_nil)) (pv 1) (nomark _)) (pe_one (pe_cmpR (op_eqUK (K := K) rfl hr.units) (pe_callB (call_lenK (K := K) rfl) (by rfl) B.z_len (by decide +kernel) (pa_cons (pe_ix (ix_seqK (K := K) rfl) (pv 0) pe_int (fun _ _ => rfl)) pa_nil)) (pv 2) (nomark _)))))), ?_⟩
  rintro ds ⟨p, d, m, t, rfl, ht, hd⟩
  have hl := ht.1
  cases t with
  | nil => simp at hl; omega
  | cons r0 t0 =>
    have hr0 := ht.2 r0 (by simp)
    show WS _ none _ _ [.dat (tabD (r0 :: t0)), .dat (.int d), .dat (.int m)]
    repeat' walk_at "dl"
    · show PyData.bool _ = _
      rw [hr0.1]
      simp
    · rename_i h
      rw [hl] at h
      simp at h
theorem ok_are_tables {f fT fS : Addr} {fd fdT fdS : FuncData} (F : Fun K "are_tables" "are_tables" s_are_tables f fd) (B : Bi K mg) (d_is_table : Df P w K mg base 4 "is_table" fT fdT ["base", "value"] (spF K preTable postFig))
    (d_is_of_size : Df P w K mg base 1 "is_of_size" fS fdS ["table", "depth", "width"] (spF K (fun ds => ∃ (p : Int) (d m : Nat) (t : Tab), ds = [tabD t, .int d, .int m] ∧ TabOk p d m t ∧ (1 ≤ d ∧ d ≤ 12)) postFig)) : FnG P w K mg base CX0 5 f fd ["base", "value"] (spF K (fun ds => ∃ p s d m ts, ds = [.int p, .tuple (ts.map tabD)] ∧ NetOk p s d m ts) postFig) := by
  refine ok_fn F sc_are_tables (fun ds ⟨_, _, _, _, _, e, _⟩ => by rw [e]; rfl) (fun cdv A outer s H E hr hgd => ?_)
  refine ⟨_, (pss_cons (ps_if (PW.pt (pw_or (pt_not (pt_val (pe_callB (call_isiK (K := K) rfl) (by rfl) B.z_isinstance (by decide +kernel) (pa_cons (pv 1) (pa_cons (pe_bltn (v := .ty "tuple") (by rfl) B.z_tuple (by decide +kernel) rfl) pa_nil))))) (pw_or1 (pt_not (pt_chain op_le op_le pe_int (pe_callB (call_lenK (K := K) rfl) (by rfl) B.z_len (by decide +kernel) (pa_cons (pv 1) pa_nil)) (pe_glob (v := .int 6) (by rfl) (Classical.choose_spec B.c_MOST_DIMENSIONS) ⟨_, rfl⟩))))))
      (pss_one (ps_ret pe_bl))
      pss_nil)
      (pss_cons (ps_if (pt_not (pt_val (pe_callB (cr_allK (K := K) rfl (by rfl)) (by rfl) B.z_all (by decide +kernel) (pa_cons (pe_lc (own := [("table", 4)]) (g := (gName 4)) (tt := tYes) (by rfl) sc_are_tables.nd (pi_seqK (K := K) rfl (pv 1)) (blkOk_by (own := [("table", 4)]) (N := ["base", "value", "depth", "width", "table"]) (sc := defScope s_are_tables) (by decide +kernel)) (fun _ _ _ _ _ => (pg_name (i := 4) sc_are_tables.nd rfl (by first | exact Or.inl rfl | exact Or.inr rfl))) (fun _ _ _ _ _ => pts_nil) (fun _ _ _ _ _ => (pe_callG d_is_table.ok (hr.mono (by decide)) hgd (by rfl) d_is_table.g d_is_table.kp d_is_table.b .nil pass0 (pa_cons (pv 0) (pa_cons (pv 4) pa_nil))))) pa_nil))))
      (pss_one (ps_ret pe_bl))
      pss_nil)
      (pss_cons (ps_set (i := 2) sc_are_tables.nd rfl (by first | exact Or.inl rfl | exact Or.inr rfl) (pe_callB (call_lenK (K := K) rfl) (by rfl) B.z_len (by decide +kernel) (pa_cons (pe_ix (ix_seqK (K := K) rfl) (pv 1) pe_int (fun _ _ => rfl)) pa_nil)))
      (pss_cons (ps_set (i := 3) sc_are_tables.nd rfl (by first | exact Or.inl rfl | exact Or.inr rfl) (pe_callB (call_lenK (K := K) rfl) (by rfl) B.z_len (by decide +kernel) (pa_cons (pe_ix (ix_seqK (K := K) rfl) (pe_ix (ix_seqK (K := K) rfl) (pv 1) pe_int (fun _ _ => rfl)) pe_int (fun _ _ => rfl)) pa_nil)))
      (pss_one (ps_ret (pe_callB (cr_allK (K := K) rfl (by rfl)) (by rfl) B.z_all (by decide +kernel) (pa_cons (pe_lc (own := [("table", 4)]) (g := (gName 4)) (tt := tYes) (by rfl) sc_are_tables.nd (pi_seqK (K := K) rfl (pv 1)) (blkOk_by (own := [("table", 4)]) (N := ["base", "value", "depth", "width", "table"]) (sc := defScope s_are_tables) (by decide +kernel)) (fun _ _ _ _ _ => (pg_name (i := 4) sc_are_tables.nd rfl (by first | exact Or.inl rfl | exact Or.inr rfl))) (fun _ _ _ _ _ => pts_nil) (fun _ _ _ _ _ => (pe_callG d_is_of_size.ok (hr.mono (by decide)) hgd (by rfl) d_is_of_size.g d_is_of_size.kp d_is_of_size.b .nil pass0 (pa_cons (pv 4) (pa_cons (pv 2) (pa_cons (pv 3) pa_nil)))))) pa_nil)))))))), ?_⟩
  rintro ds ⟨p, s, d, m, ts, rfl, hn⟩
  obtain ⟨r0, t0, ts0, rfl, hr0⟩ := hn.first
  obtain ⟨hb, hs, hd, hm, hl, ht⟩ := hn
  show WS _ none _ _ [.dat (.int p), .dat (.tuple (((r0 :: t0) :: ts0).map tabD)), .no, .no, .no]
  repeat' walk_at "dl"
  refine ⟨clean_tabs _, ?_⟩
  repeat' walk_at "dl"
  all_goals first
    | (exfalso; simp [isTupD] at *; done)
    | (exfalso; simp [isTupD] at *; omega)
    | skip
  refine we_fresh (wf_map (fun _ => .bool true) (wj_seq ?_))
  repeat' walk_at "dl"
  refine ⟨szl (by rw [List.length_map]; omega), fun i dd hdd => ?_, ?_⟩
  · obtain ⟨t, hr, rfl⟩ := get_map hdd
    have hto := ht t (List.mem_of_getElem? hr)
    refine wgv_name (by simp) ?_
    refine we_call ?_
    repeat' walk_at "dl"
    exact ⟨⟨p, d, m, t, rfl, hto, hd, hm⟩, fun e he => he⟩
  · repeat' walk_at "dl"
    all_goals first
      | (exfalso; simp at *; done)
      | skip
    refine we_fresh (wf_map (fun _ => .bool true) (wj_seq ?_))
    repeat' walk_at "dl"
    refine ⟨szl (by rw [List.length_map]; omega), fun i dd hdd => ?_, ?_⟩
    · obtain ⟨t, hr, rfl⟩ := get_map hdd
      have hto := ht t (List.mem_of_getElem? hr)
      refine wgv_name (by simp) ?_
      refine we_call ?_
      repeat' walk_at "dl"
      rw [(ht (r0 :: t0) (by simp)).1, hr0]
      exact ⟨⟨p, d, m, t, rfl, hto, hd⟩, fun e he => he⟩
    · repeat' walk_at "dl"
      rfl
def preN (ds : List D) : Prop := ∃ p s d m ts, ds = [netD p ts] ∧ NetOk p s d m ts
theorem ok_is_net {f fB fT : Addr} {fd fdB fdT : FuncData} (F : Fun K "is_net" "is_net" s_is_net f fd) (B : Bi K mg) (d_is_base : Df P w K mg base 2 "is_base" fB fdB ["value"] (spF K (fun ds => ∃ p : Int, ds = [.int p] ∧ Base p) (fun _ e => e = .bool true)))
    (d_are_tables : Df P w K mg base 5 "are_tables" fT fdT ["base", "value"] (spF K (fun ds => ∃ p s d m ts, ds = [.int p, .tuple (ts.map tabD)] ∧ NetOk p s d m ts) postFig)) : FnG P w K mg base CX0 6 f fd ["value"] (spF K preN postFig) := by
  refine ok_fn F sc_is_net (fun ds ⟨_, _, _, _, _, e, _⟩ => by rw [e]; rfl) (fun cdv A outer s H E hr hgd => ?_)
  refine ⟨_, (pss_cons (ps_if (PW.pt (pw_or (pt_not (pt_val (pe_callB (call_isiK (K := K) rfl) (by rfl) B.z_isinstance (by decide +kernel) (pa_cons (pv 0) (pa_cons (pe_bltn (v := .ty "tuple") (by rfl) B.z_tuple (by decide +kernel) rfl) pa_nil))))) (pw_or1 (pt_cmpR (op_neUK (K := K) rfl hr.units) (pe_callB (call_lenK (K := K) rfl) (by rfl) B.z_len (by decide +kernel) (pa_cons (pv 0) pa_nil)) pe_int (nomark _)))))
      (pss_one (ps_ret pe_bl))
      pss_nil)
      (pss_cons (ps_asg (pv 0) (pg_tupK (K := K) (n := 2) rfl (by rfl) (pgs_cons (pg_name (i := 1) sc_is_net.nd rfl (by first | exact Or.inl rfl | exact Or.inr rfl)) (pgs_cons (pg_name (i := 2) sc_is_net.nd rfl (by first | exact Or.inl rfl | exact Or.inr rfl)) pgs_nil))))
      (pss_one (ps_ret (pe_and (pe_callG d_is_base.ok (hr.mono (by decide)) hgd (by rfl) d_is_base.g d_is_base.kp d_is_base.b .nil pass0 (pa_cons (pv 1) pa_nil)) (pe_one (pe_callG d_are_tables.ok (hr.mono (by decide)) hgd (by rfl) d_are_tables.g d_are_tables.kp d_are_tables.b .nil pass0 (pa_cons (pv 1) (pa_cons (pv 2) pa_nil))))))))), ?_⟩
  rintro ds ⟨p, s, d, m, ts, rfl, hn⟩
  show WS _ none _ _ [.dat (.tuple [.int p, .tuple (ts.map tabD)]), .no, .no]
  repeat' walk_at "dl"
  refine ⟨clean_net p ts, ?_⟩
  repeat' walk_at "dl"
  all_goals first
    | (exfalso; simp [isTupD] at *; done)
    | skip
  · refine we_call ?_
    repeat' walk_at "dl"
    refine ⟨⟨p, rfl, hn.1⟩, fun e he => ?_⟩
    subst he
    repeat' walk_at "dl"
    · refine we_call ?_
      repeat' walk_at "dl"
      exact ⟨⟨p, s, d, m, ts, rfl, hn⟩, fun e he => he⟩
    · rename_i h
      cases h
theorem ok_check_net {f fN : Addr} {fd fdN : FuncData} (F : Fun K "check_net" "check_net" s_check_net f fd) (B : Bi K mg) (d_is_net : Df P w K mg base 6 "is_net" fN fdN ["value"] (spF K preN postFig)) : FnG P w K mg base CX0 7 f fd ["net"] (spF K preN fun _ _ => True) := by
  refine ok_fn F sc_check_net (fun ds ⟨_, _, _, _, _, e, _⟩ => by rw [e]; rfl) (fun cdv A outer s H E hr hgd => ?_)
  refine ⟨_, (pss_one (ps_if (pt_not (pt_val (pe_callG d_is_net.ok (hr.mono (by decide)) hgd (by rfl) d_is_net.g d_is_net.kp d_is_net.b .nil pass0 (pa_cons (pv 0) pa_nil))))
      (pss_one ps_never)
      pss_nil)), ?_⟩
  rintro ds ⟨p, s, d, m, ts, rfl, hn⟩
  show WS _ none _ _ [.dat (netD p ts)]
  repeat' walk_at "dl"
  refine we_call ?_
  repeat' walk_at "dl"
  refine ⟨⟨p, s, d, m, ts, rfl, hn⟩, fun e he => ?_⟩
  subst he
  repeat' walk_at "dl"
  · rename_i h
    cases h
  · trivial
theorem ok_width_of {f : Addr} {fd : FuncData} (F : Fun K "width_of" "width_of" s_width_of f fd) (B : Bi K mg) : FnG P w K mg base CX0 1 f fd ["net"] (spF K preN fun ds e => ∀ p s d m ts, ds = [netD p ts] → NetOk p s d m ts → e = .int m) := by
  refine ok_fn F sc_width_of (fun ds ⟨_, _, _, _, _, e, _⟩ => by rw [e]; rfl) (fun cdv A outer s H E hr hgd => ?_)
  refine ⟨_, (pss_one (ps_ret (pe_callB (call_lenK (K := K) rfl) (by rfl) B.z_len (by decide +kernel) (pa_cons (pe_ix (ix_seqK (K := K) rfl) (pe_ix (ix_seqK (K := K) rfl) (pe_ix (ix_seqK (K := K) rfl) (pv 0) pe_int (fun _ _ => rfl)) pe_int (fun _ _ => rfl)) pe_int (fun _ _ => rfl)) pa_nil)))), ?_⟩
  rintro ds ⟨p, s, d, m, ts, rfl, hn⟩
  obtain ⟨r0, t0, ts0, rfl, hr0⟩ := hn.first
  show WS _ none _ _ [.dat (netD p ((r0 :: t0) :: ts0))]
  repeat' walk_at "dl"
  intro p' s' d' m' ts' e hn'
  injection e with e1 e
  have e3 := (netD_inj e1).2
  have e2 := (netD_inj e1).1
  subst e3
  subst e2
  rw [hr0, hn.width hn']
def preCS (ds : List D) : Prop := ∃ p s d m ts b, ds = [netD p ts, rowD b] ∧ NetOk p s d m ts ∧ RowOk p m b
theorem ok_check_start {f fW fR : Addr} {fd fdW fdR : FuncData} (F : Fun K "check_start" "check_start" s_check_start f fd) (B : Bi K mg) (d_width_of : Df P w K mg base 1 "width_of" fW fdW ["net"] (spF K preN fun ds e => ∀ p s d m ts, ds = [netD p ts] → NetOk p s d m ts → e = .int m))
    (d_is_row : Df P w K mg base 3 "is_row" fR fdR ["base", "value", "least", "most"] (spF K preRow postFig)) : FnG P w K mg base CX0 4 f fd ["net", "start"] (spF K preCS fun _ _ => True) := by
  refine ok_fn F sc_check_start (fun ds ⟨_, _, _, _, _, _, e, _⟩ => by rw [e]; rfl) (fun cdv A outer s H E hr hgd => ?_)
  refine ⟨_, (pss_cons (ps_set (i := 2) sc_check_start.nd rfl (by first | exact Or.inl rfl | exact Or.inr rfl) (pe_callG d_width_of.ok (hr.mono (by decide)) hgd (by rfl) d_width_of.g d_width_of.kp d_width_of.b .nil pass0 (pa_cons (pv 0) pa_nil)))
      (pss_one (ps_if (pt_not (pt_val (pe_callG d_is_row.ok (hr.mono (by decide)) hgd (by rfl) d_is_row.g d_is_row.kp d_is_row.b .nil pass0 (pa_cons (pe_ix (ix_seqK (K := K) rfl) (pv 0) pe_int (fun _ _ => rfl)) (pa_cons (pv 1) (pa_cons (pv 2) (pa_cons (pv 2) pa_nil)))))))
      (pss_one ps_never)
      pss_nil))), ?_⟩
  rintro ds ⟨p, s, d, m, ts, b, rfl, hn, hb⟩
  show WS _ none _ _ [.dat (netD p ts), .dat (rowD b), .no]
  repeat' walk_at "dl"
  refine we_call ?_
  repeat' walk_at "dl"
  refine ⟨⟨p, s, d, m, ts, rfl, hn⟩, fun e he => ?_⟩
  rw [he p s d m ts rfl hn]
  repeat' walk_at "dl"
  refine we_call ?_
  repeat' walk_at "dl"
  have := hn.2.2.2.1
  refine ⟨⟨p, b, m, m, rfl, hb.2, by rw [hb.1]; omega, by rw [hb.1]; omega, by rw [hb.1]; omega⟩, fun e he => ?_⟩
  subst he
  repeat' walk_at "dl"
  · rename_i h
    cases h
  · trivial
end

end Lw

namespace Lw
open PySem PySem.Spec PyProof.Rows L2 DlP Dl
local macro_rules | `(tactic| walk_at "dl") => `(tactic| first
  | with_reducible refine ws_next ?_
  | with_reducible refine ws_seq ?_
  | with_reducible refine ws_if ?_
  | with_reducible refine wt_not ?_
  | with_reducible refine wt_and ?_
  | with_reducible refine wt_or ?_
  | with_reducible refine wt_chainI ?_
  | with_reducible refine wt_test ?_
  | with_reducible refine wt_B ?_
  | with_reducible refine ws_ret ?_
  | with_reducible refine ws_cont ?_
  | with_reducible refine ws_break ?_
  | with_reducible refine wa_cons ?_
  | with_reducible refine wa_nil ?_
  | ((with_reducible refine we_var (d := ?dd) ?hv ?_); (case hv => exact rfl))
  | with_reducible refine we_int ?_
  | with_reducible refine we_bl ?_
  | with_reducible refine we_non ?_
  | with_reducible refine we_str ?_
  | with_reducible refine we_neg ?_
  | ((with_reducible refine we_spr ?hv ?hw (fun z => ?_)); (case hv => exact rfl); (case hw => decide))
  | ((with_reducible refine ws_spr ?hv ?hw ?_); (case hv => exact rfl); (case hw => decide))
  | with_reducible refine ws_set ?_
  | with_reducible refine ws_asgG ?_
  | with_reducible refine wg_two ?_
  | with_reducible refine wg_name ?_
  | with_reducible refine we_andV ?_
  | with_reducible refine we_orV ?_
  | with_reducible refine we_notV ?_
  | with_reducible refine we_if ?_
  | with_reducible refine we_chainI ?_
  | with_reducible refine we_isN ?_
  | with_reducible refine we_notN ?_
  | with_reducible refine we_repL ?_
  | with_reducible refine we_catLc ?_
  | with_reducible refine we_op ?_
  | with_reducible refine we_isInt ?_
  | with_reducible refine we_isBool ?_
  | with_reducible refine we_isTup ?_
  | with_reducible refine we_cb ?_
  | with_reducible refine we_tup2 ?_
  | with_reducible refine we_tup1 ?_
  | with_reducible refine we_tup ?_
  | with_reducible refine ow_addI ?_
  | with_reducible refine ow_I0b ?_
  | with_reducible refine ow_eqUI ?_
  | with_reducible refine ow_neUI ?_
  | ((with_reducible refine ow_mulI ?hc ?_); (case hc => first | exact cmul_right (by decide) | exact cmul_left (by decide) | exact cmul_right (by omega) | exact cmul_left (by omega)))
  | ((with_reducible refine ow_modN ?hc ?_); (case hc => omega))
  | ((with_reducible refine ow_fdivL ?hc ?_); (case hc => (exact cdivL (by omega) (by omega))))
  | ((with_reducible refine ow_pow ?hc ?_); (case hc => exact ⟨by decide, by decide, by decide⟩))
  | with_reducible refine ow_I0i ?_
  | with_reducible refine cw_int ?_
  | with_reducible refine cw_intB ?_
  | with_reducible refine cw_abs ?_
  | with_reducible refine cw_max2 ?_
  | with_reducible refine cw_min2 ?_
  | with_reducible refine cw_allT ?_
  | with_reducible refine cw_tupleL ?_
  | with_reducible refine cw_tupleT ?_
  | with_reducible refine cw_lenL ?_
  | with_reducible refine cw_lenT ?_
  | with_reducible refine cw_lenScr ?_
  | with_reducible refine ex_int ?_
  | with_reducible refine ex_two ?_
  | with_reducible refine ex_bool ?_
  | with_reducible refine ex_list ?_
  | with_reducible refine ex_tuple ?_
  | with_reducible refine ex_seqL ?_
  | with_reducible refine ex_seqT ?_
  | with_reducible refine and_cases (fun hb => ?_) (fun hb => ?_)
  | with_reducible refine or_cases (fun hb => ?_) (fun hb => ?_))

local macro_rules | `(tactic| walk_at "dl") => `(tactic| first
  | with_reducible refine cw_lenRow ?_
  | with_reducible refine cw_lenTab ?_
  | with_reducible refine ow_net0 ?_
  | with_reducible refine ow_net1 ?_
  | with_reducible refine ow_tabs0 ?_
  | with_reducible refine ow_tab0 ?_
  | with_reducible refine ex_seqRow ?_
  | with_reducible refine ex_seqTab ?_)

section
variable {P : Program} {w : World} {K : Fg} {mg : Str → Option Value} {base : Heap}
theorem ok_row_times {f : Addr} {fd : FuncData} (F : Fun K "row_times" "row_times" s_row_times f fd) (B : Bi K mg) : FnG P w K mg base CX0 1 f fd ["base", "row", "other"] (spF K preDot postDot) := by
  refine ok_fn F sc_row_times (fun ds ⟨p, l, r, e, _⟩ => by rw [e]; rfl) (fun cdv A outer s H E hr hgd => ?_)
  refine ⟨_, (pss_one (ps_ret (pe_op op_modN (pe_callB (cr_sumK (K := K) rfl (by rfl)) (by rfl) B.z_sum (by decide +kernel) (pa_cons (pe_lc (own := [("left", 3), ("right", 4)]) (g := (gTup K 2 (gCons (gName 3) (gCons (gName 4) gNil)))) (tt := tYes) (by rfl) sc_row_times.nd (pi_zipUK (K := K) rfl (by rfl) B.z_zip (pa_cons (pv 1) (pa_cons (pv 2) pa_nil))) (blkOk_by (own := [("left", 3), ("right", 4)]) (N := ["base", "row", "other", "left", "right"]) (sc := defScope s_row_times) (by decide +kernel)) (fun _ _ _ _ _ => (pg_tupK (K := K) (n := 2) rfl (by rfl) (pgs_cons (pg_name (i := 3) sc_row_times.nd rfl (by first | exact Or.inl rfl | exact Or.inr rfl)) (pgs_cons (pg_name (i := 4) sc_row_times.nd rfl (by first | exact Or.inl rfl | exact Or.inr rfl)) pgs_nil)))) (fun _ _ _ _ _ => pts_nil) (fun _ _ _ _ _ => (pe_op (op_mulUK (K := K) rfl) (pv 3) (pv 4)))) pa_nil)) (pv 0)))), ?_⟩
  rintro ds ⟨p, l, r, rfl, hp, hl, hx⟩
  show WS _ none _ _ [.dat (.int p), .dat (rowD l), .dat (rowD r), .no, .no]
  repeat' walk_at "dl"
  refine we_fresh (wf_map mulD (wj_zip ?_))
  repeat' walk_at "dl"
  refine ⟨_, _, _, _, rfl, .inr rfl, .inr rfl, szl (by rw [zipD_len, List.length_map]; omega), fun i d hd => ?_, ?_⟩
  · obtain ⟨a, b, ha, hb, rfl⟩ := zipD_inv hd
    obtain ⟨x, hm, rfl⟩ := mem_ints ha
    obtain ⟨y, _, rfl⟩ := mem_ints hb
    have := hx x hm
    refine wgv_two (by simp) (by simp) ?_
    repeat' walk_at "dl"
    rfl
  · rw [zip_mul]
    refine wa_nil (cw_sum ?_)
    repeat' walk_at "dl"
    intro p' l' r' e
    injection e with e1 e
    injection e with e2 e
    injection e with e3 e
    injection e1 with e1
    subst e1
    rw [← rowD_inj e2, ← rowD_inj e3]
    rfl
theorem ok_power {f : Addr} {fd : FuncData} (F : Fun K "power" "power" s_power f fd) (B : Bi K mg) : FnG P w K mg base CX0 1 f fd ["number", "exponent"] (spF K prePow postPow) := by
  refine ok_fn F sc_power (fun ds ⟨p, n, e, _⟩ => by rw [e]; rfl) (fun cdv A outer s H E hr hgd => ?_)
  refine ⟨_, (pss_cons (ps_set (i := 2) sc_power.nd rfl (by first | exact Or.inl rfl | exact Or.inr rfl) pe_int)
      (pss_cons (ps_for PassesOwn.never (by rfl) (pi_range1 (by rfl) B.z_range (pa_cons (pv 1) pa_nil)) (pg_name (i := 3) sc_power.nd rfl (by first | exact Or.inl rfl | exact Or.inr rfl))
      (pss_one (ps_set (i := 2) sc_power.nd rfl (by first | exact Or.inl rfl | exact Or.inr rfl) (pe_op (op_mulUK (K := K) rfl) (pv 2) (pv 0)))))
      (pss_one (ps_ret (pv 2))))), ?_⟩
  rintro ds ⟨p, n, rfl, h0, h1⟩
  show WS _ none _ _ [.dat (.int p), .dat (.int n), .no, .no]
  repeat' walk_at "dl"
  refine ws_for (wj_rng1 ?_)
  repeat' walk_at "dl"
  refine ⟨_, rfl, by omega, fun i δ => ∃ c, δ = [.dat (.int p), .dat (.int n), .dat (.int (p ^ i)), c], ⟨.no, by rw [Int.pow_zero]; rfl⟩, fun i d δ' hd ⟨c, e⟩ => ?_, fun δ' ⟨c, e⟩ => ?_⟩
  · subst e
    obtain ⟨hi, rfl⟩ := rngD_inv hd
    refine wg_name ?_
    repeat' walk_at "dl"
    exact ⟨_, by rw [Int.pow_succ]; rfl⟩
  · subst e
    repeat' walk_at "dl"
    intro p' n' e
    cases e
    rw [rngD_len, Int.toNat_natCast]
def preRed (ds : List D) : Prop := ∃ a b : Nat, ds = [.int a, .int b] ∧ 0 < b ∧ b < 2 ^ 62
def postRed (ds : List D) (e : D) : Prop := ∀ a b : Nat, ds = [.int a, .int b] → e = rowD [((a / Nat.gcd a b : Nat) : Int), ((b / Nat.gcd a b : Nat) : Int)]
theorem ok_reduced {f : Addr} {fd : FuncData} (F : Fun K "reduced" "reduced" s_reduced f fd) (B : Bi K mg) : FnG P w K mg base CX0 1 f fd ["above", "below"] (spF K preRed postRed) := by
  refine ok_fn F sc_reduced (fun ds ⟨p, n, e, _⟩ => by rw [e]; rfl) (fun cdv A outer s H E hr hgd => ?_)
  refine ⟨_, (pss_cons (ps_set (i := 2) sc_reduced.nd rfl (by first | exact Or.inl rfl | exact Or.inr rfl) (pe_callBfun cr_gcd (by rfl) B.m_gcd (pa_cons (pv 0) (pa_cons (pv 1) pa_nil))))
      (pss_one (ps_ret (pe_tup (pa_cons (pe_op op_fdivL (pv 0) (pv 2)) (pa_cons (pe_op op_fdivL (pv 1) (pv 2)) pa_nil)))))), ?_⟩
  rintro ds ⟨a, b, rfl, hb, hb2⟩
  show WS _ none _ _ [.dat (.int a), .dat (.int b), .no]
  have hg : 0 < Nat.gcd a b := Nat.gcd_pos_of_pos_right a hb
  have hg2 : Nat.gcd a b ≤ b := Nat.gcd_le_right a hb
  repeat' walk_at "dl"
  refine cw_gcd ?_
  rw [Int.natAbs_natCast, Int.natAbs_natCast]
  repeat' walk_at "dl"
  intro a' b' e
  injection e with e1 e
  injection e with e2 e
  injection e1 with e1
  injection e2 with e2
  have e1 : a = a' := by omega
  have e2 : b = b' := by omega
  subst e1
  subst e2
  rw [fdivN, fdivN]
  rfl
def preSA (ds : List D) : Prop := ∃ p m n : Nat, ds = [.int p, .int m, .int n] ∧ (0 < p ∧ p ≤ 1000) ∧ m ≤ 1000
theorem ok_start_at {f : Addr} {fd : FuncData} (F : Fun K "start_at" "start_at" s_start_at f fd) (B : Bi K mg) : FnG P w K mg base CX0 1 f fd ["base", "width", "number"] (spF K preSA fun ds e => ∀ p m n : Nat, ds = [.int p, .int m, .int n] → e = rowD (digs p m n)) := by
  refine ok_fn F sc_start_at (fun ds ⟨p, m, n, e, _⟩ => by rw [e]; rfl) (fun cdv A outer s H E hr hgd => ?_)
  refine ⟨_, (pss_cons (ps_set (i := 3) sc_start_at.nd rfl (by first | exact Or.inl rfl | exact Or.inr rfl) (pe_lst pa_nil))
      (pss_cons (ps_for PassesOwn.never (by rfl) (pi_range1 (by rfl) B.z_range (pa_cons (pv 1) pa_nil)) (pg_name (i := 4) sc_start_at.nd rfl (by first | exact Or.inl rfl | exact Or.inr rfl))
      (pss_cons (ps_expr (pe_bm PySem.F.plainAttrs_list PySem.F.slot_list_append PySem.F.type_list_append mt_append (pv 3) (pa_cons (pe_op op_modN (pv 2) (pv 0)) pa_nil)))
      (pss_one (ps_set (i := 2) sc_start_at.nd rfl (by first | exact Or.inl rfl | exact Or.inr rfl) (pe_op op_fdivL (pv 2) (pv 0))))))
      (pss_one (ps_ret (pe_callTy (call_tuple_ofK (K := K) rfl) (by rfl) B.z_tuple (by decide +kernel) (pa_cons (pv 3) pa_nil)))))), ?_⟩
  rintro ds ⟨p, m, n, rfl, hp, hm⟩
  show WS _ none _ _ [.dat (.int p), .dat (.int m), .dat (.int n), .no, .no]
  walk_at "dl"
  refine ws_setF (wf_lst ?_)
  repeat' walk_at "dl"
  refine ⟨szl (by simp), ?_⟩
  repeat' walk_at "dl"
  refine ws_for (wj_rng1 ?_)
  repeat' walk_at "dl"
  refine ⟨_, rfl, by omega, fun i δ => ∃ c, δ = [.dat (.int p), .dat (.int m), .dat (.int ((n / p ^ i : Nat) : Int)), .own ((digs p i n).map .int), c], ⟨.no, by simp [digs]⟩, fun i d δ' hd ⟨c, e⟩ => ?_, fun δ' ⟨c, e⟩ => ?_⟩
  · subst e
    obtain ⟨hi, rfl⟩ := rngD_inv hd
    refine wg_name ?_
    walk_at "dl"
    refine ws_append rfl (szlt (by simp [digs_len]; omega)) ?_
    repeat' walk_at "dl"
    refine ⟨.dat (.int (0 + (i : Nat))), ?_⟩
    rw [digs_snoc, fdivN, fmodN, Nat.pow_succ, ← Nat.div_div_eq_div_mul, List.map_append]
    rfl
  · subst e
    refine ws_ret (we_tupOwn rfl ?_)
    intro p' m' n' e
    cases e
    rw [rngD_len, Int.toNat_natCast]
    rfl
def unT : D → List D | .tuple xs => xs | _ => []
theorem ok_point_at {f fR : Addr} {fd fdR : FuncData} (F : Fun K "point_at" "point_at" s_point_at f fd) (B : Bi K mg) (d_row_times : Df P w K mg base 1 "row_times" fR fdR ["base", "row", "other"] (spF K preDot postDot)) : FnG P w K mg base CX0 2 f fd ["net", "start"] (spF K prePt postPt) := by
  refine ok_fn F sc_point_at (fun ds ⟨_, _, _, _, _, _, e, _⟩ => by rw [e]; rfl) (fun cdv A outer s H E hr hgd => ?_)
  refine ⟨_, (pss_cons (ps_asg (pv 0) (pg_tupK (K := K) (n := 2) rfl (by rfl) (pgs_cons (pg_name (i := 2) sc_point_at.nd rfl (by first | exact Or.inl rfl | exact Or.inr rfl)) (pgs_cons (pg_name (i := 3) sc_point_at.nd rfl (by first | exact Or.inl rfl | exact Or.inr rfl)) pgs_nil))))
      (pss_one (ps_ret (pe_callTy (call_tuple_ofK (K := K) rfl) (by rfl) B.z_tuple (by decide +kernel) (pa_cons (pe_lc (own := [("table", 4)]) (g := (gName 4)) (tt := tYes) (by rfl) sc_point_at.nd (pi_seqK (K := K) rfl (pv 3)) (blkOk_by (own := [("table", 4)]) (N := ["net", "start", "base", "tables", "table", "row"]) (sc := defScope s_point_at) (by decide +kernel)) (fun _ _ _ _ _ => (pg_name (i := 4) sc_point_at.nd rfl (by first | exact Or.inl rfl | exact Or.inr rfl))) (fun _ _ _ _ _ => pts_nil) (fun _ _ _ _ _ => (pe_callTy (call_tuple_ofK (K := K) rfl) (by rfl) B.z_tuple (by decide +kernel) (pa_cons (pe_lc (own := [("row", 5)]) (g := (gName 5)) (tt := tYes) (by rfl) sc_point_at.nd (pi_seqK (K := K) rfl (pv 4)) (blkOk_by (own := [("row", 5)]) (N := ["net", "start", "base", "tables", "table", "row"]) (sc := ({ kind := .function, names := [(".0", .local), ("table", .local), ("tuple", .globalImplicit), ("base", .cell), ("start", .cell)], isGenerator := false, isCoroutine := false } : Scope)) (by decide +kernel)) (fun _ _ _ _ _ => (pg_name (i := 5) sc_point_at.nd rfl (by first | exact Or.inl rfl | exact Or.inr rfl))) (fun _ _ _ _ _ => pts_nil) (fun _ _ _ _ _ => (pe_callG d_row_times.ok (hr.mono (by decide)) hgd (by rfl) d_row_times.g d_row_times.kp d_row_times.b .nil pass0 (pa_cons (pv 2) (pa_cons (pv 5) (pa_cons (pv 1) pa_nil)))))) pa_nil)))) pa_nil))))), ?_⟩
  rintro ds ⟨p, s, d, m, ts, b, rfl, hn, hb⟩
  have hp := hn.1.pos
  show WS _ none _ _ [.dat (.tuple [.int p, .tuple (ts.map tabD)]), .dat (rowD b), .no, .no, .no, .no]
  repeat' walk_at "dl"
  refine we_fresh (wf_map (fun d => PyData.tuple ((unT d).map fun dr => .int ((dot (rowOf dr) b).fmod p))) (wj_seq ?_))
  repeat' walk_at "dl"
  refine ⟨szl (by rw [List.length_map, hn.2.2.2.2.1]; have := hn.2.1; omega), fun i dd hdd => ?_, ?_⟩
  · obtain ⟨t, ht, rfl⟩ := get_map hdd
    have hto := hn.2.2.2.2.2 t (List.mem_of_getElem? ht)
    refine wgv_name (by simp) ?_
    repeat' walk_at "dl"
    refine we_fresh (wf_map (fun d => .int ((dot (rowOf d) b).fmod p)) (wj_seq ?_))
    repeat' walk_at "dl"
    refine ⟨szl (by rw [List.length_map, hto.1]; have := hn.2.2.1; omega), fun j d hd => ?_, ?_⟩
    · obtain ⟨r, hr, rfl⟩ := get_map hd
      have hrm := hto.2 r (List.mem_of_getElem? hr)
      refine wgv_name (by simp) ?_
      refine we_call ?_
      repeat' walk_at "dl"
      refine ⟨⟨p, r, b, rfl, by omega, by rw [hrm.1]; have := hn.2.2.2.1; omega, fun x hx => by have := hrm.2 x hx; omega⟩, fun e he => ?_⟩
      rw [he p r b rfl, rowOf_rowD]
    · repeat' walk_at "dl"
      rfl
  · repeat' walk_at "dl"
    intro p' ts' b' e
    injection e with e1 e
    injection e with e2 e
    have e1 : netD p ts = netD p' ts' := e1
    rw [← (netD_inj e1).1, ← (netD_inj e1).2, ← rowD_inj e2]
    unfold tabD ptOf
    rw [List.map_map, List.map_map]
    congr 1
    exact List.map_congr_left fun t _ => pt_line p t b
end

end Lw

namespace Lw
open PySem PySem.Spec PyProof.Rows L2 DlP Dl
local macro_rules | `(tactic| walk_at "dl") => `(tactic| first
  | with_reducible refine ws_next ?_
  | with_reducible refine ws_seq ?_
  | with_reducible refine ws_if ?_
  | with_reducible refine wt_not ?_
  | with_reducible refine wt_and ?_
  | with_reducible refine wt_or ?_
  | with_reducible refine wt_chainI ?_
  | with_reducible refine wt_test ?_
  | with_reducible refine wt_B ?_
  | with_reducible refine ws_ret ?_
  | with_reducible refine ws_cont ?_
  | with_reducible refine ws_break ?_
  | with_reducible refine wa_cons ?_
  | with_reducible refine wa_nil ?_
  | ((with_reducible refine we_var (d := ?dd) ?hv ?_); (case hv => exact rfl))
  | with_reducible refine we_int ?_
  | with_reducible refine we_bl ?_
  | with_reducible refine we_non ?_
  | with_reducible refine we_str ?_
  | with_reducible refine we_neg ?_
  | ((with_reducible refine we_spr ?hv ?hw (fun z => ?_)); (case hv => exact rfl); (case hw => decide))
  | ((with_reducible refine ws_spr ?hv ?hw ?_); (case hv => exact rfl); (case hw => decide))
  | with_reducible refine ws_set ?_
  | with_reducible refine ws_asgG ?_
  | with_reducible refine wg_two ?_
  | with_reducible refine wg_name ?_
  | with_reducible refine we_andV ?_
  | with_reducible refine we_orV ?_
  | with_reducible refine we_notV ?_
  | with_reducible refine we_if ?_
  | with_reducible refine we_chainI ?_
  | with_reducible refine we_isN ?_
  | with_reducible refine we_notN ?_
  | with_reducible refine we_repL ?_
  | with_reducible refine we_catLc ?_
  | with_reducible refine we_op ?_
  | with_reducible refine we_isInt ?_
  | with_reducible refine we_isBool ?_
  | with_reducible refine we_isTup ?_
  | with_reducible refine we_cb ?_
  | with_reducible refine we_tup2 ?_
  | with_reducible refine we_tup1 ?_
  | with_reducible refine we_tup ?_
  | with_reducible refine ow_addI ?_
  | with_reducible refine ow_I0b ?_
  | with_reducible refine ow_eqUI ?_
  | with_reducible refine ow_neUI ?_
  | ((with_reducible refine ow_mulI ?hc ?_); (case hc => first | exact cmul_right (by decide) | exact cmul_left (by decide) | exact cmul_right (by omega) | exact cmul_left (by omega)))
  | ((with_reducible refine ow_modN ?hc ?_); (case hc => omega))
  | ((with_reducible refine ow_fdivL ?hc ?_); (case hc => (exact cdivL (by omega) (by omega))))
  | ((with_reducible refine ow_pow ?hc ?_); (case hc => exact ⟨by decide, by decide, by decide⟩))
  | with_reducible refine ow_I0i ?_
  | with_reducible refine cw_int ?_
  | with_reducible refine cw_intB ?_
  | with_reducible refine cw_abs ?_
  | with_reducible refine cw_max2 ?_
  | with_reducible refine cw_min2 ?_
  | with_reducible refine cw_allT ?_
  | with_reducible refine cw_tupleL ?_
  | with_reducible refine cw_tupleT ?_
  | with_reducible refine cw_lenL ?_
  | with_reducible refine cw_lenT ?_
  | with_reducible refine cw_lenScr ?_
  | with_reducible refine ex_int ?_
  | with_reducible refine ex_two ?_
  | with_reducible refine ex_bool ?_
  | with_reducible refine ex_list ?_
  | with_reducible refine ex_tuple ?_
  | with_reducible refine ex_seqL ?_
  | with_reducible refine ex_seqT ?_
  | with_reducible refine and_cases (fun hb => ?_) (fun hb => ?_)
  | with_reducible refine or_cases (fun hb => ?_) (fun hb => ?_))

local macro_rules | `(tactic| walk_at "dl") => `(tactic| first
  | with_reducible refine cw_lenRow ?_
  | with_reducible refine cw_lenTab ?_
  | with_reducible refine ow_net0 ?_
  | with_reducible refine ow_net1 ?_
  | with_reducible refine ow_tabs0 ?_
  | with_reducible refine ow_tab0 ?_
  | with_reducible refine ex_seqRow ?_
  | with_reducible refine ex_seqTab ?_)

section
variable {P : Program} {w : World} {K : Fg} {mg : Str → Option Value} {base : Heap}
theorem ok_fraction_of {f fR fP : Addr} {fd fdR fdP : FuncData} (F : Fun K "fraction_of" "fraction_of" s_fraction_of f fd) (B : Bi K mg) (d_reduced : Df P w K mg base 1 "reduced" fR fdR ["above", "below"] (spF K preRed postRed)) (d_power : Df P w K mg base 1 "power" fP fdP ["number", "exponent"] (spF K prePow postPow)) : FnG P w K mg base CX0 2 f fd ["base", "figures"] (spF K prePlace postPlace) := by
  refine ok_fn F sc_fraction_of (fun ds ⟨_, _, e, _⟩ => by rw [e]; rfl) (fun cdv A outer s H E hr hgd => ?_)
  refine ⟨_, (pss_cons (ps_set (i := 2) sc_fraction_of.nd rfl (by first | exact Or.inl rfl | exact Or.inr rfl) pe_int)
      (pss_cons (ps_for PassesOwn.never (by rfl) (pi_seqK (K := K) rfl (pv 1)) (pg_name (i := 3) sc_fraction_of.nd rfl (by first | exact Or.inl rfl | exact Or.inr rfl))
      (pss_one (ps_set (i := 2) sc_fraction_of.nd rfl (by first | exact Or.inl rfl | exact Or.inr rfl) (pe_op (op_addUK (K := K) rfl) (pe_op (op_mulUK (K := K) rfl) (pv 2) (pv 0)) (pv 3)))))
      (pss_one (ps_ret (pe_callG d_reduced.ok (hr.mono (by decide)) hgd (by rfl) d_reduced.g d_reduced.kp d_reduced.b .nil pass0 (pa_cons (pv 2) (pa_cons (pe_callG d_power.ok (hr.mono (by decide)) hgd (by rfl) d_power.g d_power.kp d_power.b .nil pass0 (pa_cons (pv 0) (pa_cons (pe_callB (call_lenK (K := K) rfl) (by rfl) B.z_len (by decide +kernel) (pa_cons (pv 1) pa_nil)) pa_nil))) pa_nil))))))), ?_⟩
  rintro ds ⟨p, r, rfl, hb, hr, hx⟩
  have hp := hb.pos
  obtain ⟨pn, rfl⟩ := Int.eq_ofNat_of_zero_le (show 0 ≤ p by omega)
  have hv := val_bound (p := pn) (by omega) r hx
  have hbb : pn ^ r.length ≤ 7 ^ 12 := Nat.le_trans (Nat.pow_le_pow_left (by omega) _) (Nat.pow_le_pow_right (by omega) hr)
  have hs : (7 : Nat) ^ 12 < 2 ^ 62 := by decide
  have h0 : 0 < pn ^ r.length := Nat.pow_pos (by omega)
  show WS _ none _ _ [.dat (.int pn), .dat (rowD r), .no, .no]
  repeat' walk_at "dl"
  refine ws_for (wj_seq ?_)
  repeat' walk_at "dl"
  refine ⟨fun i δ => ∃ c, δ = [.dat (.int pn), .dat (rowD r), .dat (.int (val pn (r.take i))), c], ⟨_, rfl⟩, fun i dd δ' hd ⟨c, e⟩ => ?_, fun δ' ⟨c, e⟩ => ?_⟩
  · subst e
    obtain ⟨x, hxi, rfl⟩ := get_map hd
    refine wg_name ?_
    repeat' walk_at "dl"
    have e : val (↑pn) (List.take (i + 1) r) = val (↑pn) (List.take i r) * ↑pn + x := by rw [List.take_succ, hxi]; exact val_snoc _ _ _
    rw [← e]
    exact ⟨_, rfl⟩
  · subst e
    rw [List.length_map, List.take_length]
    obtain ⟨n, hn⟩ := Int.eq_ofNat_of_zero_le hv.1
    repeat' walk_at "dl"
    refine we_call ?_
    repeat' walk_at "dl"
    refine we_call ?_
    repeat' walk_at "dl"
    refine ⟨⟨pn, r.length, rfl, by omega, by omega⟩, fun e he => ?_⟩
    rw [he pn r.length rfl, powN, hn]
    repeat' walk_at "dl"
    refine ⟨⟨n, pn ^ r.length, rfl, h0, by omega⟩, fun e he => ?_⟩
    rw [he n (pn ^ r.length) rfl]
    intro p' r' e
    injection e with e1 e
    injection e with e2 e
    injection e1 with e1
    have e2 := rowD_inj e2
    subst e2
    subst e1
    unfold frac
    rw [hn, Int.toNat_natCast, Int.toNat_natCast]
theorem ok_point_of {f fC fS fA : Addr} {fd fdC fdS fdA : FuncData} (F : Fun K "point_of" "point_of" s_point_of f fd) (B : Bi K mg) (d_check_net : Df P w K mg base 7 "check_net" fC fdC ["net"] (spF K preN fun _ _ => True)) (d_check_start : Df P w K mg base 4 "check_start" fS fdS ["net", "start"] (spF K preCS fun _ _ => True))
    (d_point_at : Df P w K mg base 2 "point_at" fA fdA ["net", "start"] (spF K prePt postPt)) : FnG P w K mg base CX0 8 f fd ["net", "start"] (spF K prePt postPt) := by
  refine ok_fn F sc_point_of (fun ds ⟨_, _, _, _, _, _, e, _⟩ => by rw [e]; rfl) (fun cdv A outer s H E hr hgd => ?_)
  refine ⟨_, (pss_cons (ps_expr (pe_callG d_check_net.ok (hr.mono (by decide)) hgd (by rfl) d_check_net.g d_check_net.kp d_check_net.b .nil pass0 (pa_cons (pv 0) pa_nil)))
      (pss_cons (ps_expr (pe_callG d_check_start.ok (hr.mono (by decide)) hgd (by rfl) d_check_start.g d_check_start.kp d_check_start.b .nil pass0 (pa_cons (pv 0) (pa_cons (pv 1) pa_nil))))
      (pss_one (ps_ret (pe_callG d_point_at.ok (hr.mono (by decide)) hgd (by rfl) d_point_at.g d_point_at.kp d_point_at.b .nil pass0 (pa_cons (pv 0) (pa_cons (pv 1) pa_nil))))))), ?_⟩
  rintro ds ⟨p, s, d, m, ts, b, rfl, hn, hb⟩
  show WS _ none _ _ [.dat (netD p ts), .dat (rowD b)]
  walk_at "dl"
  refine ws_expr (we_call ?_)
  repeat' walk_at "dl"
  refine ⟨⟨p, s, d, m, ts, rfl, hn⟩, fun e _ => ?_⟩
  walk_at "dl"
  refine ws_expr (we_call ?_)
  repeat' walk_at "dl"
  refine ⟨⟨p, s, d, m, ts, b, rfl, hn, hb⟩, fun e _ => ?_⟩
  repeat' walk_at "dl"
  refine we_call ?_
  repeat' walk_at "dl"
  exact ⟨⟨p, s, d, m, ts, b, rfl, hn, hb⟩, fun e he => he⟩
/-- the places of a start -/
def plOf (p : Int) (t : Tab) : Tab := t.map fun l => frac p l
def postPl (ds : List D) (e : D) : Prop := ∀ p ts b, ds = [netD p ts, rowD b] → e = tabD (plOf p (ptOf p ts b))
theorem pl_map (p : Int) (t : Tab) : PyData.tuple ((t.map rowD).map fun d => rowD (frac p (rowOf d))) = tabD (plOf p t) := by
  unfold tabD plOf
  rw [List.map_map, List.map_map]
  congr 1
  exact List.map_congr_left fun r _ => by show rowD (frac p (rowOf (rowD r))) = _; rw [rowOf_rowD]; rfl
theorem ok_place_of {f fC fS fA fF : Addr} {fd fdC fdS fdA fdF : FuncData} (F : Fun K "place_of" "place_of" s_place_of f fd) (B : Bi K mg) (d_check_net : Df P w K mg base 7 "check_net" fC fdC ["net"] (spF K preN fun _ _ => True)) (d_check_start : Df P w K mg base 4 "check_start" fS fdS ["net", "start"] (spF K preCS fun _ _ => True))
    (d_point_at : Df P w K mg base 2 "point_at" fA fdA ["net", "start"] (spF K prePt postPt)) (d_fraction_of : Df P w K mg base 2 "fraction_of" fF fdF ["base", "figures"] (spF K prePlace postPlace)) : FnG P w K mg base CX0 8 f fd ["net", "start"] (spF K prePt postPl) := by
  refine ok_fn F sc_place_of (fun ds ⟨_, _, _, _, _, _, e, _⟩ => by rw [e]; rfl) (fun cdv A outer s H E hr hgd => ?_)
  refine ⟨_, (pss_cons (ps_expr (pe_callG d_check_net.ok (hr.mono (by decide)) hgd (by rfl) d_check_net.g d_check_net.kp d_check_net.b .nil pass0 (pa_cons (pv 0) pa_nil)))
      (pss_cons (ps_expr (pe_callG d_check_start.ok (hr.mono (by decide)) hgd (by rfl) d_check_start.g d_check_start.kp d_check_start.b .nil pass0 (pa_cons (pv 0) (pa_cons (pv 1) pa_nil))))
      (pss_one (ps_ret (pe_callTy (call_tuple_ofK (K := K) rfl) (by rfl) B.z_tuple (by decide +kernel) (pa_cons (pe_lc (own := [("figures", 2)]) (g := (gName 2)) (tt := tYes) (by rfl) sc_place_of.nd (pi_seqK (K := K) rfl (pe_callG d_point_at.ok (hr.mono (by decide)) hgd (by rfl) d_point_at.g d_point_at.kp d_point_at.b .nil pass0 (pa_cons (pv 0) (pa_cons (pv 1) pa_nil)))) (blkOk_by (own := [("figures", 2)]) (N := ["net", "start", "figures"]) (sc := defScope s_place_of) (by decide +kernel)) (fun _ _ _ _ _ => (pg_name (i := 2) sc_place_of.nd rfl (by first | exact Or.inl rfl | exact Or.inr rfl))) (fun _ _ _ _ _ => pts_nil) (fun _ _ _ _ _ => (pe_callG d_fraction_of.ok (hr.mono (by decide)) hgd (by rfl) d_fraction_of.g d_fraction_of.kp d_fraction_of.b .nil pass0 (pa_cons (pe_ix (ix_seqK (K := K) rfl) (pv 0) pe_int (fun _ _ => rfl)) (pa_cons (pv 2) pa_nil))))) pa_nil)))))), ?_⟩
  rintro ds ⟨p, s, d, m, ts, b, rfl, hn, hb⟩
  have hps := pt_small (b := b) hn
  show WS _ none _ _ [.dat (netD p ts), .dat (rowD b), .no]
  walk_at "dl"
  refine ws_expr (we_call ?_)
  repeat' walk_at "dl"
  refine ⟨⟨p, s, d, m, ts, rfl, hn⟩, fun e _ => ?_⟩
  walk_at "dl"
  refine ws_expr (we_call ?_)
  repeat' walk_at "dl"
  refine ⟨⟨p, s, d, m, ts, b, rfl, hn, hb⟩, fun e _ => ?_⟩
  repeat' walk_at "dl"
  refine we_fresh (wf_map (fun d => rowD (frac p (rowOf d))) (wj_seq ?_))
  refine we_call ?_
  repeat' walk_at "dl"
  refine ⟨⟨p, s, d, m, ts, b, rfl, hn, hb⟩, fun e he => ?_⟩
  rw [he p ts b rfl]
  repeat' walk_at "dl"
  refine ⟨szl (by rw [List.length_map]; omega), fun i dd hd => ?_, ?_⟩
  · obtain ⟨l, hl, rfl⟩ := get_map hd
    have hlm := hps.1 l (List.mem_of_getElem? hl)
    refine wgv_name (by simp) ?_
    refine we_call ?_
    repeat' walk_at "dl"
    refine ⟨⟨p, l, rfl, hn.1, hlm.2, hlm.1⟩, fun e he => ?_⟩
    rw [he p l rfl, rowOf_rowD]
  · repeat' walk_at "dl"
    rw [pl_map]
    intro p' ts' b' e
    injection e with e1 e
    injection e with e2 e
    rw [← (netD_inj e1).1, ← (netD_inj e1).2, ← rowD_inj e2]
def postAll (ds : List D) (e : D) : Prop := ∀ p s d m ts, ds = [netD p ts] → NetOk p s d m ts → e = .tuple ((allPts p m ts).map tabD)
theorem ok_points_of {f fC fW fP fA fS : Addr} {fd fdC fdW fdP fdA fdS : FuncData} (F : Fun K "points_of" "points_of" s_points_of f fd) (B : Bi K mg) (d_check_net : Df P w K mg base 7 "check_net" fC fdC ["net"] (spF K preN fun _ _ => True)) (d_width_of : Df P w K mg base 1 "width_of" fW fdW ["net"] (spF K preN fun ds e => ∀ p s d m ts, ds = [netD p ts] → NetOk p s d m ts → e = .int m))
    (d_power : Df P w K mg base 1 "power" fP fdP ["number", "exponent"] (spF K prePow postPow)) (d_point_at : Df P w K mg base 2 "point_at" fA fdA ["net", "start"] (spF K prePt postPt))
    (d_start_at : Df P w K mg base 1 "start_at" fS fdS ["base", "width", "number"] (spF K preSA fun ds e => ∀ p m n : Nat, ds = [.int p, .int m, .int n] → e = rowD (digs p m n))) : FnG P w K mg base CX0 8 f fd ["net"] (spF K preWeb postAll) := by
  refine ok_fn F sc_points_of (fun ds ⟨_, _, _, _, _, e, _⟩ => by rw [e]; rfl) (fun cdv A outer s H E hr hgd => ?_)
  refine ⟨_, (pss_cons (ps_expr (pe_callG d_check_net.ok (hr.mono (by decide)) hgd (by rfl) d_check_net.g d_check_net.kp d_check_net.b .nil pass0 (pa_cons (pv 0) pa_nil)))
      (pss_cons (ps_set (i := 1) sc_points_of.nd rfl (by first | exact Or.inl rfl | exact Or.inr rfl) (pe_ix (ix_seqK (K := K) rfl) (pv 0) pe_int (fun _ _ => rfl)))
      (pss_cons (ps_set (i := 2) sc_points_of.nd rfl (by first | exact Or.inl rfl | exact Or.inr rfl) (pe_callG d_width_of.ok (hr.mono (by decide)) hgd (by rfl) d_width_of.g d_width_of.kp d_width_of.b .nil pass0 (pa_cons (pv 0) pa_nil)))
      (pss_cons (ps_set (i := 3) sc_points_of.nd rfl (by first | exact Or.inl rfl | exact Or.inr rfl) (pe_callG d_power.ok (hr.mono (by decide)) hgd (by rfl) d_power.g d_power.kp d_power.b .nil pass0 (pa_cons (pv 1) (pa_cons (pv 2) pa_nil))))
      (pss_cons (ps_if (pt_cmpR op_gt (pv 3) (pe_glob (v := .int 4096) (by rfl) (Classical.choose_spec B.c_MOST_STARTS) ⟨_, rfl⟩) (nomark _))
      (pss_one ps_never)
      pss_nil)
      (pss_one (ps_ret (pe_callTy (call_tuple_ofK (K := K) rfl) (by rfl) B.z_tuple (by decide +kernel) (pa_cons (pe_lc (own := [("number", 4)]) (g := (gName 4)) (tt := tYes) (by rfl) sc_points_of.nd (pi_range1 (by rfl) B.z_range (pa_cons (pv 3) pa_nil)) (blkOk_by (own := [("number", 4)]) (N := ["net", "base", "width", "many", "number"]) (sc := defScope s_points_of) (by decide +kernel)) (fun _ _ _ _ _ => (pg_name (i := 4) sc_points_of.nd rfl (by first | exact Or.inl rfl | exact Or.inr rfl))) (fun _ _ _ _ _ => pts_nil) (fun _ _ _ _ _ => (pe_callG d_point_at.ok (hr.mono (by decide)) hgd (by rfl) d_point_at.g d_point_at.kp d_point_at.b .nil pass0 (pa_cons (pv 0) (pa_cons (pe_callG d_start_at.ok (hr.mono (by decide)) hgd (by rfl) d_start_at.g d_start_at.kp d_start_at.b .nil pass0 (pa_cons (pv 1) (pa_cons (pv 2) (pa_cons (pv 4) pa_nil)))) pa_nil))))) pa_nil))))))))), ?_⟩
  rintro ds ⟨p, s, d, m, ts, rfl, hn, h64⟩
  have hp := hn.1.pos
  have hm := hn.2.2.2.1
  obtain ⟨pn, rfl⟩ := Int.eq_ofNat_of_zero_le (show 0 ≤ p by omega)
  rw [powN] at h64
  show WS _ none _ _ [.dat (netD pn ts), .no, .no, .no, .no]
  walk_at "dl"
  refine ws_expr (we_call ?_)
  repeat' walk_at "dl"
  refine ⟨⟨pn, s, d, m, ts, rfl, hn⟩, fun e _ => ?_⟩
  repeat' walk_at "dl"
  refine we_call ?_
  repeat' walk_at "dl"
  refine ⟨⟨pn, s, d, m, ts, rfl, hn⟩, fun e he => ?_⟩
  rw [he pn s d m ts rfl hn]
  repeat' walk_at "dl"
  refine we_call ?_
  repeat' walk_at "dl"
  refine ⟨⟨pn, m, rfl, by omega, by omega⟩, fun e he => ?_⟩
  rw [he pn m rfl, powN]
  repeat' walk_at "dl"
  · rename_i h
    have h := of_decide_eq_true h
    omega
  · refine we_fresh (wf_map (fun d => tabD (ptOf pn ts (digs pn m (intOf d).toNat))) (wj_rng1 ?_))
    repeat' walk_at "dl"
    refine ⟨_, rfl, by omega, szl (by rw [rngD_len]; omega), fun i dd hd => ?_, ?_⟩
    · obtain ⟨hi, rfl⟩ := rngD_inv hd
      have hi2 : (0 : Int) + (i : Nat) = (i : Nat) := by omega
      rw [hi2]
      refine wgv_name (by simp) ?_
      refine we_call ?_
      repeat' walk_at "dl"
      refine we_call ?_
      repeat' walk_at "dl"
      refine ⟨⟨pn, m, i, rfl, by omega, by omega⟩, fun e he => ?_⟩
      rw [he pn m i rfl]
      repeat' walk_at "dl"
      refine ⟨⟨pn, s, d, m, ts, _, rfl, hn, digs_len _ _ _, digs_lt (by omega) _ _⟩, fun e he => ?_⟩
      rw [he _ _ _ rfl]
      rfl
    · repeat' walk_at "dl"
      intro p' s' d' m' ts' e hn'
      injection e with e1 e
      have e2 := (netD_inj e1).1
      have e3 := (netD_inj e1).2
      subst e3
      subst e2
      have em := hn'.width hn
      subst em
      unfold allPts rngD
      rw [List.map_map, List.map_map, Int.toNat_natCast, Int.toNat_natCast]
      congr 1
      exact List.map_congr_left fun n _ => by show tabD (ptOf _ _ (digs _ _ (0 + (n : Int)).toNat)) = _; rw [Int.zero_add, Int.toNat_natCast]; rfl
end

end Lw

namespace Lw
open PySem PySem.Spec PyProof.Rows L2 DlP Dl
local macro_rules | `(tactic| walk_at "dl") => `(tactic| first
  | with_reducible refine ws_next ?_
  | with_reducible refine ws_seq ?_
  | with_reducible refine ws_if ?_
  | with_reducible refine wt_not ?_
  | with_reducible refine wt_and ?_
  | with_reducible refine wt_or ?_
  | with_reducible refine wt_chainI ?_
  | with_reducible refine wt_test ?_
  | with_reducible refine wt_B ?_
  | with_reducible refine ws_ret ?_
  | with_reducible refine ws_cont ?_
  | with_reducible refine ws_break ?_
  | with_reducible refine wa_cons ?_
  | with_reducible refine wa_nil ?_
  | ((with_reducible refine we_var (d := ?dd) ?hv ?_); (case hv => exact rfl))
  | with_reducible refine we_int ?_
  | with_reducible refine we_bl ?_
  | with_reducible refine we_non ?_
  | with_reducible refine we_str ?_
  | with_reducible refine we_neg ?_
  | ((with_reducible refine we_spr ?hv ?hw (fun z => ?_)); (case hv => exact rfl); (case hw => decide))
  | ((with_reducible refine ws_spr ?hv ?hw ?_); (case hv => exact rfl); (case hw => decide))
  | with_reducible refine ws_set ?_
  | with_reducible refine ws_asgG ?_
  | with_reducible refine wg_two ?_
  | with_reducible refine wg_name ?_
  | with_reducible refine we_andV ?_
  | with_reducible refine we_orV ?_
  | with_reducible refine we_notV ?_
  | with_reducible refine we_if ?_
  | with_reducible refine we_chainI ?_
  | with_reducible refine we_isN ?_
  | with_reducible refine we_notN ?_
  | with_reducible refine we_repL ?_
  | with_reducible refine we_catLc ?_
  | with_reducible refine we_op ?_
  | with_reducible refine we_isInt ?_
  | with_reducible refine we_isBool ?_
  | with_reducible refine we_isTup ?_
  | with_reducible refine we_cb ?_
  | with_reducible refine we_tup2 ?_
  | with_reducible refine we_tup1 ?_
  | with_reducible refine we_tup ?_
  | with_reducible refine ow_addI ?_
  | with_reducible refine ow_I0b ?_
  | with_reducible refine ow_eqUI ?_
  | with_reducible refine ow_neUI ?_
  | ((with_reducible refine ow_mulI ?hc ?_); (case hc => first | exact cmul_right (by decide) | exact cmul_left (by decide) | exact cmul_right (by omega) | exact cmul_left (by omega)))
  | ((with_reducible refine ow_modN ?hc ?_); (case hc => omega))
  | ((with_reducible refine ow_fdivL ?hc ?_); (case hc => (exact cdivL (by omega) (by omega))))
  | ((with_reducible refine ow_pow ?hc ?_); (case hc => exact ⟨by decide, by decide, by decide⟩))
  | with_reducible refine ow_I0i ?_
  | with_reducible refine cw_int ?_
  | with_reducible refine cw_intB ?_
  | with_reducible refine cw_abs ?_
  | with_reducible refine cw_max2 ?_
  | with_reducible refine cw_min2 ?_
  | with_reducible refine cw_allT ?_
  | with_reducible refine cw_tupleL ?_
  | with_reducible refine cw_tupleT ?_
  | with_reducible refine cw_lenL ?_
  | with_reducible refine cw_lenT ?_
  | with_reducible refine cw_lenScr ?_
  | with_reducible refine ex_int ?_
  | with_reducible refine ex_two ?_
  | with_reducible refine ex_bool ?_
  | with_reducible refine ex_list ?_
  | with_reducible refine ex_tuple ?_
  | with_reducible refine ex_seqL ?_
  | with_reducible refine ex_seqT ?_
  | with_reducible refine and_cases (fun hb => ?_) (fun hb => ?_)
  | with_reducible refine or_cases (fun hb => ?_) (fun hb => ?_))

local macro_rules | `(tactic| walk_at "dl") => `(tactic| first
  | with_reducible refine cw_lenRow ?_
  | with_reducible refine cw_lenTab ?_
  | with_reducible refine ow_net0 ?_
  | with_reducible refine ow_net1 ?_
  | with_reducible refine ow_tabs0 ?_
  | with_reducible refine ow_tab0 ?_
  | with_reducible refine ex_seqRow ?_
  | with_reducible refine ex_seqTab ?_)

section
variable {P : Program} {w : World} {K : Fg} {mg : Str → Option Value} {base : Heap}
def kwG {α : Type} : List α → List α → List α
  | [], ws => ws
  | _ :: _, _ => []
theorem kb_point_of {f : Addr} {fd : FuncData} (F : Fun K "point_of" "point_of" s_point_of f fd) : KBinds K fd ["net", "start"] ["net", "start"] kwG kwG := by
  obtain ⟨oc, od, kV, doc, pm, an, cdv, ct, osl, rfl, lk, hcd⟩ := F.ex
  refine ⟨fun s us ws _ hl => ?_, fun r rz => ?_⟩
  · match us, ws, hl with
    | [], [_, _], _ => exact BindsTo.of_eq rfl
  · cases r with
    | nil => exact rz
    | cons _ _ => exact .nil
theorem kwG_rel (G : Hp) (vs zs : List V) (ds es : List D) (r : RpA K G vs ds) (rz : RpA K G zs es) : RpA K G (kwG vs zs) (kwG ds es) := by
  cases r with
  | nil => exact rz
  | cons _ _ => exact .nil
def preTold (ds : List D) : Prop := ∃ p s d m ts b, ds = [netD p ts, rowD b, tabD (ptOf p ts b)] ∧ NetOk p s d m ts ∧ RowOk p m b
theorem ok__law_is_told {f fL fA fB : Addr} {fd fdL fdA fdB : FuncData} (F : Fun K "_law_is_told" "_law_is_told" s__law_is_told f fd) (B : Bi K mg) (d__law_place : Df P w K mg base 2 "_law_place" fL fdL ["p", "line"] (spF K prePlace postPlace))
    (d_point_of : Df P w K mg base 8 "point_of" fA fdA ["net", "start"] (spF K prePt postPt)) (k_point_of : KBinds K fdA ["net", "start"] ["net", "start"] kwG kwG) (d_place_of : Df P w K mg base 8 "place_of" fB fdB ["net", "start"] (spF K prePt postPl)) : FnG P w K mg base CX0 9 f fd ["web", "begin", "point"] (spF K preTold postFig) := by
  refine ok_fn F sc__law_is_told (fun ds ⟨_, _, _, _, _, _, e, _⟩ => by rw [e]; rfl) (fun cdv A outer s H E hr hgd => ?_)
  refine ⟨_, (pss_cons (ps_set (i := 3) sc__law_is_told.nd rfl (by first | exact Or.inl rfl | exact Or.inr rfl) (pe_callTy (call_tuple_ofK (K := K) rfl) (by rfl) B.z_tuple (by decide +kernel) (pa_cons (pe_lc (own := [("line", 4)]) (g := (gName 4)) (tt := tYes) (by rfl) sc__law_is_told.nd (pi_seqK (K := K) rfl (pv 2)) (blkOk_by (own := [("line", 4)]) (N := ["web", "begin", "point", "due", "line"]) (sc := defScope s__law_is_told) (by decide +kernel)) (fun _ _ _ _ _ => (pg_name (i := 4) sc__law_is_told.nd rfl (by first | exact Or.inl rfl | exact Or.inr rfl))) (fun _ _ _ _ _ => pts_nil) (fun _ _ _ _ _ => (pe_callG d__law_place.ok (hr.mono (by decide)) hgd (by rfl) d__law_place.g d__law_place.kp d__law_place.b .nil pass0 (pa_cons (pe_ix (ix_seqK (K := K) rfl) (pv 0) pe_int (fun _ _ => rfl)) (pa_cons (pv 4) pa_nil))))) pa_nil)))
      (pss_cons (ps_if (pt_cmpR (op_neUK (K := K) rfl hr.units) (pe_callB (call_reprUK (K := K) rfl hr.units hgd) (by rfl) B.z_repr (by decide +kernel) (pa_cons (pe_callGk0 d_point_of.ok (hr.mono (by decide)) hgd (by rfl) d_point_of.g d_point_of.kp k_point_of pass0 (pk_cons (pv 0) (pk_cons (pv 1) pk_nil))) pa_nil)) (pe_callB (call_reprUK (K := K) rfl hr.units hgd) (by rfl) B.z_repr (by decide +kernel) (pa_cons (pv 2) pa_nil)) (nomark _))
      (pss_one (ps_ret pe_bl))
      pss_nil)
      (pss_one (ps_ret (pe_cmpR (op_eqUK (K := K) rfl hr.units) (pe_callB (call_reprUK (K := K) rfl hr.units hgd) (by rfl) B.z_repr (by decide +kernel) (pa_cons (pe_callG d_place_of.ok (hr.mono (by decide)) hgd (by rfl) d_place_of.g d_place_of.kp d_place_of.b .nil pass0 (pa_cons (pv 0) (pa_cons (pv 1) pa_nil))) pa_nil)) (pe_callB (call_reprUK (K := K) rfl hr.units hgd) (by rfl) B.z_repr (by decide +kernel) (pa_cons (pv 3) pa_nil)) (nomark _)))))), ?_⟩
  rintro ds ⟨p, s, d, m, ts, b, rfl, hn, hb⟩
  have hp := hn.1.pos
  have hps := pt_small (b := b) hn
  have s1 : ShowD (tabD (ptOf p ts b)) := (shw_tab (fun r hr => ⟨fun x hx => by have := (hps.1 r hr).1 x hx; omega, (hps.1 r hr).2⟩) hps.2).showD (by omega) (by omega)
  have s2 : ShowD (tabD (plOf p (ptOf p ts b))) := (shw_tab (fun r hr => by
    obtain ⟨l, hl, rfl⟩ := List.mem_map.mp hr
    exact frac_small hn.1 (hps.1 l hl).1 (hps.1 l hl).2) (by unfold plOf; rw [List.length_map]; exact hps.2)).showD (by omega) (by omega)
  show WS _ none _ _ [.dat (netD p ts), .dat (rowD b), .dat (tabD (ptOf p ts b)), .no, .no]
  repeat' walk_at "dl"
  refine we_fresh (wf_map (fun d => rowD (frac p (rowOf d))) (wj_seq ?_))
  repeat' walk_at "dl"
  refine ⟨szl (by rw [List.length_map]; omega), fun i dd hd => ?_, ?_⟩
  · obtain ⟨l, hl, rfl⟩ := get_map hd
    have hlm := hps.1 l (List.mem_of_getElem? hl)
    refine wgv_name (by simp) ?_
    refine we_call ?_
    repeat' walk_at "dl"
    refine ⟨⟨p, l, rfl, hn.1, hlm.2, hlm.1⟩, fun e he => ?_⟩
    rw [he p l rfl, rowOf_rowD]
  · repeat' walk_at "dl"
    rw [pl_map]
    refine we_callK (gD := kwG) kwG_rel ?_
    repeat' walk_at "dl"
    refine ⟨⟨p, s, d, m, ts, b, rfl, hn, hb⟩, fun e he => ?_⟩
    rw [he p ts b rfl]
    repeat' walk_at "dl"
    refine cw_repr s1 ?_
    repeat' walk_at "dl"
    refine cw_repr s1 ?_
    refine ow_neUS ?_
    repeat' walk_at "dl"
    · rename_i h
      simp at h
    · refine we_call ?_
      repeat' walk_at "dl"
      refine ⟨⟨p, s, d, m, ts, b, rfl, hn, hb⟩, fun e he => ?_⟩
      rw [he p ts b rfl]
      repeat' walk_at "dl"
      refine cw_repr s2 ?_
      repeat' walk_at "dl"
      refine cw_repr s2 ?_
      refine ow_eqUS ?_
      show PyData.bool _ = _
      simp
def wet : Cell → Bool
  | .own _ => false
  | _ => true
theorem noOwn_by {δ : List Cell} (h : δ.all wet = true) : noOwn δ := fun i es e => by
  have := List.all_eq_true.mp h _ (List.mem_of_getElem? e)
  exact absurd this (by simp [wet])
end

end Lw

namespace Lw
open PySem PySem.Spec PyProof.Rows L2 DlP Dl
local macro_rules | `(tactic| walk_at "dl") => `(tactic| first
  | with_reducible refine ws_next ?_
  | with_reducible refine ws_seq ?_
  | with_reducible refine ws_if ?_
  | with_reducible refine wt_not ?_
  | with_reducible refine wt_and ?_
  | with_reducible refine wt_or ?_
  | with_reducible refine wt_chainI ?_
  | with_reducible refine wt_test ?_
  | with_reducible refine wt_B ?_
  | with_reducible refine ws_ret ?_
  | with_reducible refine ws_cont ?_
  | with_reducible refine ws_break ?_
  | with_reducible refine wa_cons ?_
  | with_reducible refine wa_nil ?_
  | ((with_reducible refine we_var (d := ?dd) ?hv ?_); (case hv => exact rfl))
  | with_reducible refine we_int ?_
  | with_reducible refine we_bl ?_
  | with_reducible refine we_non ?_
  | with_reducible refine we_str ?_
  | with_reducible refine we_neg ?_
  | ((with_reducible refine we_spr ?hv ?hw (fun z => ?_)); (case hv => exact rfl); (case hw => decide))
  | ((with_reducible refine ws_spr ?hv ?hw ?_); (case hv => exact rfl); (case hw => decide))
  | with_reducible refine ws_set ?_
  | with_reducible refine ws_asgG ?_
  | with_reducible refine wg_two ?_
  | with_reducible refine wg_name ?_
  | with_reducible refine we_andV ?_
  | with_reducible refine we_orV ?_
  | with_reducible refine we_notV ?_
  | with_reducible refine we_if ?_
  | with_reducible refine we_chainI ?_
  | with_reducible refine we_isN ?_
  | with_reducible refine we_notN ?_
  | with_reducible refine we_repL ?_
  | with_reducible refine we_catLc ?_
  | with_reducible refine we_op ?_
  | with_reducible refine we_isInt ?_
  | with_reducible refine we_isBool ?_
  | with_reducible refine we_isTup ?_
  | with_reducible refine we_cb ?_
  | with_reducible refine we_tup2 ?_
  | with_reducible refine we_tup1 ?_
  | with_reducible refine we_tup ?_
  | with_reducible refine ow_addI ?_
  | with_reducible refine ow_I0b ?_
  | with_reducible refine ow_eqUI ?_
  | with_reducible refine ow_neUI ?_
  | ((with_reducible refine ow_mulI ?hc ?_); (case hc => first | exact cmul_right (by decide) | exact cmul_left (by decide) | exact cmul_right (by omega) | exact cmul_left (by omega)))
  | ((with_reducible refine ow_modN ?hc ?_); (case hc => omega))
  | ((with_reducible refine ow_fdivL ?hc ?_); (case hc => (exact cdivL (by omega) (by omega))))
  | ((with_reducible refine ow_pow ?hc ?_); (case hc => exact ⟨by decide, by decide, by decide⟩))
  | with_reducible refine ow_I0i ?_
  | with_reducible refine cw_int ?_
  | with_reducible refine cw_intB ?_
  | with_reducible refine cw_abs ?_
  | with_reducible refine cw_max2 ?_
  | with_reducible refine cw_min2 ?_
  | with_reducible refine cw_allT ?_
  | with_reducible refine cw_tupleL ?_
  | with_reducible refine cw_tupleT ?_
  | with_reducible refine cw_lenL ?_
  | with_reducible refine cw_lenT ?_
  | with_reducible refine cw_lenScr ?_
  | with_reducible refine ex_int ?_
  | with_reducible refine ex_two ?_
  | with_reducible refine ex_bool ?_
  | with_reducible refine ex_list ?_
  | with_reducible refine ex_tuple ?_
  | with_reducible refine ex_seqL ?_
  | with_reducible refine ex_seqT ?_
  | with_reducible refine and_cases (fun hb => ?_) (fun hb => ?_)
  | with_reducible refine or_cases (fun hb => ?_) (fun hb => ?_))

local macro_rules | `(tactic| walk_at "dl") => `(tactic| first
  | with_reducible refine cw_lenRow ?_
  | with_reducible refine cw_lenTab ?_
  | with_reducible refine ow_net0 ?_
  | with_reducible refine ow_net1 ?_
  | with_reducible refine ow_tabs0 ?_
  | with_reducible refine ow_tab0 ?_
  | with_reducible refine ex_seqRow ?_
  | with_reducible refine ex_seqTab ?_)

section
variable {P : Program} {w : World} {K : Fg} {mg : Str → Option Value} {base : Heap}
theorem tolds {p : Int} {s d m : Nat} {ts : List Tab} {b : Row} {Q : D → Prop} (hn : NetOk p s d m ts) (hb : RowOk p m b) (h : Q (.bool true)) : preTold [netD p ts, rowD b, tabD (ptOf p ts b)] ∧ ∀ d, postFig [netD p ts, rowD b, tabD (ptOf p ts b)] d → Q d :=
  ⟨⟨p, s, d, m, ts, b, rfl, hn, hb⟩, fun e he => by rw [show e = PyData.bool true from he]; exact h⟩
theorem ok_law {f fS fN fLN fL fPs fSt fD fT fPO fPt : Addr} {fd fdS fdN fdLN fdL fdPs fdSt fdD fdT fdPO fdPt : FuncData} (F : Fun K "law" "law" s_law f fd) (B : Bi K mg)
    (d__law_spring : Df P w K mg base 1 "_law_spring" fS fdS ["script", "turn", "salt"] (spF K preSpr postSpr)) (d__law_net : Df P w K mg base 4 "_law_net" fN fdN ["spring", "top", "walk"] (spS K preNet postNet))
    (d__law_large_net : Df P w K mg base 4 "_law_large_net" fLN fdLN ["spring"] (spS K (fun ds => ds = []) postLarge)) (d__law_line : Df P w K mg base 2 "_law_line" fL fdL ["spring", "p", "m"] (spS K preLine postLine))
    (d__law_points : Df P w K mg base 3 "_law_points" fPs fdPs ["web"] (spF K preWeb postPts)) (d__law_starts : Df P w K mg base 1 "_law_starts" fSt fdSt ["p", "m"] (spF K preStarts postStarts))
    (d__law_draw : Df P w K mg base 1 "_law_draw" fD fdD ["spring", "many"] (spS K preDraw postDraw)) (d__law_is_told : Df P w K mg base 9 "_law_is_told" fT fdT ["web", "begin", "point"] (spF K preTold postFig))
    (d_points_of : Df P w K mg base 8 "points_of" fPO fdPO ["net"] (spF K preWeb postAll)) (d__law_point : Df P w K mg base 2 "_law_point" fPt fdPt ["web", "begin"] (spF K prePt postPt)) :
    FnG P w K mg base CX0 10 f fd ["script"] (spF K preLaw postLaw) := by
  refine ok_fn F sc_law (fun ds ⟨_, e, _⟩ => by rw [e]; rfl) (fun cdv A outer s H E hr hgd => ?_)
  refine ⟨_, (pss_cons (ps_for PassesOwn.never (by rfl) (pi_range1 (by rfl) B.z_range (pa_cons (pe_callB (call_max2 (by rfl)) (by rfl) B.z_max (by decide +kernel) (pa_cons pe_int (pa_cons (pe_callB (call_min2 (by rfl)) (by rfl) B.z_min (by decide +kernel) (pa_cons (pe_callB (call_lenK (K := K) rfl) (by rfl) B.z_len (by decide +kernel) (pa_cons (pv 0) pa_nil)) (pa_cons pe_int pa_nil))) pa_nil))) pa_nil)) (pg_name (i := 1) sc_law.nd rfl (by first | exact Or.inl rfl | exact Or.inr rfl))
      (pss_cons (ps_set (i := 2) sc_law.nd rfl (by first | exact Or.inl rfl | exact Or.inr rfl) (pe_callG d__law_spring.ok (hr.mono (by decide)) hgd (by rfl) d__law_spring.g d__law_spring.kp d__law_spring.b .nil pass0 (pa_cons (pv 0) (pa_cons (pv 1) (pa_cons pe_int pa_nil)))))
      (pss_cons (ps_set (i := 3) sc_law.nd rfl (by first | exact Or.inl rfl | exact Or.inr rfl) (pe_callG d__law_net.ok (hr.mono (by decide)) hgd (by rfl) d__law_net.g d__law_net.kp d__law_net.b .nil pass0 (pa_cons (pv 2) (pa_cons pe_int (pa_cons pe_int pa_nil)))))
      (pss_cons (ps_par (i := 7) (j := 8) (by rfl) sc_law.nd rfl rfl (by decide) rfl rfl (pa_cons (pe_callG d__law_points.ok (hr.mono (by decide)) hgd (by rfl) d__law_points.g d__law_points.kp d__law_points.b .nil pass0 (pa_cons (pv 3) pa_nil)) (pa_cons (pe_callG d__law_starts.ok (hr.mono (by decide)) hgd (by rfl) d__law_starts.g d__law_starts.kp d__law_starts.b .nil pass0 (pa_cons (pe_ix (ix_seqK (K := K) rfl) (pv 3) pe_int (fun _ _ => rfl)) (pa_cons (pe_callB (call_lenK (K := K) rfl) (by rfl) B.z_len (by decide +kernel) (pa_cons (pe_ix (ix_seqK (K := K) rfl) (pe_ix (ix_seqK (K := K) rfl) (pe_ix (ix_seqK (K := K) rfl) (pv 3) pe_int (fun _ _ => rfl)) pe_int (fun _ _ => rfl)) pe_int (fun _ _ => rfl)) pa_nil)) pa_nil))) pa_nil)) (by rfl))
      (pss_cons (ps_if (pt_cmpR (op_neUK (K := K) rfl hr.units) (pe_callB (call_reprUK (K := K) rfl hr.units hgd) (by rfl) B.z_repr (by decide +kernel) (pa_cons (pe_callG d_points_of.ok (hr.mono (by decide)) hgd (by rfl) d_points_of.g d_points_of.kp d_points_of.b .nil pass0 (pa_cons (pv 3) pa_nil)) pa_nil)) (pe_callB (call_reprUK (K := K) rfl hr.units hgd) (by rfl) B.z_repr (by decide +kernel) (pa_cons (pe_callTy (call_tuple_ofK (K := K) rfl) (by rfl) B.z_tuple (by decide +kernel) (pa_cons (pv 7) pa_nil)) pa_nil)) (nomark _))
      (pss_one (ps_ret pe_bl))
      pss_nil)
      (pss_cons (ps_for PassesOwn.never (by rfl) (pi_range1 (by rfl) B.z_range (pa_cons pe_int pa_nil)) (pg_name (i := 4) sc_law.nd rfl (by first | exact Or.inl rfl | exact Or.inr rfl))
      (pss_cons (ps_set (i := 9) sc_law.nd rfl (by first | exact Or.inl rfl | exact Or.inr rfl) (pe_callG d__law_draw.ok (hr.mono (by decide)) hgd (by rfl) d__law_draw.g d__law_draw.kp d__law_draw.b .nil pass0 (pa_cons (pv 2) (pa_cons (pe_callB (call_lenK (K := K) rfl) (by rfl) B.z_len (by decide +kernel) (pa_cons (pv 8) pa_nil)) pa_nil))))
      (pss_one (ps_if (pt_not (pt_val (pe_callG d__law_is_told.ok (hr.mono (by decide)) hgd (by rfl) d__law_is_told.g d__law_is_told.kp d__law_is_told.b .nil pass0 (pa_cons (pv 3) (pa_cons (pe_ix (ix_seqK (K := K) rfl) (pv 8) (pv 9) (fun _ _ => rfl)) (pa_cons (pe_ix (ix_seqK (K := K) rfl) (pv 7) (pv 9) (fun _ _ => rfl)) pa_nil))))))
      (pss_one (ps_ret pe_bl))
      pss_nil))))
      (pss_cons (ps_set (i := 5) sc_law.nd rfl (by first | exact Or.inl rfl | exact Or.inr rfl) (pe_callG d__law_large_net.ok (hr.mono (by decide)) hgd (by rfl) d__law_large_net.g d__law_large_net.kp d__law_large_net.b .nil pass0 (pa_cons (pv 2) pa_nil)))
      (pss_cons (ps_set (i := 6) sc_law.nd rfl (by first | exact Or.inl rfl | exact Or.inr rfl) (pe_callG d__law_line.ok (hr.mono (by decide)) hgd (by rfl) d__law_line.g d__law_line.kp d__law_line.b .nil pass0 (pa_cons (pv 2) (pa_cons (pe_ix (ix_seqK (K := K) rfl) (pv 5) pe_int (fun _ _ => rfl)) (pa_cons (pe_callB (call_lenK (K := K) rfl) (by rfl) B.z_len (by decide +kernel) (pa_cons (pe_ix (ix_seqK (K := K) rfl) (pe_ix (ix_seqK (K := K) rfl) (pe_ix (ix_seqK (K := K) rfl) (pv 5) pe_int (fun _ _ => rfl)) pe_int (fun _ _ => rfl)) pe_int (fun _ _ => rfl)) pa_nil)) pa_nil)))))
      (pss_one (ps_if (pt_not (pt_val (pe_callG d__law_is_told.ok (hr.mono (by decide)) hgd (by rfl) d__law_is_told.g d__law_is_told.kp d__law_is_told.b .nil pass0 (pa_cons (pv 5) (pa_cons (pv 6) (pa_cons (pe_callG d__law_point.ok (hr.mono (by decide)) hgd (by rfl) d__law_point.g d__law_point.kp d__law_point.b .nil pass0 (pa_cons (pv 5) (pa_cons (pv 6) pa_nil))) pa_nil))))))
      (pss_one (ps_ret pe_bl))
      pss_nil))))))))))
      (pss_one (ps_ret pe_bl))), ?_⟩
  rintro ds ⟨ns, rfl, hns⟩
  show WS _ none _ _ [.dat (scrD ns), .no, .no, .no, .no, .no, .no, .no, .no, .no]
  repeat' walk_at "dl"
  refine ws_for (wj_rng1 ?_)
  repeat' walk_at "dl"
  refine ⟨_, rfl, by split <;> split <;> omega, fun i δ => ∃ c1 c2 c3 c4 c5 c6 c7 c8 c9, δ = [.dat (scrD ns), c1, c2, c3, c4, c5, c6, c7, c8, c9] ∧ [c1, c2, c3, c4, c5, c6, c7, c8, c9].all wet = true, ⟨_, _, _, _, _, _, _, _, _, rfl, rfl⟩, fun i d δ' hd ⟨c1, c2, c3, c4, c5, c6, c7, c8, c9, e, hw⟩ => ?_, fun δ' ⟨c1, c2, c3, c4, c5, c6, c7, c8, c9, e, hw⟩ => ?_⟩
  · subst e
    obtain ⟨hi, rfl⟩ := rngD_inv hd
    refine wg_name ?_
    refine ws_spring (noOwn_by (by simp [wet] at hw ⊢; simp [hw])) ?_
    repeat' walk_at "dl"
    refine ⟨⟨ns, _, _, rfl, hns, by omega⟩, by simp [flatD, scrD], fun d hd => hd, fun a => ?_⟩
    repeat' walk_at "dl"
    refine we_callS rfl ?_
    repeat' walk_at "dl"
    refine ⟨⟨64, 4096, rfl, by omega, by omega⟩, fun wd hwd => ?_⟩
    obtain ⟨p, ts, s, d, m, rfl, hn, h64⟩ := hwd 64 4096 rfl
    have hp := hn.1.pos
    have hm := hn.2.2.2.1
    obtain ⟨pn, rfl⟩ := Int.eq_ofNat_of_zero_le (show 0 ≤ p by omega)
    have h64n : pn ^ m ≤ 64 := by rw [powN] at h64; omega
    have hpos : 0 < pn ^ m := Nat.pow_pos (by omega)
    obtain ⟨r0, t0, ts', ets, hr0⟩ := hn.first
    subst ets
    have hsA : ShowD (.tuple ((allPts pn m ((r0 :: t0) :: ts')).map tabD)) := (shw_tabs (fun t ht => by
      obtain ⟨n, _, rfl⟩ := List.mem_map.mp ht
      have hps := pt_small (b := digs (Int.toNat pn) m n) hn
      exact ⟨fun r hr => ⟨fun x hx => by have := (hps.1 r hr).1 x hx; omega, (hps.1 r hr).2⟩, hps.2⟩) (by unfold allPts; rw [List.length_map, List.length_range, Int.toNat_natCast]; exact h64n)).showD (by omega) (by omega)
    repeat' walk_at "dl"
    refine ws_par ?_
    repeat' walk_at "dl"
    refine we_call ?_
    repeat' walk_at "dl"
    refine ⟨⟨pn, s, d, m, _, rfl, hn, h64⟩, fun e he => ?_⟩
    rw [he pn s d m _ rfl hn]
    repeat' walk_at "dl"
    refine we_call ?_
    repeat' walk_at "dl"
    refine ⟨⟨pn, r0.length, rfl, by omega, by omega, by rw [hr0]; exact h64n⟩, fun e he => ?_⟩
    rw [he pn r0.length rfl, hr0]
    repeat' walk_at "dl"
    refine we_call ?_
    repeat' walk_at "dl"
    refine ⟨⟨pn, s, d, m, _, rfl, hn, h64⟩, fun e he => ?_⟩
    rw [he pn s d m _ rfl hn]
    repeat' walk_at "dl"
    refine cw_repr hsA ?_
    repeat' walk_at "dl"
    refine cw_repr hsA ?_
    refine ow_neUS ?_
    repeat' walk_at "dl"
    · rename_i h
      simp at h
    · refine ws_for (wj_rng1 ?_)
      repeat' walk_at "dl"
      refine ⟨_, rfl, by omega, fun j δ => ∃ c4 c9, δ = [.dat (scrD ns), .dat (.int (0 + (i : Nat))), .spr, .dat (netD pn ((r0 :: t0) :: ts')), c4, c5, c6, .dat (.list ((allPts pn m ((r0 :: t0) :: ts')).map tabD)), .dat (.list ((List.range (pn ^ m)).map fun n => rowD (digs pn m n))), c9] ∧ wet c4 = true ∧ wet c9 = true, ⟨_, _, rfl, by simp [wet] at hw ⊢; simp [hw], by simp [wet] at hw ⊢; simp [hw]⟩, fun j d δ' hd ⟨c4, c9, e, h4, h9⟩ => ?_, fun δ' ⟨c4, c9, e, h4, h9⟩ => ?_⟩
      · subst e
        obtain ⟨hj, rfl⟩ := rngD_inv hd
        refine wg_name ?_
        walk_at "dl"
        walk_at "dl"
        refine we_callS rfl ?_
        repeat' walk_at "dl"
        rw [List.length_map, List.length_range]
        refine ⟨⟨_, rfl, by omega, by omega⟩, draw_of fun k hk => ?_⟩
        repeat' walk_at "dl"
        refine we_call ?_
        repeat' walk_at "dl"
        refine ow_ixL' (x := rowD (digs pn m k)) (atI_nat (by simp [hk])) ?_
        repeat' walk_at "dl"
        refine ow_ixL' (x := tabD (ptOf pn ((r0 :: t0) :: ts') (digs pn m k))) (atI_nat (by simp [hk, allPts])) ?_
        repeat' walk_at "dl"
        refine tolds hn ⟨digs_len _ _ _, digs_lt (by omega) _ _⟩ ?_
        repeat' walk_at "dl"
        · rename_i h
          cases h
        · exact ⟨_, _, rfl, rfl, rfl⟩
      · subst e
        repeat' walk_at "dl"
        refine we_callS rfl ?_
        repeat' walk_at "dl"
        refine ⟨rfl, fun wd ⟨p2, ts2, s2, d2, m2, e, hn2⟩ => ?_⟩
        subst e
        have hp2 := hn2.1.pos
        have hm2 := hn2.2.2.2.1
        obtain ⟨r2, t2, ts2', ets2, hr2⟩ := hn2.first
        subst ets2
        repeat' walk_at "dl"
        refine we_callS rfl ?_
        repeat' walk_at "dl"
        refine ⟨⟨p2, r2.length, rfl, by omega, by omega⟩, line_of fun b hb => ?_⟩
        rw [hr2] at hb
        repeat' walk_at "dl"
        refine we_call ?_
        repeat' walk_at "dl"
        refine we_call ?_
        repeat' walk_at "dl"
        refine ⟨⟨p2, s2, d2, m2, _, b, rfl, hn2, hb⟩, fun e he => ?_⟩
        rw [he p2 _ b rfl]
        repeat' walk_at "dl"
        refine tolds hn2 hb ?_
        repeat' walk_at "dl"
        · rename_i h
          cases h
        · refine ⟨_, _, _, _, _, _, _, _, _, rfl, ?_⟩
          cases c4 <;> cases c9 <;> first | rfl | (simp [wet] at h4; done) | (simp [wet] at h9; done)
  · subst e
    repeat' walk_at "dl"
    rfl
end

end Lw

namespace Lw
open PySem PySem.Spec PyProof.Rows L2 DlP Dl
theorem all_mk {l : PySem.W.OpenLaw} {w : World} {K : PySem.W.Frag} {h : Heap} {mg : Str → Option Value} {fa : Addr} (X : K.In h) (G : h.Ns mainGlobals mg) (hfa : mg "law" = some (.ref fa))
    {f__law_spring : Addr} {od__law_spring an__law_spring : Option Addr} {sl__law_spring : Array (Option Value)} {oc__law_spring kV__law_spring dc__law_spring pm__law_spring cd__law_spring ct__law_spring : Value}
    {f__law_draw : Addr} {od__law_draw an__law_draw : Option Addr} {sl__law_draw : Array (Option Value)} {oc__law_draw kV__law_draw dc__law_draw pm__law_draw cd__law_draw ct__law_draw : Value}
    {f__law_pick : Addr} {od__law_pick an__law_pick : Option Addr} {sl__law_pick : Array (Option Value)} {oc__law_pick kV__law_pick dc__law_pick pm__law_pick cd__law_pick ct__law_pick : Value}
    {f__law_line : Addr} {od__law_line an__law_line : Option Addr} {sl__law_line : Array (Option Value)} {oc__law_line kV__law_line dc__law_line pm__law_line cd__law_line ct__law_line : Value}
    {f__law_table : Addr} {od__law_table an__law_table : Option Addr} {sl__law_table : Array (Option Value)} {oc__law_table kV__law_table dc__law_table pm__law_table cd__law_table ct__law_table : Value}
    {f__law_most : Addr} {od__law_most an__law_most : Option Addr} {sl__law_most : Array (Option Value)} {oc__law_most kV__law_most dc__law_most pm__law_most cd__law_most ct__law_most : Value}
    {f__law_net : Addr} {od__law_net an__law_net : Option Addr} {sl__law_net : Array (Option Value)} {oc__law_net kV__law_net dc__law_net pm__law_net cd__law_net ct__law_net : Value}
    {f__law_large_net : Addr} {od__law_large_net an__law_large_net : Option Addr} {sl__law_large_net : Array (Option Value)} {oc__law_large_net kV__law_large_net dc__law_large_net pm__law_large_net cd__law_large_net ct__law_large_net : Value}
    {f__law_times : Addr} {od__law_times an__law_times : Option Addr} {sl__law_times : Array (Option Value)} {oc__law_times kV__law_times dc__law_times pm__law_times cd__law_times ct__law_times : Value}
    {f__law_point : Addr} {od__law_point an__law_point : Option Addr} {sl__law_point : Array (Option Value)} {oc__law_point kV__law_point dc__law_point pm__law_point cd__law_point ct__law_point : Value}
    {f__law_starts : Addr} {od__law_starts an__law_starts : Option Addr} {sl__law_starts : Array (Option Value)} {oc__law_starts kV__law_starts dc__law_starts pm__law_starts cd__law_starts ct__law_starts : Value}
    {f__law_points : Addr} {od__law_points an__law_points : Option Addr} {sl__law_points : Array (Option Value)} {oc__law_points kV__law_points dc__law_points pm__law_points cd__law_points ct__law_points : Value}
    {f__law_power : Addr} {od__law_power an__law_power : Option Addr} {sl__law_power : Array (Option Value)} {oc__law_power kV__law_power dc__law_power pm__law_power cd__law_power ct__law_power : Value}
    {f__law_place : Addr} {od__law_place an__law_place : Option Addr} {sl__law_place : Array (Option Value)} {oc__law_place kV__law_place dc__law_place pm__law_place cd__law_place ct__law_place : Value}
    {f_is_whole : Addr} {od_is_whole an_is_whole : Option Addr} {sl_is_whole : Array (Option Value)} {oc_is_whole kV_is_whole dc_is_whole pm_is_whole cd_is_whole ct_is_whole : Value}
    {f_is_base : Addr} {od_is_base an_is_base : Option Addr} {sl_is_base : Array (Option Value)} {oc_is_base kV_is_base dc_is_base pm_is_base cd_is_base ct_is_base : Value}
    {f_is_figure : Addr} {od_is_figure an_is_figure : Option Addr} {sl_is_figure : Array (Option Value)} {oc_is_figure kV_is_figure dc_is_figure pm_is_figure cd_is_figure ct_is_figure : Value}
    {f_is_row : Addr} {od_is_row an_is_row : Option Addr} {sl_is_row : Array (Option Value)} {oc_is_row kV_is_row dc_is_row pm_is_row cd_is_row ct_is_row : Value}
    {f_is_table : Addr} {od_is_table an_is_table : Option Addr} {sl_is_table : Array (Option Value)} {oc_is_table kV_is_table dc_is_table pm_is_table cd_is_table ct_is_table : Value}
    {f_is_of_size : Addr} {od_is_of_size an_is_of_size : Option Addr} {sl_is_of_size : Array (Option Value)} {oc_is_of_size kV_is_of_size dc_is_of_size pm_is_of_size cd_is_of_size ct_is_of_size : Value}
    {f_are_tables : Addr} {od_are_tables an_are_tables : Option Addr} {sl_are_tables : Array (Option Value)} {oc_are_tables kV_are_tables dc_are_tables pm_are_tables cd_are_tables ct_are_tables : Value}
    {f_is_net : Addr} {od_is_net an_is_net : Option Addr} {sl_is_net : Array (Option Value)} {oc_is_net kV_is_net dc_is_net pm_is_net cd_is_net ct_is_net : Value}
    {f_check_net : Addr} {od_check_net an_check_net : Option Addr} {sl_check_net : Array (Option Value)} {oc_check_net kV_check_net dc_check_net pm_check_net cd_check_net ct_check_net : Value}
    {f_width_of : Addr} {od_width_of an_width_of : Option Addr} {sl_width_of : Array (Option Value)} {oc_width_of kV_width_of dc_width_of pm_width_of cd_width_of ct_width_of : Value}
    {f_check_start : Addr} {od_check_start an_check_start : Option Addr} {sl_check_start : Array (Option Value)} {oc_check_start kV_check_start dc_check_start pm_check_start cd_check_start ct_check_start : Value}
    {f_row_times : Addr} {od_row_times an_row_times : Option Addr} {sl_row_times : Array (Option Value)} {oc_row_times kV_row_times dc_row_times pm_row_times cd_row_times ct_row_times : Value}
    {f_point_at : Addr} {od_point_at an_point_at : Option Addr} {sl_point_at : Array (Option Value)} {oc_point_at kV_point_at dc_point_at pm_point_at cd_point_at ct_point_at : Value}
    {f_point_of : Addr} {od_point_of an_point_of : Option Addr} {sl_point_of : Array (Option Value)} {oc_point_of kV_point_of dc_point_of pm_point_of cd_point_of ct_point_of : Value}
    {f_reduced : Addr} {od_reduced an_reduced : Option Addr} {sl_reduced : Array (Option Value)} {oc_reduced kV_reduced dc_reduced pm_reduced cd_reduced ct_reduced : Value}
    {f_power : Addr} {od_power an_power : Option Addr} {sl_power : Array (Option Value)} {oc_power kV_power dc_power pm_power cd_power ct_power : Value}
    {f_fraction_of : Addr} {od_fraction_of an_fraction_of : Option Addr} {sl_fraction_of : Array (Option Value)} {oc_fraction_of kV_fraction_of dc_fraction_of pm_fraction_of cd_fraction_of ct_fraction_of : Value}
    {f_place_of : Addr} {od_place_of an_place_of : Option Addr} {sl_place_of : Array (Option Value)} {oc_place_of kV_place_of dc_place_of pm_place_of cd_place_of ct_place_of : Value}
    {f__law_is_told : Addr} {od__law_is_told an__law_is_told : Option Addr} {sl__law_is_told : Array (Option Value)} {oc__law_is_told kV__law_is_told dc__law_is_told pm__law_is_told cd__law_is_told ct__law_is_told : Value}
    {f_start_at : Addr} {od_start_at an_start_at : Option Addr} {sl_start_at : Array (Option Value)} {oc_start_at kV_start_at dc_start_at pm_start_at cd_start_at ct_start_at : Value}
    {f_points_of : Addr} {od_points_of an_points_of : Option Addr} {sl_points_of : Array (Option Value)} {oc_points_of kV_points_of dc_points_of pm_points_of cd_points_of ct_points_of : Value}
    {f_law : Addr} {od_law an_law : Option Addr} {sl_law : Array (Option Value)} {oc_law kV_law dc_law pm_law cd_law ct_law : Value}
    (a__law_spring : PySem.W.nsIn K mainGlobals "_law_spring" = some (some (.ref f__law_spring))) (l__law_spring : K.lookup f__law_spring = some ⟨oc__law_spring, od__law_spring, .func (PySem.W.fnOf "_law_spring" "_law_spring" (defArgs s__law_spring) (defBody s__law_spring) (defScope s__law_spring) .none kV__law_spring dc__law_spring pm__law_spring an__law_spring cd__law_spring ct__law_spring), sl__law_spring⟩) (c__law_spring : PySem.W.codeIn K cd__law_spring "_law_spring" = true) (k__law_spring : PySem.W.keepIn K (.ref f__law_spring) = true)
    (a__law_draw : PySem.W.nsIn K mainGlobals "_law_draw" = some (some (.ref f__law_draw))) (l__law_draw : K.lookup f__law_draw = some ⟨oc__law_draw, od__law_draw, .func (PySem.W.fnOf "_law_draw" "_law_draw" (defArgs s__law_draw) (defBody s__law_draw) (defScope s__law_draw) .none kV__law_draw dc__law_draw pm__law_draw an__law_draw cd__law_draw ct__law_draw), sl__law_draw⟩) (c__law_draw : PySem.W.codeIn K cd__law_draw "_law_draw" = true) (k__law_draw : PySem.W.keepIn K (.ref f__law_draw) = true)
    (a__law_pick : PySem.W.nsIn K mainGlobals "_law_pick" = some (some (.ref f__law_pick))) (l__law_pick : K.lookup f__law_pick = some ⟨oc__law_pick, od__law_pick, .func (PySem.W.fnOf "_law_pick" "_law_pick" (defArgs s__law_pick) (defBody s__law_pick) (defScope s__law_pick) .none kV__law_pick dc__law_pick pm__law_pick an__law_pick cd__law_pick ct__law_pick), sl__law_pick⟩) (c__law_pick : PySem.W.codeIn K cd__law_pick "_law_pick" = true) (k__law_pick : PySem.W.keepIn K (.ref f__law_pick) = true)
    (a__law_line : PySem.W.nsIn K mainGlobals "_law_line" = some (some (.ref f__law_line))) (l__law_line : K.lookup f__law_line = some ⟨oc__law_line, od__law_line, .func (PySem.W.fnOf "_law_line" "_law_line" (defArgs s__law_line) (defBody s__law_line) (defScope s__law_line) .none kV__law_line dc__law_line pm__law_line an__law_line cd__law_line ct__law_line), sl__law_line⟩) (c__law_line : PySem.W.codeIn K cd__law_line "_law_line" = true) (k__law_line : PySem.W.keepIn K (.ref f__law_line) = true)
    (a__law_table : PySem.W.nsIn K mainGlobals "_law_table" = some (some (.ref f__law_table))) (l__law_table : K.lookup f__law_table = some ⟨oc__law_table, od__law_table, .func (PySem.W.fnOf "_law_table" "_law_table" (defArgs s__law_table) (defBody s__law_table) (defScope s__law_table) .none kV__law_table dc__law_table pm__law_table an__law_table cd__law_table ct__law_table), sl__law_table⟩) (c__law_table : PySem.W.codeIn K cd__law_table "_law_table" = true) (k__law_table : PySem.W.keepIn K (.ref f__law_table) = true)
    (a__law_most : PySem.W.nsIn K mainGlobals "_law_most" = some (some (.ref f__law_most))) (l__law_most : K.lookup f__law_most = some ⟨oc__law_most, od__law_most, .func (PySem.W.fnOf "_law_most" "_law_most" (defArgs s__law_most) (defBody s__law_most) (defScope s__law_most) .none kV__law_most dc__law_most pm__law_most an__law_most cd__law_most ct__law_most), sl__law_most⟩) (c__law_most : PySem.W.codeIn K cd__law_most "_law_most" = true) (k__law_most : PySem.W.keepIn K (.ref f__law_most) = true)
    (a__law_net : PySem.W.nsIn K mainGlobals "_law_net" = some (some (.ref f__law_net))) (l__law_net : K.lookup f__law_net = some ⟨oc__law_net, od__law_net, .func (PySem.W.fnOf "_law_net" "_law_net" (defArgs s__law_net) (defBody s__law_net) (defScope s__law_net) .none kV__law_net dc__law_net pm__law_net an__law_net cd__law_net ct__law_net), sl__law_net⟩) (c__law_net : PySem.W.codeIn K cd__law_net "_law_net" = true) (k__law_net : PySem.W.keepIn K (.ref f__law_net) = true)
    (a__law_large_net : PySem.W.nsIn K mainGlobals "_law_large_net" = some (some (.ref f__law_large_net))) (l__law_large_net : K.lookup f__law_large_net = some ⟨oc__law_large_net, od__law_large_net, .func (PySem.W.fnOf "_law_large_net" "_law_large_net" (defArgs s__law_large_net) (defBody s__law_large_net) (defScope s__law_large_net) .none kV__law_large_net dc__law_large_net pm__law_large_net an__law_large_net cd__law_large_net ct__law_large_net), sl__law_large_net⟩) (c__law_large_net : PySem.W.codeIn K cd__law_large_net "_law_large_net" = true) (k__law_large_net : PySem.W.keepIn K (.ref f__law_large_net) = true)
    (a__law_times : PySem.W.nsIn K mainGlobals "_law_times" = some (some (.ref f__law_times))) (l__law_times : K.lookup f__law_times = some ⟨oc__law_times, od__law_times, .func (PySem.W.fnOf "_law_times" "_law_times" (defArgs s__law_times) (defBody s__law_times) (defScope s__law_times) .none kV__law_times dc__law_times pm__law_times an__law_times cd__law_times ct__law_times), sl__law_times⟩) (c__law_times : PySem.W.codeIn K cd__law_times "_law_times" = true) (k__law_times : PySem.W.keepIn K (.ref f__law_times) = true)
    (a__law_point : PySem.W.nsIn K mainGlobals "_law_point" = some (some (.ref f__law_point))) (l__law_point : K.lookup f__law_point = some ⟨oc__law_point, od__law_point, .func (PySem.W.fnOf "_law_point" "_law_point" (defArgs s__law_point) (defBody s__law_point) (defScope s__law_point) .none kV__law_point dc__law_point pm__law_point an__law_point cd__law_point ct__law_point), sl__law_point⟩) (c__law_point : PySem.W.codeIn K cd__law_point "_law_point" = true) (k__law_point : PySem.W.keepIn K (.ref f__law_point) = true)
    (a__law_starts : PySem.W.nsIn K mainGlobals "_law_starts" = some (some (.ref f__law_starts))) (l__law_starts : K.lookup f__law_starts = some ⟨oc__law_starts, od__law_starts, .func (PySem.W.fnOf "_law_starts" "_law_starts" (defArgs s__law_starts) (defBody s__law_starts) (defScope s__law_starts) .none kV__law_starts dc__law_starts pm__law_starts an__law_starts cd__law_starts ct__law_starts), sl__law_starts⟩) (c__law_starts : PySem.W.codeIn K cd__law_starts "_law_starts" = true) (k__law_starts : PySem.W.keepIn K (.ref f__law_starts) = true)
    (a__law_points : PySem.W.nsIn K mainGlobals "_law_points" = some (some (.ref f__law_points))) (l__law_points : K.lookup f__law_points = some ⟨oc__law_points, od__law_points, .func (PySem.W.fnOf "_law_points" "_law_points" (defArgs s__law_points) (defBody s__law_points) (defScope s__law_points) .none kV__law_points dc__law_points pm__law_points an__law_points cd__law_points ct__law_points), sl__law_points⟩) (c__law_points : PySem.W.codeIn K cd__law_points "_law_points" = true) (k__law_points : PySem.W.keepIn K (.ref f__law_points) = true)
    (a__law_power : PySem.W.nsIn K mainGlobals "_law_power" = some (some (.ref f__law_power))) (l__law_power : K.lookup f__law_power = some ⟨oc__law_power, od__law_power, .func (PySem.W.fnOf "_law_power" "_law_power" (defArgs s__law_power) (defBody s__law_power) (defScope s__law_power) .none kV__law_power dc__law_power pm__law_power an__law_power cd__law_power ct__law_power), sl__law_power⟩) (c__law_power : PySem.W.codeIn K cd__law_power "_law_power" = true) (k__law_power : PySem.W.keepIn K (.ref f__law_power) = true)
    (a__law_place : PySem.W.nsIn K mainGlobals "_law_place" = some (some (.ref f__law_place))) (l__law_place : K.lookup f__law_place = some ⟨oc__law_place, od__law_place, .func (PySem.W.fnOf "_law_place" "_law_place" (defArgs s__law_place) (defBody s__law_place) (defScope s__law_place) .none kV__law_place dc__law_place pm__law_place an__law_place cd__law_place ct__law_place), sl__law_place⟩) (c__law_place : PySem.W.codeIn K cd__law_place "_law_place" = true) (k__law_place : PySem.W.keepIn K (.ref f__law_place) = true)
    (a_is_whole : PySem.W.nsIn K mainGlobals "is_whole" = some (some (.ref f_is_whole))) (l_is_whole : K.lookup f_is_whole = some ⟨oc_is_whole, od_is_whole, .func (PySem.W.fnOf "is_whole" "is_whole" (defArgs s_is_whole) (defBody s_is_whole) (defScope s_is_whole) .none kV_is_whole dc_is_whole pm_is_whole an_is_whole cd_is_whole ct_is_whole), sl_is_whole⟩) (c_is_whole : PySem.W.codeIn K cd_is_whole "is_whole" = true) (k_is_whole : PySem.W.keepIn K (.ref f_is_whole) = true)
    (a_is_base : PySem.W.nsIn K mainGlobals "is_base" = some (some (.ref f_is_base))) (l_is_base : K.lookup f_is_base = some ⟨oc_is_base, od_is_base, .func (PySem.W.fnOf "is_base" "is_base" (defArgs s_is_base) (defBody s_is_base) (defScope s_is_base) .none kV_is_base dc_is_base pm_is_base an_is_base cd_is_base ct_is_base), sl_is_base⟩) (c_is_base : PySem.W.codeIn K cd_is_base "is_base" = true) (k_is_base : PySem.W.keepIn K (.ref f_is_base) = true)
    (a_is_figure : PySem.W.nsIn K mainGlobals "is_figure" = some (some (.ref f_is_figure))) (l_is_figure : K.lookup f_is_figure = some ⟨oc_is_figure, od_is_figure, .func (PySem.W.fnOf "is_figure" "is_figure" (defArgs s_is_figure) (defBody s_is_figure) (defScope s_is_figure) .none kV_is_figure dc_is_figure pm_is_figure an_is_figure cd_is_figure ct_is_figure), sl_is_figure⟩) (c_is_figure : PySem.W.codeIn K cd_is_figure "is_figure" = true) (k_is_figure : PySem.W.keepIn K (.ref f_is_figure) = true)
    (a_is_row : PySem.W.nsIn K mainGlobals "is_row" = some (some (.ref f_is_row))) (l_is_row : K.lookup f_is_row = some ⟨oc_is_row, od_is_row, .func (PySem.W.fnOf "is_row" "is_row" (defArgs s_is_row) (defBody s_is_row) (defScope s_is_row) .none kV_is_row dc_is_row pm_is_row an_is_row cd_is_row ct_is_row), sl_is_row⟩) (c_is_row : PySem.W.codeIn K cd_is_row "is_row" = true) (k_is_row : PySem.W.keepIn K (.ref f_is_row) = true)
    (a_is_table : PySem.W.nsIn K mainGlobals "is_table" = some (some (.ref f_is_table))) (l_is_table : K.lookup f_is_table = some ⟨oc_is_table, od_is_table, .func (PySem.W.fnOf "is_table" "is_table" (defArgs s_is_table) (defBody s_is_table) (defScope s_is_table) .none kV_is_table dc_is_table pm_is_table an_is_table cd_is_table ct_is_table), sl_is_table⟩) (c_is_table : PySem.W.codeIn K cd_is_table "is_table" = true) (k_is_table : PySem.W.keepIn K (.ref f_is_table) = true)
    (a_is_of_size : PySem.W.nsIn K mainGlobals "is_of_size" = some (some (.ref f_is_of_size))) (l_is_of_size : K.lookup f_is_of_size = some ⟨oc_is_of_size, od_is_of_size, .func (PySem.W.fnOf "is_of_size" "is_of_size" (defArgs s_is_of_size) (defBody s_is_of_size) (defScope s_is_of_size) .none kV_is_of_size dc_is_of_size pm_is_of_size an_is_of_size cd_is_of_size ct_is_of_size), sl_is_of_size⟩) (c_is_of_size : PySem.W.codeIn K cd_is_of_size "is_of_size" = true) (k_is_of_size : PySem.W.keepIn K (.ref f_is_of_size) = true)
    (a_are_tables : PySem.W.nsIn K mainGlobals "are_tables" = some (some (.ref f_are_tables))) (l_are_tables : K.lookup f_are_tables = some ⟨oc_are_tables, od_are_tables, .func (PySem.W.fnOf "are_tables" "are_tables" (defArgs s_are_tables) (defBody s_are_tables) (defScope s_are_tables) .none kV_are_tables dc_are_tables pm_are_tables an_are_tables cd_are_tables ct_are_tables), sl_are_tables⟩) (c_are_tables : PySem.W.codeIn K cd_are_tables "are_tables" = true) (k_are_tables : PySem.W.keepIn K (.ref f_are_tables) = true)
    (a_is_net : PySem.W.nsIn K mainGlobals "is_net" = some (some (.ref f_is_net))) (l_is_net : K.lookup f_is_net = some ⟨oc_is_net, od_is_net, .func (PySem.W.fnOf "is_net" "is_net" (defArgs s_is_net) (defBody s_is_net) (defScope s_is_net) .none kV_is_net dc_is_net pm_is_net an_is_net cd_is_net ct_is_net), sl_is_net⟩) (c_is_net : PySem.W.codeIn K cd_is_net "is_net" = true) (k_is_net : PySem.W.keepIn K (.ref f_is_net) = true)
    (a_check_net : PySem.W.nsIn K mainGlobals "check_net" = some (some (.ref f_check_net))) (l_check_net : K.lookup f_check_net = some ⟨oc_check_net, od_check_net, .func (PySem.W.fnOf "check_net" "check_net" (defArgs s_check_net) (defBody s_check_net) (defScope s_check_net) .none kV_check_net dc_check_net pm_check_net an_check_net cd_check_net ct_check_net), sl_check_net⟩) (c_check_net : PySem.W.codeIn K cd_check_net "check_net" = true) (k_check_net : PySem.W.keepIn K (.ref f_check_net) = true)
    (a_width_of : PySem.W.nsIn K mainGlobals "width_of" = some (some (.ref f_width_of))) (l_width_of : K.lookup f_width_of = some ⟨oc_width_of, od_width_of, .func (PySem.W.fnOf "width_of" "width_of" (defArgs s_width_of) (defBody s_width_of) (defScope s_width_of) .none kV_width_of dc_width_of pm_width_of an_width_of cd_width_of ct_width_of), sl_width_of⟩) (c_width_of : PySem.W.codeIn K cd_width_of "width_of" = true) (k_width_of : PySem.W.keepIn K (.ref f_width_of) = true)
    (a_check_start : PySem.W.nsIn K mainGlobals "check_start" = some (some (.ref f_check_start))) (l_check_start : K.lookup f_check_start = some ⟨oc_check_start, od_check_start, .func (PySem.W.fnOf "check_start" "check_start" (defArgs s_check_start) (defBody s_check_start) (defScope s_check_start) .none kV_check_start dc_check_start pm_check_start an_check_start cd_check_start ct_check_start), sl_check_start⟩) (c_check_start : PySem.W.codeIn K cd_check_start "check_start" = true) (k_check_start : PySem.W.keepIn K (.ref f_check_start) = true)
    (a_row_times : PySem.W.nsIn K mainGlobals "row_times" = some (some (.ref f_row_times))) (l_row_times : K.lookup f_row_times = some ⟨oc_row_times, od_row_times, .func (PySem.W.fnOf "row_times" "row_times" (defArgs s_row_times) (defBody s_row_times) (defScope s_row_times) .none kV_row_times dc_row_times pm_row_times an_row_times cd_row_times ct_row_times), sl_row_times⟩) (c_row_times : PySem.W.codeIn K cd_row_times "row_times" = true) (k_row_times : PySem.W.keepIn K (.ref f_row_times) = true)
    (a_point_at : PySem.W.nsIn K mainGlobals "point_at" = some (some (.ref f_point_at))) (l_point_at : K.lookup f_point_at = some ⟨oc_point_at, od_point_at, .func (PySem.W.fnOf "point_at" "point_at" (defArgs s_point_at) (defBody s_point_at) (defScope s_point_at) .none kV_point_at dc_point_at pm_point_at an_point_at cd_point_at ct_point_at), sl_point_at⟩) (c_point_at : PySem.W.codeIn K cd_point_at "point_at" = true) (k_point_at : PySem.W.keepIn K (.ref f_point_at) = true)
    (a_point_of : PySem.W.nsIn K mainGlobals "point_of" = some (some (.ref f_point_of))) (l_point_of : K.lookup f_point_of = some ⟨oc_point_of, od_point_of, .func (PySem.W.fnOf "point_of" "point_of" (defArgs s_point_of) (defBody s_point_of) (defScope s_point_of) .none kV_point_of dc_point_of pm_point_of an_point_of cd_point_of ct_point_of), sl_point_of⟩) (c_point_of : PySem.W.codeIn K cd_point_of "point_of" = true) (k_point_of : PySem.W.keepIn K (.ref f_point_of) = true)
    (a_reduced : PySem.W.nsIn K mainGlobals "reduced" = some (some (.ref f_reduced))) (l_reduced : K.lookup f_reduced = some ⟨oc_reduced, od_reduced, .func (PySem.W.fnOf "reduced" "reduced" (defArgs s_reduced) (defBody s_reduced) (defScope s_reduced) .none kV_reduced dc_reduced pm_reduced an_reduced cd_reduced ct_reduced), sl_reduced⟩) (c_reduced : PySem.W.codeIn K cd_reduced "reduced" = true) (k_reduced : PySem.W.keepIn K (.ref f_reduced) = true)
    (a_power : PySem.W.nsIn K mainGlobals "power" = some (some (.ref f_power))) (l_power : K.lookup f_power = some ⟨oc_power, od_power, .func (PySem.W.fnOf "power" "power" (defArgs s_power) (defBody s_power) (defScope s_power) .none kV_power dc_power pm_power an_power cd_power ct_power), sl_power⟩) (c_power : PySem.W.codeIn K cd_power "power" = true) (k_power : PySem.W.keepIn K (.ref f_power) = true)
    (a_fraction_of : PySem.W.nsIn K mainGlobals "fraction_of" = some (some (.ref f_fraction_of))) (l_fraction_of : K.lookup f_fraction_of = some ⟨oc_fraction_of, od_fraction_of, .func (PySem.W.fnOf "fraction_of" "fraction_of" (defArgs s_fraction_of) (defBody s_fraction_of) (defScope s_fraction_of) .none kV_fraction_of dc_fraction_of pm_fraction_of an_fraction_of cd_fraction_of ct_fraction_of), sl_fraction_of⟩) (c_fraction_of : PySem.W.codeIn K cd_fraction_of "fraction_of" = true) (k_fraction_of : PySem.W.keepIn K (.ref f_fraction_of) = true)
    (a_place_of : PySem.W.nsIn K mainGlobals "place_of" = some (some (.ref f_place_of))) (l_place_of : K.lookup f_place_of = some ⟨oc_place_of, od_place_of, .func (PySem.W.fnOf "place_of" "place_of" (defArgs s_place_of) (defBody s_place_of) (defScope s_place_of) .none kV_place_of dc_place_of pm_place_of an_place_of cd_place_of ct_place_of), sl_place_of⟩) (c_place_of : PySem.W.codeIn K cd_place_of "place_of" = true) (k_place_of : PySem.W.keepIn K (.ref f_place_of) = true)
    (a__law_is_told : PySem.W.nsIn K mainGlobals "_law_is_told" = some (some (.ref f__law_is_told))) (l__law_is_told : K.lookup f__law_is_told = some ⟨oc__law_is_told, od__law_is_told, .func (PySem.W.fnOf "_law_is_told" "_law_is_told" (defArgs s__law_is_told) (defBody s__law_is_told) (defScope s__law_is_told) .none kV__law_is_told dc__law_is_told pm__law_is_told an__law_is_told cd__law_is_told ct__law_is_told), sl__law_is_told⟩) (c__law_is_told : PySem.W.codeIn K cd__law_is_told "_law_is_told" = true) (k__law_is_told : PySem.W.keepIn K (.ref f__law_is_told) = true)
    (a_start_at : PySem.W.nsIn K mainGlobals "start_at" = some (some (.ref f_start_at))) (l_start_at : K.lookup f_start_at = some ⟨oc_start_at, od_start_at, .func (PySem.W.fnOf "start_at" "start_at" (defArgs s_start_at) (defBody s_start_at) (defScope s_start_at) .none kV_start_at dc_start_at pm_start_at an_start_at cd_start_at ct_start_at), sl_start_at⟩) (c_start_at : PySem.W.codeIn K cd_start_at "start_at" = true) (k_start_at : PySem.W.keepIn K (.ref f_start_at) = true)
    (a_points_of : PySem.W.nsIn K mainGlobals "points_of" = some (some (.ref f_points_of))) (l_points_of : K.lookup f_points_of = some ⟨oc_points_of, od_points_of, .func (PySem.W.fnOf "points_of" "points_of" (defArgs s_points_of) (defBody s_points_of) (defScope s_points_of) .none kV_points_of dc_points_of pm_points_of an_points_of cd_points_of ct_points_of), sl_points_of⟩) (c_points_of : PySem.W.codeIn K cd_points_of "points_of" = true) (k_points_of : PySem.W.keepIn K (.ref f_points_of) = true)
    (a_law : PySem.W.nsIn K mainGlobals "law" = some (some (.ref f_law))) (l_law : K.lookup f_law = some ⟨oc_law, od_law, .func (PySem.W.fnOf "law" "law" (defArgs s_law) (defBody s_law) (defScope s_law) .none kV_law dc_law pm_law an_law cd_law ct_law), sl_law⟩) (c_law : PySem.W.codeIn K cd_law "law" = true) (k_law : PySem.W.keepIn K (.ref f_law) = true)
    (z_abs : PySem.W.nsIn K mainGlobals "abs" = some none)
    (z_all : PySem.W.nsIn K mainGlobals "all" = some none)
    (z_bool : PySem.W.nsIn K mainGlobals "bool" = some none)
    (z_int : PySem.W.nsIn K mainGlobals "int" = some none)
    (z_isinstance : PySem.W.nsIn K mainGlobals "isinstance" = some none)
    (z_len : PySem.W.nsIn K mainGlobals "len" = some none)
    (z_max : PySem.W.nsIn K mainGlobals "max" = some none)
    (z_min : PySem.W.nsIn K mainGlobals "min" = some none)
    (z_range : PySem.W.nsIn K mainGlobals "range" = some none)
    (z_repr : PySem.W.nsIn K mainGlobals "repr" = some none)
    (z_sum : PySem.W.nsIn K mainGlobals "sum" = some none)
    (z_tuple : PySem.W.nsIn K mainGlobals "tuple" = some none)
    (z_zip : PySem.W.nsIn K mainGlobals "zip" = some none)
    (m_gcd : PySem.W.nsIn K mainGlobals "gcd" = some (some (.builtin "math.gcd")))
    {a_BASES : Addr} {t0_BASES t1_BASES t2_BASES t3_BASES : Tok} {od_BASES : Option Addr} {n_BASES : Nat} {sl_BASES : Array (Option Value)} (v_BASES : PySem.W.nsIn K mainGlobals "BASES" = some (some (.ref a_BASES))) (w_BASES : K.lookup a_BASES = some ⟨.type "tuple", od_BASES, .seq #[.int 2 t0_BASES, .int 3 t1_BASES, .int 5 t2_BASES, .int 7 t3_BASES] n_BASES, sl_BASES⟩)
    {t_MOST_DIMENSIONS : Tok} (v_MOST_DIMENSIONS : PySem.W.nsIn K mainGlobals "MOST_DIMENSIONS" = some (some (.int 6 t_MOST_DIMENSIONS)))
    {t_MOST_DEPTH : Tok} (v_MOST_DEPTH : PySem.W.nsIn K mainGlobals "MOST_DEPTH" = some (some (.int 12 t_MOST_DEPTH)))
    {t_MOST_WIDTH : Tok} (v_MOST_WIDTH : PySem.W.nsIn K mainGlobals "MOST_WIDTH" = some (some (.int 12 t_MOST_WIDTH)))
    {t_MOST_STARTS : Tok} (v_MOST_STARTS : PySem.W.nsIn K mainGlobals "MOST_STARTS" = some (some (.int 4096 t_MOST_STARTS)))
    : ∃ fd : FuncData, (∀ (s : Shared) (u : Value), BindsTo s fd ⟨[u], []⟩ [("script", u)]) ∧ ∀ base : Heap, K.In base → base.Ns mainGlobals mg → FnG l.prog w K mg base CX0 10 fa fd ["script"] (spF K preLaw postLaw) := by
  have e := hfa.symm.trans (PySem.W.mg_of X G a_law)
  cases e
  have B : Bi K mg := ⟨PySem.W.mg_none_of X G z_abs, PySem.W.mg_none_of X G z_all, PySem.W.mg_none_of X G z_bool, PySem.W.mg_none_of X G z_int, PySem.W.mg_none_of X G z_isinstance, PySem.W.mg_none_of X G z_len, PySem.W.mg_none_of X G z_max, PySem.W.mg_none_of X G z_min, PySem.W.mg_none_of X G z_range, PySem.W.mg_none_of X G z_repr, PySem.W.mg_none_of X G z_sum, PySem.W.mg_none_of X G z_tuple, PySem.W.mg_none_of X G z_zip, PySem.W.mg_of X G m_gcd, ⟨_, PySem.W.mg_of X G v_BASES, .inr ⟨_, _, _, w_BASES, rfl, rfl, szl (by simp), .cons ⟨_, rfl⟩ (.cons ⟨_, rfl⟩ (.cons ⟨_, rfl⟩ (.cons ⟨_, rfl⟩ (.nil))))⟩⟩, ⟨_, PySem.W.mg_of X G v_MOST_DIMENSIONS⟩, ⟨_, PySem.W.mg_of X G v_MOST_DEPTH⟩, ⟨_, PySem.W.mg_of X G v_MOST_WIDTH⟩, ⟨_, PySem.W.mg_of X G v_MOST_STARTS⟩⟩
  have F__law_spring := fun_mk (st := s__law_spring) l__law_spring c__law_spring k__law_spring
  have b__law_spring := F__law_spring.binds (ps := ["script", "turn", "salt"]) fun _ _ _ _ _ _ us hl => match us, hl with | [_, _, _], _ => rfl
  have F__law_draw := fun_mk (st := s__law_draw) l__law_draw c__law_draw k__law_draw
  have b__law_draw := F__law_draw.binds (ps := ["spring", "many"]) fun _ _ _ _ _ _ us hl => match us, hl with | [_, _], _ => rfl
  have F__law_pick := fun_mk (st := s__law_pick) l__law_pick c__law_pick k__law_pick
  have b__law_pick := F__law_pick.binds (ps := ["spring", "some"]) fun _ _ _ _ _ _ us hl => match us, hl with | [_, _], _ => rfl
  have F__law_line := fun_mk (st := s__law_line) l__law_line c__law_line k__law_line
  have b__law_line := F__law_line.binds (ps := ["spring", "p", "m"]) fun _ _ _ _ _ _ us hl => match us, hl with | [_, _, _], _ => rfl
  have F__law_table := fun_mk (st := s__law_table) l__law_table c__law_table k__law_table
  have b__law_table := F__law_table.binds (ps := ["spring", "p", "deep", "m"]) fun _ _ _ _ _ _ us hl => match us, hl with | [_, _, _, _], _ => rfl
  have F__law_most := fun_mk (st := s__law_most) l__law_most c__law_most k__law_most
  have b__law_most := F__law_most.binds (ps := ["p", "top"]) fun _ _ _ _ _ _ us hl => match us, hl with | [_, _], _ => rfl
  have F__law_net := fun_mk (st := s__law_net) l__law_net c__law_net k__law_net
  have b__law_net := F__law_net.binds (ps := ["spring", "top", "walk"]) fun _ _ _ _ _ _ us hl => match us, hl with | [_, _, _], _ => rfl
  have F__law_large_net := fun_mk (st := s__law_large_net) l__law_large_net c__law_large_net k__law_large_net
  have b__law_large_net := F__law_large_net.binds (ps := ["spring"]) fun _ _ _ _ _ _ us hl => match us, hl with | [_], _ => rfl
  have F__law_times := fun_mk (st := s__law_times) l__law_times c__law_times k__law_times
  have b__law_times := F__law_times.binds (ps := ["p", "left", "right"]) fun _ _ _ _ _ _ us hl => match us, hl with | [_, _, _], _ => rfl
  have F__law_point := fun_mk (st := s__law_point) l__law_point c__law_point k__law_point
  have b__law_point := F__law_point.binds (ps := ["web", "begin"]) fun _ _ _ _ _ _ us hl => match us, hl with | [_, _], _ => rfl
  have F__law_starts := fun_mk (st := s__law_starts) l__law_starts c__law_starts k__law_starts
  have b__law_starts := F__law_starts.binds (ps := ["p", "m"]) fun _ _ _ _ _ _ us hl => match us, hl with | [_, _], _ => rfl
  have F__law_points := fun_mk (st := s__law_points) l__law_points c__law_points k__law_points
  have b__law_points := F__law_points.binds (ps := ["web"]) fun _ _ _ _ _ _ us hl => match us, hl with | [_], _ => rfl
  have F__law_power := fun_mk (st := s__law_power) l__law_power c__law_power k__law_power
  have b__law_power := F__law_power.binds (ps := ["p", "many"]) fun _ _ _ _ _ _ us hl => match us, hl with | [_, _], _ => rfl
  have F__law_place := fun_mk (st := s__law_place) l__law_place c__law_place k__law_place
  have b__law_place := F__law_place.binds (ps := ["p", "line"]) fun _ _ _ _ _ _ us hl => match us, hl with | [_, _], _ => rfl
  have F_is_whole := fun_mk (st := s_is_whole) l_is_whole c_is_whole k_is_whole
  have b_is_whole := F_is_whole.binds (ps := ["value"]) fun _ _ _ _ _ _ us hl => match us, hl with | [_], _ => rfl
  have F_is_base := fun_mk (st := s_is_base) l_is_base c_is_base k_is_base
  have b_is_base := F_is_base.binds (ps := ["value"]) fun _ _ _ _ _ _ us hl => match us, hl with | [_], _ => rfl
  have F_is_figure := fun_mk (st := s_is_figure) l_is_figure c_is_figure k_is_figure
  have b_is_figure := F_is_figure.binds (ps := ["base", "value"]) fun _ _ _ _ _ _ us hl => match us, hl with | [_, _], _ => rfl
  have F_is_row := fun_mk (st := s_is_row) l_is_row c_is_row k_is_row
  have b_is_row := F_is_row.binds (ps := ["base", "value", "least", "most"]) fun _ _ _ _ _ _ us hl => match us, hl with | [_, _, _, _], _ => rfl
  have F_is_table := fun_mk (st := s_is_table) l_is_table c_is_table k_is_table
  have b_is_table := F_is_table.binds (ps := ["base", "value"]) fun _ _ _ _ _ _ us hl => match us, hl with | [_, _], _ => rfl
  have F_is_of_size := fun_mk (st := s_is_of_size) l_is_of_size c_is_of_size k_is_of_size
  have b_is_of_size := F_is_of_size.binds (ps := ["table", "depth", "width"]) fun _ _ _ _ _ _ us hl => match us, hl with | [_, _, _], _ => rfl
  have F_are_tables := fun_mk (st := s_are_tables) l_are_tables c_are_tables k_are_tables
  have b_are_tables := F_are_tables.binds (ps := ["base", "value"]) fun _ _ _ _ _ _ us hl => match us, hl with | [_, _], _ => rfl
  have F_is_net := fun_mk (st := s_is_net) l_is_net c_is_net k_is_net
  have b_is_net := F_is_net.binds (ps := ["value"]) fun _ _ _ _ _ _ us hl => match us, hl with | [_], _ => rfl
  have F_check_net := fun_mk (st := s_check_net) l_check_net c_check_net k_check_net
  have b_check_net := F_check_net.binds (ps := ["net"]) fun _ _ _ _ _ _ us hl => match us, hl with | [_], _ => rfl
  have F_width_of := fun_mk (st := s_width_of) l_width_of c_width_of k_width_of
  have b_width_of := F_width_of.binds (ps := ["net"]) fun _ _ _ _ _ _ us hl => match us, hl with | [_], _ => rfl
  have F_check_start := fun_mk (st := s_check_start) l_check_start c_check_start k_check_start
  have b_check_start := F_check_start.binds (ps := ["net", "start"]) fun _ _ _ _ _ _ us hl => match us, hl with | [_, _], _ => rfl
  have F_row_times := fun_mk (st := s_row_times) l_row_times c_row_times k_row_times
  have b_row_times := F_row_times.binds (ps := ["base", "row", "other"]) fun _ _ _ _ _ _ us hl => match us, hl with | [_, _, _], _ => rfl
  have F_point_at := fun_mk (st := s_point_at) l_point_at c_point_at k_point_at
  have b_point_at := F_point_at.binds (ps := ["net", "start"]) fun _ _ _ _ _ _ us hl => match us, hl with | [_, _], _ => rfl
  have F_point_of := fun_mk (st := s_point_of) l_point_of c_point_of k_point_of
  have b_point_of := F_point_of.binds (ps := ["net", "start"]) fun _ _ _ _ _ _ us hl => match us, hl with | [_, _], _ => rfl
  have F_reduced := fun_mk (st := s_reduced) l_reduced c_reduced k_reduced
  have b_reduced := F_reduced.binds (ps := ["above", "below"]) fun _ _ _ _ _ _ us hl => match us, hl with | [_, _], _ => rfl
  have F_power := fun_mk (st := s_power) l_power c_power k_power
  have b_power := F_power.binds (ps := ["number", "exponent"]) fun _ _ _ _ _ _ us hl => match us, hl with | [_, _], _ => rfl
  have F_fraction_of := fun_mk (st := s_fraction_of) l_fraction_of c_fraction_of k_fraction_of
  have b_fraction_of := F_fraction_of.binds (ps := ["base", "figures"]) fun _ _ _ _ _ _ us hl => match us, hl with | [_, _], _ => rfl
  have F_place_of := fun_mk (st := s_place_of) l_place_of c_place_of k_place_of
  have b_place_of := F_place_of.binds (ps := ["net", "start"]) fun _ _ _ _ _ _ us hl => match us, hl with | [_, _], _ => rfl
  have F__law_is_told := fun_mk (st := s__law_is_told) l__law_is_told c__law_is_told k__law_is_told
  have b__law_is_told := F__law_is_told.binds (ps := ["web", "begin", "point"]) fun _ _ _ _ _ _ us hl => match us, hl with | [_, _, _], _ => rfl
  have F_start_at := fun_mk (st := s_start_at) l_start_at c_start_at k_start_at
  have b_start_at := F_start_at.binds (ps := ["base", "width", "number"]) fun _ _ _ _ _ _ us hl => match us, hl with | [_, _, _], _ => rfl
  have F_points_of := fun_mk (st := s_points_of) l_points_of c_points_of k_points_of
  have b_points_of := F_points_of.binds (ps := ["net"]) fun _ _ _ _ _ _ us hl => match us, hl with | [_], _ => rfl
  have F_law := fun_mk (st := s_law) l_law c_law k_law
  refine ⟨PySem.W.fnOf "law" "law" (defArgs s_law) (defBody s_law) (defScope s_law) .none kV_law dc_law pm_law an_law cd_law ct_law, fun s u => .of_eq rfl, fun base _ _ => ?_⟩
  have d__law_spring : Df l.prog w K mg base 1 "_law_spring" f__law_spring _ ["script", "turn", "salt"] _ := ⟨PySem.W.mg_of X G a__law_spring, k__law_spring, b__law_spring, ok__law_spring F__law_spring B ⟩
  have d__law_draw : Df l.prog w K mg base 1 "_law_draw" f__law_draw _ ["spring", "many"] _ := ⟨PySem.W.mg_of X G a__law_draw, k__law_draw, b__law_draw, ok__law_draw F__law_draw B ⟩
  have d__law_pick : Df l.prog w K mg base 2 "_law_pick" f__law_pick _ ["spring", "some"] _ := ⟨PySem.W.mg_of X G a__law_pick, k__law_pick, b__law_pick, ok__law_pick F__law_pick B d__law_draw⟩
  have d__law_line : Df l.prog w K mg base 2 "_law_line" f__law_line _ ["spring", "p", "m"] _ := ⟨PySem.W.mg_of X G a__law_line, k__law_line, b__law_line, ok__law_line F__law_line B d__law_draw⟩
  have d__law_table : Df l.prog w K mg base 3 "_law_table" f__law_table _ ["spring", "p", "deep", "m"] _ := ⟨PySem.W.mg_of X G a__law_table, k__law_table, b__law_table, ok__law_table F__law_table B d__law_draw d__law_line d__law_pick⟩
  have d__law_most : Df l.prog w K mg base 1 "_law_most" f__law_most _ ["p", "top"] _ := ⟨PySem.W.mg_of X G a__law_most, k__law_most, b__law_most, ok__law_most F__law_most B ⟩
  have d__law_net : Df l.prog w K mg base 4 "_law_net" f__law_net _ ["spring", "top", "walk"] _ := ⟨PySem.W.mg_of X G a__law_net, k__law_net, b__law_net, ok__law_net F__law_net B d__law_draw d__law_pick d__law_table d__law_most⟩
  have d__law_large_net : Df l.prog w K mg base 4 "_law_large_net" f__law_large_net _ ["spring"] _ := ⟨PySem.W.mg_of X G a__law_large_net, k__law_large_net, b__law_large_net, ok__law_large_net F__law_large_net B d__law_draw d__law_pick d__law_table⟩
  have d__law_times : Df l.prog w K mg base 1 "_law_times" f__law_times _ ["p", "left", "right"] _ := ⟨PySem.W.mg_of X G a__law_times, k__law_times, b__law_times, ok__law_times F__law_times B ⟩
  have d__law_point : Df l.prog w K mg base 2 "_law_point" f__law_point _ ["web", "begin"] _ := ⟨PySem.W.mg_of X G a__law_point, k__law_point, b__law_point, ok__law_point F__law_point B d__law_times⟩
  have d__law_starts : Df l.prog w K mg base 1 "_law_starts" f__law_starts _ ["p", "m"] _ := ⟨PySem.W.mg_of X G a__law_starts, k__law_starts, b__law_starts, ok__law_starts F__law_starts B ⟩
  have d__law_points : Df l.prog w K mg base 3 "_law_points" f__law_points _ ["web"] _ := ⟨PySem.W.mg_of X G a__law_points, k__law_points, b__law_points, ok__law_points F__law_points B d__law_point d__law_starts⟩
  have d__law_power : Df l.prog w K mg base 1 "_law_power" f__law_power _ ["p", "many"] _ := ⟨PySem.W.mg_of X G a__law_power, k__law_power, b__law_power, ok__law_power F__law_power B ⟩
  have d__law_place : Df l.prog w K mg base 2 "_law_place" f__law_place _ ["p", "line"] _ := ⟨PySem.W.mg_of X G a__law_place, k__law_place, b__law_place, ok__law_place F__law_place B d__law_power⟩
  have d_is_whole : Df l.prog w K mg base 1 "is_whole" f_is_whole _ ["value"] _ := ⟨PySem.W.mg_of X G a_is_whole, k_is_whole, b_is_whole, ok_is_whole F_is_whole B ⟩
  have d_is_base : Df l.prog w K mg base 2 "is_base" f_is_base _ ["value"] _ := ⟨PySem.W.mg_of X G a_is_base, k_is_base, b_is_base, ok_is_base F_is_base B d_is_whole⟩
  have d_is_figure : Df l.prog w K mg base 2 "is_figure" f_is_figure _ ["base", "value"] _ := ⟨PySem.W.mg_of X G a_is_figure, k_is_figure, b_is_figure, ok_is_figure F_is_figure B d_is_whole⟩
  have d_is_row : Df l.prog w K mg base 3 "is_row" f_is_row _ ["base", "value", "least", "most"] _ := ⟨PySem.W.mg_of X G a_is_row, k_is_row, b_is_row, ok_is_row F_is_row B d_is_figure⟩
  have d_is_table : Df l.prog w K mg base 4 "is_table" f_is_table _ ["base", "value"] _ := ⟨PySem.W.mg_of X G a_is_table, k_is_table, b_is_table, ok_is_table F_is_table B d_is_row⟩
  have d_is_of_size : Df l.prog w K mg base 1 "is_of_size" f_is_of_size _ ["table", "depth", "width"] _ := ⟨PySem.W.mg_of X G a_is_of_size, k_is_of_size, b_is_of_size, ok_is_of_size F_is_of_size B ⟩
  have d_are_tables : Df l.prog w K mg base 5 "are_tables" f_are_tables _ ["base", "value"] _ := ⟨PySem.W.mg_of X G a_are_tables, k_are_tables, b_are_tables, ok_are_tables F_are_tables B d_is_table d_is_of_size⟩
  have d_is_net : Df l.prog w K mg base 6 "is_net" f_is_net _ ["value"] _ := ⟨PySem.W.mg_of X G a_is_net, k_is_net, b_is_net, ok_is_net F_is_net B d_is_base d_are_tables⟩
  have d_check_net : Df l.prog w K mg base 7 "check_net" f_check_net _ ["net"] _ := ⟨PySem.W.mg_of X G a_check_net, k_check_net, b_check_net, ok_check_net F_check_net B d_is_net⟩
  have d_width_of : Df l.prog w K mg base 1 "width_of" f_width_of _ ["net"] _ := ⟨PySem.W.mg_of X G a_width_of, k_width_of, b_width_of, ok_width_of F_width_of B ⟩
  have d_check_start : Df l.prog w K mg base 4 "check_start" f_check_start _ ["net", "start"] _ := ⟨PySem.W.mg_of X G a_check_start, k_check_start, b_check_start, ok_check_start F_check_start B d_width_of d_is_row⟩
  have d_row_times : Df l.prog w K mg base 1 "row_times" f_row_times _ ["base", "row", "other"] _ := ⟨PySem.W.mg_of X G a_row_times, k_row_times, b_row_times, ok_row_times F_row_times B ⟩
  have d_point_at : Df l.prog w K mg base 2 "point_at" f_point_at _ ["net", "start"] _ := ⟨PySem.W.mg_of X G a_point_at, k_point_at, b_point_at, ok_point_at F_point_at B d_row_times⟩
  have d_point_of : Df l.prog w K mg base 8 "point_of" f_point_of _ ["net", "start"] _ := ⟨PySem.W.mg_of X G a_point_of, k_point_of, b_point_of, ok_point_of F_point_of B d_check_net d_check_start d_point_at⟩
  have d_reduced : Df l.prog w K mg base 1 "reduced" f_reduced _ ["above", "below"] _ := ⟨PySem.W.mg_of X G a_reduced, k_reduced, b_reduced, ok_reduced F_reduced B ⟩
  have d_power : Df l.prog w K mg base 1 "power" f_power _ ["number", "exponent"] _ := ⟨PySem.W.mg_of X G a_power, k_power, b_power, ok_power F_power B ⟩
  have d_fraction_of : Df l.prog w K mg base 2 "fraction_of" f_fraction_of _ ["base", "figures"] _ := ⟨PySem.W.mg_of X G a_fraction_of, k_fraction_of, b_fraction_of, ok_fraction_of F_fraction_of B d_reduced d_power⟩
  have d_place_of : Df l.prog w K mg base 8 "place_of" f_place_of _ ["net", "start"] _ := ⟨PySem.W.mg_of X G a_place_of, k_place_of, b_place_of, ok_place_of F_place_of B d_check_net d_check_start d_point_at d_fraction_of⟩
  have d__law_is_told : Df l.prog w K mg base 9 "_law_is_told" f__law_is_told _ ["web", "begin", "point"] _ := ⟨PySem.W.mg_of X G a__law_is_told, k__law_is_told, b__law_is_told, ok__law_is_told F__law_is_told B d__law_place d_point_of (kb_point_of F_point_of) d_place_of⟩
  have d_start_at : Df l.prog w K mg base 1 "start_at" f_start_at _ ["base", "width", "number"] _ := ⟨PySem.W.mg_of X G a_start_at, k_start_at, b_start_at, ok_start_at F_start_at B ⟩
  have d_points_of : Df l.prog w K mg base 8 "points_of" f_points_of _ ["net"] _ := ⟨PySem.W.mg_of X G a_points_of, k_points_of, b_points_of, ok_points_of F_points_of B d_check_net d_width_of d_power d_point_at d_start_at⟩
  exact ok_law F_law B d__law_spring d__law_net d__law_large_net d__law_line d__law_points d__law_starts d__law_draw d__law_is_told d_points_of d__law_point
end Lw

open PySem PySem.W PyProof.Rows in
set_option maxRecDepth 100000 in
set_option maxHeartbeats 0 in
theorem PySem.Challenge.cw_evennets_k05_whole_points_and_places_holds : PySem.Challenge.rw_evennets_k05_whole_points_and_places.Holds := by
  w_on; o_law; k_head; (case hw => w_witness2)
  k_fill
  refine Dl.walkG (l := PySem.Challenge.rw_evennets_k05_whole_points_and_places) (x := "script") (k := 10) rfl rfl ⟨rfl, by decide, by decide⟩ (fun w h Y => PySem.W.kIn_of Y) ?F
  case F =>
    intro w mg fa h KX G hmg
    refine' Lw.all_mk KX G hmg ?a__law_spring ?l__law_spring ?c__law_spring ?k__law_spring ?a__law_draw ?l__law_draw ?c__law_draw ?k__law_draw ?a__law_pick ?l__law_pick ?c__law_pick ?k__law_pick ?a__law_line ?l__law_line ?c__law_line ?k__law_line ?a__law_table ?l__law_table ?c__law_table ?k__law_table ?a__law_most ?l__law_most ?c__law_most ?k__law_most ?a__law_net ?l__law_net ?c__law_net ?k__law_net ?a__law_large_net ?l__law_large_net ?c__law_large_net ?k__law_large_net ?a__law_times ?l__law_times ?c__law_times ?k__law_times ?a__law_point ?l__law_point ?c__law_point ?k__law_point ?a__law_starts ?l__law_starts ?c__law_starts ?k__law_starts ?a__law_points ?l__law_points ?c__law_points ?k__law_points ?a__law_power ?l__law_power ?c__law_power ?k__law_power ?a__law_place ?l__law_place ?c__law_place ?k__law_place ?a_is_whole ?l_is_whole ?c_is_whole ?k_is_whole ?a_is_base ?l_is_base ?c_is_base ?k_is_base ?a_is_figure ?l_is_figure ?c_is_figure ?k_is_figure ?a_is_row ?l_is_row ?c_is_row ?k_is_row ?a_is_table ?l_is_table ?c_is_table ?k_is_table ?a_is_of_size ?l_is_of_size ?c_is_of_size ?k_is_of_size ?a_are_tables ?l_are_tables ?c_are_tables ?k_are_tables ?a_is_net ?l_is_net ?c_is_net ?k_is_net ?a_check_net ?l_check_net ?c_check_net ?k_check_net ?a_width_of ?l_width_of ?c_width_of ?k_width_of ?a_check_start ?l_check_start ?c_check_start ?k_check_start ?a_row_times ?l_row_times ?c_row_times ?k_row_times ?a_point_at ?l_point_at ?c_point_at ?k_point_at ?a_point_of ?l_point_of ?c_point_of ?k_point_of ?a_reduced ?l_reduced ?c_reduced ?k_reduced ?a_power ?l_power ?c_power ?k_power ?a_fraction_of ?l_fraction_of ?c_fraction_of ?k_fraction_of ?a_place_of ?l_place_of ?c_place_of ?k_place_of ?a__law_is_told ?l__law_is_told ?c__law_is_told ?k__law_is_told ?a_start_at ?l_start_at ?c_start_at ?k_start_at ?a_points_of ?l_points_of ?c_points_of ?k_points_of ?a_law ?l_law ?c_law ?k_law ?z_abs ?z_all ?z_bool ?z_int ?z_isinstance ?z_len ?z_max ?z_min ?z_range ?z_repr ?z_sum ?z_tuple ?z_zip ?m_gcd ?v_BASES ?w_BASES ?v_MOST_DIMENSIONS ?v_MOST_DEPTH ?v_MOST_WIDTH ?v_MOST_STARTS
    (case a__law_spring => k_is)
    (case l__law_spring => k_is)
    (case c__law_spring => k_is)
    (case k__law_spring => k_is)
    (case a__law_draw => k_is)
    (case l__law_draw => k_is)
    (case c__law_draw => k_is)
    (case k__law_draw => k_is)
    (case a__law_pick => k_is)
    (case l__law_pick => k_is)
    (case c__law_pick => k_is)
    (case k__law_pick => k_is)
    (case a__law_line => k_is)
    (case l__law_line => k_is)
    (case c__law_line => k_is)
    (case k__law_line => k_is)
    (case a__law_table => k_is)
    (case l__law_table => k_is)
    (case c__law_table => k_is)
    (case k__law_table => k_is)
    (case a__law_most => k_is)
    (case l__law_most => k_is)
    (case c__law_most => k_is)
    (case k__law_most => k_is)
    (case a__law_net => k_is)
    (case l__law_net => k_is)
    (case c__law_net => k_is)
    (case k__law_net => k_is)
    (case a__law_large_net => k_is)
    (case l__law_large_net => k_is)
    (case c__law_large_net => k_is)
    (case k__law_large_net => k_is)
    (case a__law_times => k_is)
    (case l__law_times => k_is)
    (case c__law_times => k_is)
    (case k__law_times => k_is)
    (case a__law_point => k_is)
    (case l__law_point => k_is)
    (case c__law_point => k_is)
    (case k__law_point => k_is)
    (case a__law_starts => k_is)
    (case l__law_starts => k_is)
    (case c__law_starts => k_is)
    (case k__law_starts => k_is)
    (case a__law_points => k_is)
    (case l__law_points => k_is)
    (case c__law_points => k_is)
    (case k__law_points => k_is)
    (case a__law_power => k_is)
    (case l__law_power => k_is)
    (case c__law_power => k_is)
    (case k__law_power => k_is)
    (case a__law_place => k_is)
    (case l__law_place => k_is)
    (case c__law_place => k_is)
    (case k__law_place => k_is)
    (case a_is_whole => k_is)
    (case l_is_whole => k_is)
    (case c_is_whole => k_is)
    (case k_is_whole => k_is)
    (case a_is_base => k_is)
    (case l_is_base => k_is)
    (case c_is_base => k_is)
    (case k_is_base => k_is)
    (case a_is_figure => k_is)
    (case l_is_figure => k_is)
    (case c_is_figure => k_is)
    (case k_is_figure => k_is)
    (case a_is_row => k_is)
    (case l_is_row => k_is)
    (case c_is_row => k_is)
    (case k_is_row => k_is)
    (case a_is_table => k_is)
    (case l_is_table => k_is)
    (case c_is_table => k_is)
    (case k_is_table => k_is)
    (case a_is_of_size => k_is)
    (case l_is_of_size => k_is)
    (case c_is_of_size => k_is)
    (case k_is_of_size => k_is)
    (case a_are_tables => k_is)
    (case l_are_tables => k_is)
    (case c_are_tables => k_is)
    (case k_are_tables => k_is)
    (case a_is_net => k_is)
    (case l_is_net => k_is)
    (case c_is_net => k_is)
    (case k_is_net => k_is)
    (case a_check_net => k_is)
    (case l_check_net => k_is)
    (case c_check_net => k_is)
    (case k_check_net => k_is)
    (case a_width_of => k_is)
    (case l_width_of => k_is)
    (case c_width_of => k_is)
    (case k_width_of => k_is)
    (case a_check_start => k_is)
    (case l_check_start => k_is)
    (case c_check_start => k_is)
    (case k_check_start => k_is)
    (case a_row_times => k_is)
    (case l_row_times => k_is)
    (case c_row_times => k_is)
    (case k_row_times => k_is)
    (case a_point_at => k_is)
    (case l_point_at => k_is)
    (case c_point_at => k_is)
    (case k_point_at => k_is)
    (case a_point_of => k_is)
    (case l_point_of => k_is)
    (case c_point_of => k_is)
    (case k_point_of => k_is)
    (case a_reduced => k_is)
    (case l_reduced => k_is)
    (case c_reduced => k_is)
    (case k_reduced => k_is)
    (case a_power => k_is)
    (case l_power => k_is)
    (case c_power => k_is)
    (case k_power => k_is)
    (case a_fraction_of => k_is)
    (case l_fraction_of => k_is)
    (case c_fraction_of => k_is)
    (case k_fraction_of => k_is)
    (case a_place_of => k_is)
    (case l_place_of => k_is)
    (case c_place_of => k_is)
    (case k_place_of => k_is)
    (case a__law_is_told => k_is)
    (case l__law_is_told => k_is)
    (case c__law_is_told => k_is)
    (case k__law_is_told => k_is)
    (case a_start_at => k_is)
    (case l_start_at => k_is)
    (case c_start_at => k_is)
    (case k_start_at => k_is)
    (case a_points_of => k_is)
    (case l_points_of => k_is)
    (case c_points_of => k_is)
    (case k_points_of => k_is)
    (case a_law => k_is)
    (case l_law => k_is)
    (case c_law => k_is)
    (case k_law => k_is)
    (case z_abs => k_is)
    (case z_all => k_is)
    (case z_bool => k_is)
    (case z_int => k_is)
    (case z_isinstance => k_is)
    (case z_len => k_is)
    (case z_max => k_is)
    (case z_min => k_is)
    (case z_range => k_is)
    (case z_repr => k_is)
    (case z_sum => k_is)
    (case z_tuple => k_is)
    (case z_zip => k_is)
    (case m_gcd => k_is)
    (case v_BASES => k_is)
    (case w_BASES => k_is)
    (case v_MOST_DIMENSIONS => k_is)
    (case v_MOST_DEPTH => k_is)
    (case v_MOST_WIDTH => k_is)
    (case v_MOST_STARTS => k_is)

