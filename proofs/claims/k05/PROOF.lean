import PyProof.Rows.All
import Wide.All
import OpenK.AllK
import Wide.FinOn
import HandS.ForMost
import HandS.Conv
import HandS.Wide
import HandS.WideMore
import HandS.TupAny
import HandS.TupMul
import HandS.Deep
import HandS.Style
import HandS.IsInst
import HandS.RaiseMore
import HandS.Defaults
import HandS.More
import HandS.Rev
import HandS.Zip
import HandS.TryOnly
import KE.GoesZip
import KE.GoesMore
import HandS.HeadHook3
import PySem.Challenge.RW_touchroad_k05_plain_steps_one_by_one
set_option Elab.async false
set_option linter.all false
set_option maxRecDepth 100000
namespace Tm
open PySem PySem.Spec PyProof.Rows L2

/-! ## values, the store -/
inductive D where
  | non | bl (b : Bool) | int (i : Int) | str (x : Str) | tup (ds : List D) | ref (n : Nat) | fn (x : Str)
inductive O where
  | lst (xs : List D) | ro (xs : List D)
abbrev Store := List O
abbrev Env' := List (Option D)

mutual
def D.beq : D → D → Bool
  | .non, .non => true
  | .bl a, .bl b => a == b
  | .int i, .int j => decide (i = j)
  | .str x, .str y => decide (x = y)
  | .tup xs, .tup ys => D.beqs xs ys
  | .ref m, .ref n => Nat.beq m n
  | .fn x, .fn y => decide (x = y)
  | .non, .bl _ | .non, .int _ | .non, .str _ | .non, .tup _ | .non, .ref _ => false
  | .bl _, .non | .bl _, .int _ | .bl _, .str _ | .bl _, .tup _ | .bl _, .ref _ => false
  | .int _, .non | .int _, .bl _ | .int _, .str _ | .int _, .tup _ | .int _, .ref _ => false
  | .str _, .non | .str _, .bl _ | .str _, .int _ | .str _, .tup _ | .str _, .ref _ => false
  | .tup _, .non | .tup _, .bl _ | .tup _, .int _ | .tup _, .str _ | .tup _, .ref _ => false
  | .ref _, .non | .ref _, .bl _ | .ref _, .int _ | .ref _, .str _ | .ref _, .tup _ => false
  | .fn _, .non | .fn _, .bl _ | .fn _, .int _ | .fn _, .str _ | .fn _, .tup _ | .fn _, .ref _ => false
  | .non, .fn _ | .bl _, .fn _ | .int _, .fn _ | .str _, .fn _ | .tup _, .fn _ | .ref _, .fn _ => false
def D.beqs : List D → List D → Bool
  | [], [] => true
  | x :: xs, y :: ys => D.beq x y && D.beqs xs ys
  | [], _ :: _ | _ :: _, [] => false
end
mutual
theorem D.beq_eq : ∀ a b : D, D.beq a b = true → a = b
  | .non, b, h => by cases b <;> simp [D.beq] at h <;> rfl
  | .bl a, b, h => by cases b <;> simp [D.beq] at h; rw [h]
  | .int i, b, h => by cases b <;> simp [D.beq] at h; rw [h]
  | .str i, b, h => by cases b <;> simp [D.beq] at h; rw [h]
  | .tup xs, b, h => by cases b <;> simp [D.beq] at h; rw [D.beqs_eq _ _ h]
  | .ref n, b, h => by cases b <;> simp [D.beq] at h; rw [h]
  | .fn n, b, h => by cases b <;> simp [D.beq] at h; rw [h]
theorem D.beqs_eq : ∀ a b : List D, D.beqs a b = true → a = b
  | [], [], _ => rfl
  | x :: xs, y :: ys, h => by
    simp only [D.beqs, Bool.and_eq_true] at h
    rw [D.beq_eq x y h.1, D.beqs_eq xs ys h.2]
  | [], _ :: _, h => by simp [D.beqs] at h
  | _ :: _, [], h => by simp [D.beqs] at h
end
mutual
theorem D.beq_refl : ∀ a : D, D.beq a a = true
  | .non => rfl
  | .bl a => by simp [D.beq]
  | .int i => by simp [D.beq]
  | .str i => by simp [D.beq]
  | .tup xs => by simp only [D.beq]; exact D.beqs_refl xs
  | .ref n => by simp [D.beq]
  | .fn n => by simp [D.beq]
theorem D.beqs_refl : ∀ a : List D, D.beqs a a = true
  | [] => rfl
  | x :: xs => by simp only [D.beqs, Bool.and_eq_true]; exact ⟨D.beq_refl x, D.beqs_refl xs⟩
end

/-- the data of a value, through the lists of the store to a depth -/
def listAt (S : Store) (n : Nat) : Option (List D) :=
  match S[n]? with
  | some (.lst xs) => some xs
  | some (.ro xs) => some xs
  | none => none
def mapO {α β : Type} (f : α → Option β) : List α → Option (List β)
  | [] => some []
  | x :: xs => (f x).bind fun y => (mapO f xs).map fun ys => y :: ys
mutual
def pdG (g : Nat → Option PyData) : D → Option PyData
  | .non => some .none
  | .bl b => some (.bool b)
  | .int i => some (.int i)
  | .str x => some (.str x)
  | .tup ds => (pdsG g ds).map .tuple
  | .ref n => g n
  | .fn _ => none
def pdsG (g : Nat → Option PyData) : List D → Option (List PyData)
  | [] => some []
  | d :: ds => (pdG g d).bind fun x => (pdsG g ds).map fun xs => x :: xs
end
def pdN (S : Store) : Nat → Nat → Option PyData
  | 0, _ => none
  | k + 1, n => (listAt S n).bind fun xs => (pdsG (pdN S k) xs).map .list
/-- lists within lists, to a depth of sixty -/
abbrev pd (S : Store) : D → Option PyData := pdG (pdN S 60)
abbrev pds (S : Store) : List D → Option (List PyData) := pdsG (pdN S 60)

/-! ## what stands for what -/
mutual
inductive Rep (K : PySem.W.Frag) (ρ : List Addr) (H : Hp) : V → D → Prop
  | non : Rep K ρ H .non .non
  | bl (b : Bool) : Rep K ρ H (.bl b) (.bl b)
  | int (i : Int) : Rep K ρ H (.int i) (.int i)
  | str (x : Str) : Rep K ρ H (.str x) (.str x)
  | tup {a : Addr} {vs : List V} {ds : List D} : SqT K H a vs → Reps K ρ H vs ds → Rep K ρ H (.ref a) (.tup ds)
  | ref {a : Addr} {n : Nat} : ρ[n]? = some a → Rep K ρ H (.ref a) (.ref n)
  | fn {a : Addr} {x : Str} : PySem.W.nsIn K mainGlobals x = some (some (.ref a)) → Rep K ρ H (.ref a) (.fn x)
inductive Reps (K : PySem.W.Frag) (ρ : List Addr) (H : Hp) : List V → List D → Prop
  | nil : Reps K ρ H [] []
  | cons {v : V} {vs : List V} {d : D} {ds : List D} : Rep K ρ H v d → Reps K ρ H vs ds → Reps K ρ H (v :: vs) (d :: ds)
end
structure Gro (H H' : Hp) : Prop where
  tup : ∀ a xs, H a = some (.tup xs) → H' a = some (.tup xs)
  frz : ∀ a o u, H a = some (.frz o u) → H' a = some (.frz o u)
theorem Gro.refl (H : Hp) : Gro H H := ⟨fun _ _ h => h, fun _ _ _ h => h⟩
theorem Gro.trans {H H1 H2 : Hp} (a : Gro H H1) (b : Gro H1 H2) : Gro H H2 := ⟨fun x y h => b.tup x y (a.tup x y h), fun x y z h => b.frz x y z (a.frz x y z h)⟩
theorem Gro.new {H : Hp} {p : Addr} {o : HO} (h : H p = none) : Gro H (upd H p o) :=
  ⟨fun a xs e => by rw [upd_ne (ne_of_none e h)]; exact e, fun a o u e => by rw [upd_ne (ne_of_none e h)]; exact e⟩
theorem Gro.mut {H : Hp} {p : Addr} {xs : List V} {o : HO} (h : H p = some (.lst xs)) : Gro H (upd H p o) :=
  ⟨fun a ys e => by rw [upd_ne (ne_of e h (by intro z; cases z))]; exact e, fun a o u e => by rw [upd_ne (ne_of e h (by intro z; cases z))]; exact e⟩
theorem Gro.sqt {K : PySem.W.Frag} {H H' : Hp} {a : Addr} {xs : List V} (g : Gro H H') (h : SqT K H a xs) : SqT K H' a xs := by
  rcases h with (h | ⟨o, h⟩) | h
  · exact .inl (.inl (g.tup _ _ h))
  · exact .inl (.inr ⟨o, g.frz _ _ _ h⟩)
  · exact .inr h
def Pre (ρ ρ' : List Addr) : Prop := ∀ (n : Nat) (a : Addr), ρ[n]? = some a → ρ'[n]? = some a
theorem Pre.refl (ρ : List Addr) : Pre ρ ρ := fun _ _ h => h
theorem Pre.trans {a b c : List Addr} (h : Pre a b) (k : Pre b c) : Pre a c := fun n x e => k n x (h n x e)
theorem Pre.app (ρ : List Addr) (p : Addr) : Pre ρ (ρ ++ [p]) := fun n a e => by
  have := (List.getElem?_eq_some_iff.mp e).1
  rw [List.getElem?_append_left this]; exact e
section
variable {K : PySem.W.Frag} {ρ ρ' : List Addr} {H H' : Hp}
mutual
theorem Rep.mono (g : Gro H H') (q : Pre ρ ρ') : ∀ {v : V} {d : D}, Rep K ρ H v d → Rep K ρ' H' v d
  | _, _, .non => .non
  | _, _, .bl b => .bl b
  | _, _, .int i => .int i
  | _, _, .str x => .str x
  | _, _, .tup h r => .tup (g.sqt h) (Reps.mono g q r)
  | _, _, .ref h => .ref (q _ _ h)
  | _, _, .fn h => .fn h
theorem Reps.mono (g : Gro H H') (q : Pre ρ ρ') : ∀ {v : List V} {d : List D}, Reps K ρ H v d → Reps K ρ' H' v d
  | _, _, .nil => .nil
  | _, _, .cons h r => .cons (Rep.mono g q h) (Reps.mono g q r)
end
theorem Reps.length : ∀ {vs : List V} {ds : List D}, Reps K ρ H vs ds → vs.length = ds.length
  | _, _, .nil => rfl
  | _, _, .cons _ r => by simp [Reps.length r]
theorem Reps.get : ∀ {vs : List V} {ds : List D}, Reps K ρ H vs ds → ∀ {i : Nat} {d : D}, ds[i]? = some d → ∃ v, vs[i]? = some v ∧ Rep K ρ H v d
  | _, _, .nil, i, d, h => by simp at h
  | _, _, .cons r _, 0, d, h => by simp at h; subst h; exact ⟨_, rfl, r⟩
  | _, _, .cons _ t, i + 1, d, h => by
    obtain ⟨v, e, r⟩ := Reps.get t (i := i) (d := d) (by simpa using h)
    exact ⟨v, by simpa using e, r⟩
theorem Reps.get' : ∀ {vs : List V} {ds : List D}, Reps K ρ H vs ds → ∀ {i : Nat} {v : V}, vs[i]? = some v → ∃ d, ds[i]? = some d ∧ Rep K ρ H v d
  | _, _, .nil, i, d, h => by simp at h
  | _, _, .cons r _, 0, d, h => by simp at h; subst h; exact ⟨_, rfl, r⟩
  | _, _, .cons _ t, i + 1, d, h => by
    obtain ⟨v, e, r⟩ := Reps.get' t (i := i) (v := d) (by simpa using h)
    exact ⟨v, by simpa using e, r⟩
theorem Reps.append : ∀ {vs ws : List V} {ds es : List D}, Reps K ρ H vs ds → Reps K ρ H ws es → Reps K ρ H (vs ++ ws) (ds ++ es)
  | _, _, _, _, .nil, t => t
  | _, _, _, _, .cons r q, t => .cons r (Reps.append q t)
theorem Reps.take : ∀ {vs : List V} {ds : List D} (n : Nat), Reps K ρ H vs ds → Reps K ρ H (vs.take n) (ds.take n)
  | _, _, 0, _ => .nil
  | _, _, _ + 1, .nil => .nil
  | _, _, n + 1, .cons r t => .cons r (Reps.take n t)
theorem Reps.drop : ∀ {vs : List V} {ds : List D} (n : Nat), Reps K ρ H vs ds → Reps K ρ H (vs.drop n) (ds.drop n)
  | _, _, 0, r => r
  | _, _, _ + 1, .nil => .nil
  | _, _, n + 1, .cons _ t => Reps.drop n t
theorem Reps.set {v : V} {d : D} (r : Rep K ρ H v d) : ∀ {vs : List V} {ds : List D} (i : Nat), Reps K ρ H vs ds → Reps K ρ H (vs.set i v) (ds.set i d)
  | _, _, _, .nil => .nil
  | _, _, 0, .cons _ t => .cons r t
  | _, _, i + 1, .cons q t => .cons q (Reps.set r i t)
theorem Reps.flat {vs : List V} {ds : List D} (r : Reps K ρ H vs ds) : ∀ n : Nat, Reps K ρ H (List.replicate n vs).flatten (List.replicate n ds).flatten
  | 0 => .nil
  | n + 1 => by simp only [List.replicate_succ, List.flatten_cons]; exact r.append (r.flat n)
theorem rep_int {v : V} {i : Int} (h : Rep K ρ H v (.int i)) : v = .int i := by cases h; rfl
theorem rep_bl {v : V} {i : Bool} (h : Rep K ρ H v (.bl i)) : v = .bl i := by cases h; rfl
theorem rep_str {v : V} {i : Str} (h : Rep K ρ H v (.str i)) : v = .str i := by cases h; rfl
theorem rep_non {v : V} (h : Rep K ρ H v .non) : v = .non := by cases h; rfl
theorem rep_tup {v : V} {ds : List D} (h : Rep K ρ H v (.tup ds)) : ∃ a vs, v = .ref a ∧ SqT K H a vs ∧ Reps K ρ H vs ds := by
  cases h with | tup h r => exact ⟨_, _, rfl, h, r⟩
theorem rep_fn {v : V} {x : Str} (h : Rep K ρ H v (.fn x)) : ∃ a, v = .ref a ∧ PySem.W.nsIn K mainGlobals x = some (some (.ref a)) := by
  cases h with | fn h => exact ⟨_, rfl, h⟩
theorem rep_ref {v : V} {n : Nat} (h : Rep K ρ H v (.ref n)) : ∃ a, v = .ref a ∧ ρ[n]? = some a := by
  cases h with | ref h => exact ⟨_, rfl, h⟩
theorem reps_ints : ∀ (ns : List Int), Reps K ρ H (ns.map V.int) (ns.map D.int)
  | [] => .nil
  | n :: r => .cons (.int n) (reps_ints r)
end

/-- a list that nobody writes -/
def Fix (K : PySem.W.Frag) (H : Hp) (a : Addr) (vs : List V) : Prop := (∃ o, H a = some (.frz o (.lst vs))) ∨ SqL K (fun _ => none) a vs
theorem Fix.sql {K : PySem.W.Frag} {H : Hp} {a : Addr} {vs : List V} (h : Fix K H a vs) : SqL K H a vs := by
  rcases h with ⟨o, h⟩ | (h | ⟨o, h⟩) | h
  · exact .inl (.inr ⟨o, h⟩)
  · cases h
  · cases h
  · exact .inr h
theorem Fix.gro {K : PySem.W.Frag} {H H' : Hp} {a : Addr} {vs : List V} (g : Gro H H') (h : Fix K H a vs) : Fix K H' a vs := by
  rcases h with ⟨o, h⟩ | h
  · exact .inl ⟨o, g.frz _ _ _ h⟩
  · exact .inr h
def ObjR (K : PySem.W.Frag) (ρ : List Addr) (H : Hp) (a : Addr) : O → Prop
  | .lst xs => ∃ vs, H a = some (.lst vs) ∧ Reps K ρ H vs xs
  | .ro xs => ∃ vs, Fix K H a vs ∧ Reps K ρ H vs xs
def isMut (S : Store) (n : Nat) : Prop := ∃ xs, S[n]? = some (.lst xs)
structure Sim (K : PySem.W.Frag) (ρ : List Addr) (S : Store) (H : Hp) : Prop where
  len : ρ.length = S.length
  obj : ∀ (n : Nat) (o : O) (a : Addr), S[n]? = some o → ρ[n]? = some a → ObjR K ρ H a o
  inj : ∀ (m n : Nat) (a : Addr), ρ[m]? = some a → ρ[n]? = some a → isMut S m → isMut S n → m = n
section
variable {K : PySem.W.Frag} {ρ ρ' : List Addr} {H H' : Hp} {S : Store}
theorem Sim.at (h : Sim K ρ S H) {n : Nat} {o : O} (e : S[n]? = some o) : ∃ a, ρ[n]? = some a ∧ ObjR K ρ H a o := by
  have hn := (List.getElem?_eq_some_iff.mp e).1
  rw [← h.len] at hn
  exact ⟨ρ[n], by simp [hn], h.obj n o _ e (by simp [hn])⟩
theorem Sim.at' (h : Sim K ρ S H) {n : Nat} {a : Addr} (e : ρ[n]? = some a) : ∃ o, S[n]? = some o ∧ ObjR K ρ H a o := by
  have hn := (List.getElem?_eq_some_iff.mp e).1
  rw [h.len] at hn
  exact ⟨S[n], by simp [hn], h.obj n _ _ (by simp [hn]) e⟩
theorem Sim.list (h : Sim K ρ S H) {n : Nat} {xs : List D} {a : Addr} (e : listAt S n = some xs) (ea : ρ[n]? = some a) : ∃ vs, SqL K H a vs ∧ Reps K ρ H vs xs := by
  unfold listAt at e
  split at e
  · rename_i ys e1
    cases e
    obtain ⟨vs, h1, r⟩ := h.obj n _ a e1 ea
    exact ⟨vs, SqL.of h1, r⟩
  · rename_i ys e1
    cases e
    obtain ⟨vs, h1, r⟩ := h.obj n _ a e1 ea
    exact ⟨vs, h1.sql, r⟩
  · cases e
/-- a tuple is made -/
theorem Sim.tup (h : Sim K ρ S H) {p : Addr} {xs : List V} (hp : H p = none) : Sim K ρ S (upd H p (.tup xs)) := by
  refine ⟨h.len, fun n o a e ea => ?_, h.inj⟩
  have g : Gro H (upd H p (.tup xs)) := Gro.new hp
  have r := h.obj n o a e ea
  cases o with
  | lst ys =>
    obtain ⟨vs, h1, r⟩ := r
    exact ⟨vs, by rw [upd_ne (ne_of_none h1 hp)]; exact h1, r.mono g (Pre.refl ρ)⟩
  | ro ys =>
    obtain ⟨vs, h1, r⟩ := r
    exact ⟨vs, h1.gro g, r.mono g (Pre.refl ρ)⟩
/-- a list is made -/
theorem Sim.new (h : Sim K ρ S H) {p : Addr} {vs : List V} {xs : List D} (hp : H p = none) (r : Reps K ρ H vs xs) : Sim K (ρ ++ [p]) (S ++ [.lst xs]) (upd H p (.lst vs)) := by
  have g : Gro H (upd H p (.lst vs)) := Gro.new hp
  refine ⟨by simp [h.len], fun n o a e ea => ?_, fun m n a e1 e2 m1 m2 => ?_⟩
  · by_cases hn : n < S.length
    · rw [List.getElem?_append_left hn] at e
      rw [List.getElem?_append_left (by rw [h.len]; exact hn)] at ea
      have q := h.obj n o a e ea
      cases o with
      | lst ys =>
        obtain ⟨ws, h1, r⟩ := q
        exact ⟨ws, by rw [upd_ne (ne_of_none h1 hp)]; exact h1, r.mono g (Pre.app ρ p)⟩
      | ro ys =>
        obtain ⟨ws, h1, r⟩ := q
        exact ⟨ws, h1.gro g, r.mono g (Pre.app ρ p)⟩
    · have hl : n = S.length := by
        have := (List.getElem?_eq_some_iff.mp e).1
        simp at this; omega
      subst hl
      rw [List.getElem?_append_right (Nat.le_refl _)] at e
      rw [← h.len, List.getElem?_append_right (Nat.le_refl _)] at ea
      simp at e ea
      subst e; subst ea
      exact ⟨vs, upd_same, r.mono g (Pre.app ρ p)⟩
  · have old : ∀ {m : Nat}, m < S.length → (ρ ++ [p])[m]? = some a → isMut (S ++ [.lst xs]) m → ρ[m]? = some a ∧ isMut S m ∧ a ≠ p := by
      intro m hm e1 ⟨ys, m1⟩
      rw [List.getElem?_append_left (by rw [h.len]; exact hm)] at e1
      rw [List.getElem?_append_left hm] at m1
      obtain ⟨ws, h1, _⟩ := h.obj m _ a m1 e1
      exact ⟨e1, ⟨ys, m1⟩, ne_of_none h1 hp⟩
    have lim : ∀ {m : Nat}, (ρ ++ [p])[m]? = some a → m < S.length ∨ (m = S.length ∧ a = p) := by
      intro m e1
      by_cases hm : m < S.length
      · exact .inl hm
      · have := (List.getElem?_eq_some_iff.mp e1).1
        simp [h.len] at this
        have hm2 : m = S.length := by omega
        subst hm2
        rw [← h.len, List.getElem?_append_right (Nat.le_refl _)] at e1
        simp at e1
        exact .inr ⟨rfl, e1.symm⟩
    rcases lim e1 with k1 | ⟨k1, q1⟩
    · obtain ⟨a1, a2, a3⟩ := old k1 e1 m1
      rcases lim e2 with k2 | ⟨k2, q2⟩
      · obtain ⟨b1, b2, _⟩ := old k2 e2 m2
        exact h.inj m n a a1 b1 a2 b2
      · exact absurd q2 a3
    · rcases lim e2 with k2 | ⟨k2, q2⟩
      · obtain ⟨_, _, b3⟩ := old k2 e2 m2
        exact absurd q1 b3
      · rw [k1, k2]
/-- a list is changed -/
theorem Sim.put (h : Sim K ρ S H) {n : Nat} {p : Addr} {vs ws : List V} {xs ys : List D} (e : S[n]? = some (.lst xs)) (ep : ρ[n]? = some p) (hp : H p = some (.lst ws)) (r : Reps K ρ H vs ys) :
    Sim K ρ (S.set n (.lst ys)) (upd H p (.lst vs)) := by
  have g : Gro H (upd H p (.lst vs)) := Gro.mut hp
  have hn := (List.getElem?_eq_some_iff.mp e).1
  have mm : ∀ {m : Nat}, isMut (S.set n (.lst ys)) m → isMut S m := by
    intro m ⟨zs, hm⟩
    by_cases q : n = m
    · subst q; exact ⟨xs, e⟩
    · rw [List.getElem?_set_ne q] at hm; exact ⟨zs, hm⟩
  refine ⟨by simp [h.len], fun m o a em ea => ?_, fun m k a e1 e2 m1 m2 => h.inj m k a e1 e2 (mm m1) (mm m2)⟩
  by_cases q : n = m
  · subst q
    rw [List.getElem?_set_self hn] at em
    rw [ep] at ea
    cases ea; cases em
    exact ⟨vs, upd_same, r.mono g (Pre.refl ρ)⟩
  · rw [List.getElem?_set_ne q] at em
    have old := h.obj m o a em ea
    cases o with
    | lst zs =>
      obtain ⟨us, h1, r1⟩ := old
      have hne : a ≠ p := fun z => q (h.inj n m p ep (z ▸ ea) ⟨xs, e⟩ ⟨zs, em⟩)
      exact ⟨us, by rw [upd_ne hne]; exact h1, r1.mono g (Pre.refl ρ)⟩
    | ro zs =>
      obtain ⟨us, h1, r1⟩ := old
      exact ⟨us, h1.gro g, r1.mono g (Pre.refl ρ)⟩
end
end Tm

set_option Elab.async false
set_option linter.all false
set_option maxRecDepth 100000
namespace Tm
open PySem PySem.Spec PyProof.Rows L2

/-! ## the core: expressions, targets, statements -/
inductive Bin where
  | add | sub | mul | fdiv | mod | pow | shl | shr | band | bor | bxor
inductive Cmp where
  | eq | ne | lt | le | gt | ge | is_ | isn | in_ | nin
inductive Bi where
  | len | int | abs | max | min | tuple | list | str | repr | sum | all | any
inductive Ty where
  | int | str | tuple | list | bool | dict
inductive Tg where
  | bad | nm (i : Nat) | tp (n : Nat) (t : Tg) | nil | cons (a r : Tg)
inductive C where
  | bad
  | var (i : Nat)
  | lit (d : D)
  | glob (g : Nat)
  | nil | cons (a r : C)
  | tup (a : C) | lst (a : C)
  | bin (op : Bin) (a b : C)
  | neg (a : C)
  | cmp (op : Cmp) (a b : C)
  | chain (o1 o2 : Cmp) (a b c : C)
  | and_ (a b : C) | or_ (a b : C) | not_ (a : C)
  | ife (c a b : C)
  | idx (a b : C)
  | slc (a lo hi : C)
  | absent
  | kget (g : Nat) (a : C) | kin (g : Nat) (neg : Bool) (a : C) | kgetd (g : Nat) (a b : C)
  | call (f : Nat) (perm : List Nat) (a b : C)
  | callv (f a : C)
  | bi (b : Bi) (a : C)
  | isty (a : C) (t : Ty)
  | app (a v : C)
  | lc (it : C) (t : Tg) (cond elt : C) (own : List Nat)
  | itv (a : C) | irng (a : C) | irev (a : C) | ienum (a : C) | izip (a b : C)
inductive St where
  | skip | bad
  | seq (a b : St)
  | asg (t : Tg) (c : C)
  | seti (v o i : C)
  | drop (c : C)
  | ret (c : C)
  | ifs (c : C) (a b : St)
  | for_ (it : C) (t : Tg) (b : St)
  | whl (c : C) (b : St)
  | brk | cont
inductive Fl where
  | nx | rt (d : D) | bk | ct
structure Pm where
  R : Nat → List D → Store → Option (D × Store)
  gl : Nat → D
  kd : Nat → List (Str × D)
  W : Nat
  fx : Str → Option Nat

/-! ## operators -/
def okI (b : Bool) (d : D) (S : Store) : Option (D × Store) := if b = true then some (d, S) else none
def new (S : Store) (xs : List D) : D × Store := (.ref S.length, S ++ [.lst xs])
def binop : Bin → D → D → Store → Option (D × Store)
  | .add, .int i, .int j, S => some (.int (i + j), S)
  | .add, .str x, .str y, S => okI (decide (x.length + y.length ≤ sizeLine)) (.str (x ++ y)) S
  | .add, .tup xs, .tup ys, S => okI (decide (xs.length + ys.length ≤ sizeLine)) (.tup (xs ++ ys)) S
  | .add, .ref m, .ref n, S => match S[m]?, S[n]? with
    | some (.lst xs), some (.lst ys) => if xs.length + ys.length ≤ sizeLine then some (new S (xs ++ ys)) else none
    | _, _ => none
  | .sub, .int i, .int j, S => some (.int (i - j), S)
  | .mul, .int i, .int j, S => okI (decide (i.natAbs.log2 + j.natAbs.log2 < 1000000)) (.int (i * j)) S
  | .mul, .ref n, .int k, S => match S[n]? with
    | some (.lst xs) => if decide (-(2 ^ 63) ≤ k) && decide (k < 2 ^ 63) && decide (xs.length * k.toNat ≤ sizeLine) then some (new S (List.replicate k.toNat xs).flatten) else none
    | _ => none
  | .mul, .tup xs, .int k, S => okI (!xs.isEmpty && decide (2 ≤ k) && decide (k ≤ 1000) && decide (xs.length ≤ 1000)) (.tup (List.replicate k.toNat xs).flatten) S
  | .fdiv, .int i, .int j, S => okI (decide (0 < j) && decide (j.natAbs.log2 < 9000)) (.int (i / j)) S
  | .mod, .int i, .int j, S => okI (decide (0 < j)) (.int (i % j)) S
  | .pow, .int i, .int j, S => okI (decide (0 ≤ j) && decide (j ≤ 1000000) && decide (i.natAbs < 2 ^ 64)) (.int (i ^ j.toNat)) S
  | .shl, .int i, .int j, S => okI (decide (0 ≤ j) && decide (j ≤ 1000000) && decide (i.natAbs < 2 ^ 64)) (.int (i * 2 ^ j.toNat)) S
  | .shr, .int i, .int j, S => okI (decide (0 ≤ j)) (.int (i / 2 ^ j.toNat)) S
  | .band, .int i, .int j, S => some (.int (Builtin.bitAnd i j), S)
  | .bor, .int i, .int j, S => some (.int (Builtin.bitOr i j), S)
  | .bxor, .int i, .int j, S => some (.int (Builtin.bitXor i j), S)
  | _, _, _, _ => none
/-- equality: scalars at once, else by data -/
def eqD (S : Store) : D → D → Option Bool
  | .int i, .int j => some (decide (i = j))
  | .str x, .str y => some (decide (x = y))
  | .bl a, .bl b => some (decide (a = b))
  | .non, .non => some true
  | a, b => (pd S a).bind fun x => (pd S b).bind fun y => if SeqAt.shaped x && SeqAt.shaped y then some (PyData.eqv x y) else none
def isScal : D → Bool
  | .non | .bl _ | .int _ | .str _ => true
  | _ => false
def scEq : D → D → Bool
  | .non, .non => true
  | .bl a, .bl b => a == b
  | .int i, .int j => decide (i = j)
  | .str x, .str y => decide (x = y)
  | .bl a, .int j => decide ((if a then 1 else 0) = j)
  | .int i, .bl b => decide (i = (if b then 1 else 0))
  | _, _ => false
def inD (S : Store) (x : D) : D → Option Bool
  | .tup xs => if isScal x && xs.all isScal then some (xs.any fun y => scEq y x) else none
  | .ref n => (listAt S n).bind fun xs =>
    if isScal x && xs.all isScal then some (xs.any fun y => scEq y x)
    else (pd S x).bind fun d => (pds S xs).bind fun ds => if SeqAt.shaped d && SeqAt.shaped (.list ds) then some (ds.any fun z => PyData.eqv z d) else none
  | .str z => match x with
    | .str w => match w.cps.toList with
      | [c] => some (decide (c ∈ z.cps.toList))
      | _ => none
    | _ => none
  | _ => none
def cmpop : Cmp → D → D → Store → Option Bool
  | .eq, a, b, S => eqD S a b
  | .ne, a, b, S => (eqD S a b).map (!·)
  | .lt, .int i, .int j, _ => some (decide (i < j))
  | .le, .int i, .int j, _ => some (decide (i ≤ j))
  | .gt, .int i, .int j, _ => some (decide (j < i))
  | .ge, .int i, .int j, _ => some (decide (j ≤ i))
  | .is_, .non, .non, _ => some true
  | .is_, .bl _, .non, _ | .is_, .int _, .non, _ | .is_, .str _, .non, _ | .is_, .tup _, .non, _ | .is_, .ref _, .non, _ => some false
  | .isn, .non, .non, _ => some false
  | .isn, .bl _, .non, _ | .isn, .int _, .non, _ | .isn, .str _, .non, _ | .isn, .tup _, .non, _ | .isn, .ref _, .non, _ => some true
  | .is_, .bl a, .bl b, _ => some (decide (a = b))
  | .isn, .bl a, .bl b, _ => some (!decide (a = b))
  | .in_, a, b, S => inD S a b
  | .nin, a, b, S => (inD S a b).map (!·)
  | _, _, _, _ => none
def idxop : D → D → Store → Option D
  | .tup xs, .int i, _ => atI xs i
  | .ref n, .int i, S => (listAt S n).bind fun xs => atI xs i
  | .str z, .int i, _ => if z.length ≤ sizeLine then (atI z.cps.toList i).map fun c => .str ⟨#[c]⟩ else none
  | _, _, _ => none
def isAbs : C → Bool
  | .absent => true
  | _ => false
/-- a part of a slice: absent, or an int -/
def part (b : Bool) (S : Store) (r : Option (D × Store)) : Option (Option Int × Store) :=
  if b = true then some (none, S) else r.bind fun x => match x.1 with
    | .int i => some (some i, x.2)
    | _ => none
def cutD (xs : List D) (lo hi : Option Int) : List D := (xs.drop (HT.sIx xs.length 0 lo)).take (HT.sIx xs.length xs.length hi - HT.sIx xs.length 0 lo)
def slcop : D → Option Int → Option Int → Store → Option (D × Store)
  | .tup xs, lo, hi, S => some (.tup (cutD xs lo hi), S)
  | .ref n, lo, hi, S => (listAt S n).map fun xs => new S (cutD xs lo hi)
  | .str z, lo, hi, S => okI (decide (z.length ≤ sizeLine)) (.str (cutS z lo hi)) S
  | _, _, _, _ => none
def intsD : List D → Option (List Int)
  | [] => some []
  | .int i :: r => (intsD r).map fun s => i :: s
  | _ => none
def blsD : List D → Option (List Bool)
  | [] => some []
  | .bl i :: r => (blsD r).map fun s => i :: s
  | _ => none
def biop : Bi → List D → Store → Option (D × Store)
  | .len, [.tup xs], S => some (.int xs.length, S)
  | .len, [.ref n], S => (listAt S n).map fun xs => (.int xs.length, S)
  | .len, [.str z], S => okI (decide (z.length ≤ sizeLine)) (.int z.length) S
  | .int, [.int i], S => some (.int i, S)
  | .int, [.bl b], S => some (.int (if b then 1 else 0), S)
  | .int, [.str a], S => match PySem.intText? a with
    | some n => okI (decide (a.length ≤ 640)) (.int n) S
    | none => none
  | .abs, [.int i], S => some (.int (if i < 0 then -i else i), S)
  | .max, [.int i, .int j], S => some (.int (if j > i then j else i), S)
  | .min, [.int i, .int j], S => some (.int (if j < i then j else i), S)
  | .tuple, [.tup xs], S => some (.tup xs, S)
  | .tuple, [.ref n], S => (listAt S n).map fun xs => (.tup xs, S)
  | .list, [.tup xs], S => some (new S xs)
  | .list, [.ref n], S => (listAt S n).map fun xs => new S xs
  | .str, [.int i], S => okI (decide (i.natAbs.log2 < 1920)) (.str (toString i)) S
  | .repr, [d], S => (pd S d).bind fun x => if x.showable && decide (x.depth ≤ 64) && decide (x.shown.length ≤ sizeLine) then some (.str x.shown, S) else none
  | .sum, [.ref n], S => (listAt S n).bind fun xs => (intsD xs).map fun is => (.int is.sum, S)
  | .all, [.ref n], S => (listAt S n).bind fun xs => (blsD xs).map fun bs => (.bl (bs.all id), S)
  | .any, [.ref n], S => (listAt S n).bind fun xs => (blsD xs).map fun bs => (.bl (bs.any id), S)
  | _, _, _ => none
def tyop : D → Ty → Store → Option Bool
  | .non, _, _ => some false
  | .bl _, t, _ => some (match t with | .int | .bool => true | _ => false)
  | .int _, t, _ => some (match t with | .int => true | _ => false)
  | .str _, t, _ => some (match t with | .str => true | _ => false)
  | .tup _, t, _ => some (match t with | .tuple => true | _ => false)
  | .ref n, t, S => (listAt S n).map fun _ => match t with | .list => true | _ => false
  | .fn _, _, _ => none
def lookK (l : List (Str × D)) (x : Str) : Option D := l.lookup x
def pick {α : Type} (perm : List Nat) (l : List α) : List α := perm.filterMap fun i => l[i]?
def push (n : Nat) (d : D) (S : Store) : Option Store := match S[n]? with
  | some (.lst xs) => if xs.length < sizeLine then some (S.set n (.lst (xs ++ [d]))) else none
  | _ => none
def setS (o i v : D) (S : Store) : Option Store := match o, i with
  | .ref n, .int k => match S[n]? with
    | some (.lst xs) => (ixN xs.length k).map fun j => S.set n (.lst (xs.set j v))
    | _ => none
  | _, _ => none
mutual
def bindT : Tg → D → Store → Env' → Option Env'
  | .nm i, d, _, e => if i < e.length then some (e.set i (some d)) else none
  | .tp n t, .tup ds, S, e => if ds.length = n then bindTs t ds S e else none
  | .tp n t, .ref m, S, e => (listAt S m).bind fun ds => if ds.length = n then bindTs t ds S e else none
  | _, _, _, _ => none
def bindTs : Tg → List D → Store → Env' → Option Env'
  | .nil, [], _, e => some e
  | .cons a r, d :: ds, S, e => (bindT a d S e).bind fun e1 => bindTs r ds S e1
  | _, _, _, _ => none
end
def wipeE (e : Env') : List Nat → Env'
  | [] => e
  | v :: vs => (wipeE e vs).set v none

/-! ## what is walked: the items, and the lists that must stay as they are -/
def chk1 (S : Store) : D → Bool
  | .tup [.ref n, .tup xs] => match listAt S n with
    | some ys => D.beqs xs ys
    | none => false
  | _ => false
def chks (S : Store) : List D → Bool
  | [] => true
  | c :: r => chk1 S c && chks S r
def itD (items cks : List D) : D := .tup [.tup items, .tup cks]
def itOf (S : Store) : D → Option (List D × List D)
  | .tup xs => some (xs, [])
  | .ref n => (listAt S n).map fun xs => (xs, [.tup [.ref n, .tup xs]])
  | _ => none
def itOfL (S : Store) : D → Option (List D × List D)
  | .ref n => (listAt S n).map fun xs => (xs, [.tup [.ref n, .tup xs]])
  | _ => none
def rng (lo : Int) (n : Nat) : List D := (List.range n).map fun (i : Nat) => D.int (lo + (i : Int))
def rngs : List D → Option (List D)
  | [.int j] => if decide (-(2 ^ 62) ≤ j) && decide (j < 2 ^ 62) then some (rng 0 j.toNat) else none
  | [.int i, .int j] => if decide (-(2 ^ 62) ≤ i) && decide (i < 2 ^ 62) && decide (-(2 ^ 62) ≤ j) && decide (j < 2 ^ 62) then some (rng i (j - i).toNat) else none
  | _ => none
def enumF : Nat → List D → List D
  | _, [] => []
  | i, d :: ds => .tup [.int (i : Int), d] :: enumF (i + 1) ds
def zipF : List D → List D → List D
  | d :: ds, f :: fs => .tup [d, f] :: zipF ds fs
  | _, _ => []

def forL (bod : Env' → Store → Option (Fl × Env' × Store)) (t : Tg) (cks : List D) : List D → Env' → Store → Option (Fl × Env' × Store)
  | [], e, S => if chks S cks = true then some (.nx, e, S) else none
  | d :: ds, e, S => if chks S cks = true then
      (bindT t d S e).bind fun e1 => (bod e1 S).bind fun r => match r.1 with
        | .nx | .ct => forL bod t cks ds r.2.1 r.2.2
        | .bk => some (.nx, r.2.1, r.2.2)
        | .rt v => some (.rt v, r.2.1, r.2.2)
    else none
def lcL (cnd elt : Env' → Store → Option (D × Store)) (t : Tg) (cks : List D) (w : Env') (n : Nat) : List D → Store → Option Store
  | [], S => if chks S cks = true then some S else none
  | d :: ds, S => if chks S cks = true then
      (bindT t d S w).bind fun e1 => (cnd e1 S).bind fun b => match b.1 with
        | .bl true => (elt e1 b.2).bind fun y => (push n y.1 y.2).bind fun S' => lcL cnd elt t cks w n ds S'
        | .bl false => lcL cnd elt t cks w n ds b.2
        | _ => none
    else none
def whL (cnd : Env' → Store → Option (D × Store)) (bod : Env' → Store → Option (Fl × Env' × Store)) : Nat → Env' → Store → Option (Fl × Env' × Store)
  | 0, _, _ => none
  | k + 1, e, S => (cnd e S).bind fun b => match b.1 with
    | .bl true => (bod e b.2).bind fun r => match r.1 with
      | .nx | .ct => whL cnd bod k r.2.1 r.2.2
      | .bk => some (.nx, r.2.1, r.2.2)
      | .rt v => some (.rt v, r.2.1, r.2.2)
    | .bl false => some (.nx, e, b.2)
    | _ => none

/-! ## the machine -/
def ev (p : Pm) : C → Env' → Store → Option (D × Store)
  | .bad, _, _ => none
  | .absent, _, _ => none
  | .var i, e, S => match e[i]? with
    | some (some d) => some (d, S)
    | _ => none
  | .lit d, _, S => if isScal d then some (d, S) else none
  | .glob g, _, S => some (p.gl g, S)
  | .nil, _, S => some (.tup [], S)
  | .cons a r, e, S => (ev p a e S).bind fun x => (ev p r e x.2).bind fun y => match y.1 with
    | .tup ds => some (.tup (x.1 :: ds), y.2)
    | _ => none
  | .tup a, e, S => (ev p a e S).bind fun x => match x.1 with
    | .tup ds => okI (decide (ds.length ≤ sizeLine)) (.tup ds) x.2
    | _ => none
  | .lst a, e, S => (ev p a e S).bind fun x => match x.1 with
    | .tup ds => if ds.length ≤ sizeLine then some (new x.2 ds) else none
    | _ => none
  | .bin op a b, e, S => (ev p a e S).bind fun x => (ev p b e x.2).bind fun y => binop op x.1 y.1 y.2
  | .neg a, e, S => (ev p a e S).bind fun x => match x.1 with
    | .int i => some (.int (-i), x.2)
    | _ => none
  | .cmp op a b, e, S => (ev p a e S).bind fun x => (ev p b e x.2).bind fun y => (cmpop op x.1 y.1 y.2).map fun r => (.bl r, y.2)
  | .chain o1 o2 a b c, e, S => (ev p a e S).bind fun x => (ev p b e x.2).bind fun y => (cmpop o1 x.1 y.1 y.2).bind fun r =>
      if r = true then (ev p c e y.2).bind fun z => (cmpop o2 y.1 z.1 z.2).map fun q => (.bl q, z.2) else some (.bl false, y.2)
  | .and_ a b, e, S => (ev p a e S).bind fun x => match x.1 with
    | .bl true => ev p b e x.2
    | .bl false => some (.bl false, x.2)
    | _ => none
  | .or_ a b, e, S => (ev p a e S).bind fun x => match x.1 with
    | .bl true => some (.bl true, x.2)
    | .bl false => ev p b e x.2
    | _ => none
  | .not_ a, e, S => (ev p a e S).bind fun x => match x.1 with
    | .bl b => some (.bl (!b), x.2)
    | _ => none
  | .ife c a b, e, S => (ev p c e S).bind fun x => match x.1 with
    | .bl true => ev p a e x.2
    | .bl false => ev p b e x.2
    | _ => none
  | .idx a b, e, S => (ev p a e S).bind fun x => (ev p b e x.2).bind fun y => (idxop x.1 y.1 y.2).map fun d => (d, y.2)
  | .slc a lo hi, e, S => (ev p a e S).bind fun x => (part (isAbs lo) x.2 (ev p lo e x.2)).bind fun y => (part (isAbs hi) y.2 (ev p hi e y.2)).bind fun z =>
      slcop x.1 y.1 z.1 z.2
  | .kget g a, e, S => (ev p a e S).bind fun x => match x.1 with
    | .str z => (lookK (p.kd g) z).map fun d => (d, x.2)
    | _ => none
  | .kin g neg a, e, S => (ev p a e S).bind fun x => match x.1 with
    | .str z => some (.bl (if neg then !(lookK (p.kd g) z).isSome else (lookK (p.kd g) z).isSome), x.2)
    | _ => none
  | .kgetd g a b, e, S => (ev p a e S).bind fun x => (ev p b e x.2).bind fun y => match x.1 with
    | .str z => some ((lookK (p.kd g) z).getD y.1, y.2)
    | _ => none
  | .call f perm a b, e, S => (ev p a e S).bind fun x => (ev p b e x.2).bind fun y => match x.1, y.1 with
    | .tup ds, .tup fs => p.R f (pick perm (ds ++ fs)) y.2
    | _, _ => none
  | .callv f a, e, S => (ev p f e S).bind fun x => (ev p a e x.2).bind fun y => match x.1, y.1 with
    | .fn z, .tup ds => (p.fx z).bind fun i => p.R i ds y.2
    | _, _ => none
  | .bi b a, e, S => (ev p a e S).bind fun x => match x.1 with
    | .tup ds => biop b ds x.2
    | _ => none
  | .isty a t, e, S => (ev p a e S).bind fun x => (tyop x.1 t x.2).map fun b => (.bl b, x.2)
  | .app a v, e, S => (ev p a e S).bind fun x => (ev p v e x.2).bind fun y => match x.1 with
    | .ref n => (push n y.1 y.2).map fun S' => (.non, S')
    | _ => none
  | .itv a, e, S => (ev p a e S).bind fun x => (itOf x.2 x.1).map fun r => (itD r.1 r.2, x.2)
  | .irng a, e, S => (ev p a e S).bind fun x => match x.1 with
    | .tup ds => (rngs ds).map fun r => (itD r [], x.2)
    | _ => none
  | .irev a, e, S => (ev p a e S).bind fun x => (itOf x.2 x.1).map fun r => (itD r.1.reverse r.2, x.2)
  | .ienum a, e, S => (ev p a e S).bind fun x => (itOfL x.2 x.1).map fun r => (itD (enumF 0 r.1) r.2, x.2)
  | .izip a b, e, S => (ev p a e S).bind fun x => (ev p b e x.2).bind fun y => match x.1, y.1 with
    | .tup xs, .tup ys => some (itD (zipF xs ys) [], y.2)
    | .tup xs, .str z => some (itD (zipF xs (z.cps.toList.map fun c => D.str ⟨#[c]⟩)) [], y.2)
    | .ref m, .ref n => (listAt y.2 m).bind fun xs => (listAt y.2 n).map fun ys => (itD (zipF xs ys) ([.tup [.ref m, .tup xs]] ++ [.tup [.ref n, .tup ys]]), y.2)
    | _, _ => none
  | .lc it t cond elt own, e, S => (ev p it e S).bind fun x => match x.1 with
    | .tup [.tup items, .tup cks] => (lcL (ev p cond) (ev p elt) t cks (wipeE e own) x.2.length items (x.2 ++ [.lst []])).map fun S' => (.ref x.2.length, S')
    | _ => none

def ex (p : Pm) : St → Env' → Store → Option (Fl × Env' × Store)
  | .skip, e, S => some (.nx, e, S)
  | .bad, _, _ => none
  | .seq a b, e, S => (ex p a e S).bind fun r => match r.1 with
    | .nx => ex p b r.2.1 r.2.2
    | f => some (f, r.2.1, r.2.2)
  | .asg t c, e, S => (ev p c e S).bind fun x => (bindT t x.1 x.2 e).map fun e1 => (.nx, e1, x.2)
  | .seti v o i, e, S => (ev p v e S).bind fun x => (ev p o e x.2).bind fun y => (ev p i e y.2).bind fun z => (setS y.1 z.1 x.1 z.2).map fun S' => (.nx, e, S')
  | .drop c, e, S => (ev p c e S).map fun x => (.nx, e, x.2)
  | .ret c, e, S => (ev p c e S).map fun x => (.rt x.1, e, x.2)
  | .ifs c a b, e, S => (ev p c e S).bind fun x => match x.1 with
    | .bl true => ex p a e x.2
    | .bl false => ex p b e x.2
    | _ => none
  | .for_ it t b, e, S => (ev p it e S).bind fun x => match x.1 with
    | .tup [.tup items, .tup cks] => forL (ex p b) t cks items e x.2
    | _ => none
  | .whl c b, e, S => whL (ev p c) (ex p b) p.W e S
  | .brk, e, S => some (.bk, e, S)
  | .cont, e, S => some (.ct, e, S)
end Tm

set_option Elab.async false
set_option linter.all false
set_option maxRecDepth 100000
namespace Tm
open PySem PySem.Spec PyProof.Rows L2

/-! ## from the text to the core -/
structure Gx where
  funs : List (Str × Nat × List Str)
  cons : List (Str × Nat)
  dics : List (Str × Nat)
  blt : List Str
  kws : List (Str × Nat × List Str × List Nat)
structure Cc where
  N : List Str
  names : List (Str × NameKind)
  own : Option (List (Str × NameKind))
  G : Gx
def Cc.fnOk (c : Cc) (x : Str) : Bool := match c.own with
  | none => true
  | some nm => nm.lookup x == some .cell || c.names.lookup x == some .local
def ixOf : List Str → Str → Option Nat
  | [], _ => none
  | y :: r, x => if y = x then some 0 else (ixOf r x).map (· + 1)
theorem ixOf_get : ∀ {l : List Str} {x : Str} {i : Nat}, ixOf l x = some i → l[i]? = some x
  | [], _, _, h => by simp [ixOf] at h
  | y :: r, x, i, h => by
    unfold ixOf at h
    split at h
    · rename_i e; cases h; simp [e]
    · cases e : ixOf r x with
      | none => rw [e] at h; simp at h
      | some j => rw [e] at h; simp at h; subst h; simpa using ixOf_get e
def badName (x : Str) : Bool := x == ("__debug__" : Str) || x == ("__classdict__" : Str) || x == ("__name__" : Str)
def visB (c : Cc) (x : Str) : Bool := match c.names.lookup x with
  | some .local | some .cell | some .free => true
  | _ => false
def locB (c : Cc) (x : Str) : Bool := (match c.names.lookup x with
  | some .local | some .cell => true
  | _ => false) && c.fnOk x
def glB (c : Cc) (x : Str) : Bool := match c.names.lookup x with
  | some .globalImplicit => !badName x
  | _ => false
/-- a built-in name that nothing hides -/
def bltB (c : Cc) (x : Str) : Bool := glB c x && c.G.blt.contains x
def cName (c : Cc) (x : Str) : C :=
  if badName x then .bad
  else if visB c x then (match ixOf c.N x with | some i => .var i | none => .bad)
  else if glB c x then (match c.G.cons.lookup x with | some g => .glob g | none => .bad)
  else .bad
def cConst : Const → C
  | .none => .lit .non
  | .bool b => .lit (.bl b)
  | .int i => .lit (.int i)
  | .str s => .lit (.str s)
  | _ => .bad
def cBin : Operator → Option Bin
  | .Add => some .add | .Sub => some .sub | .Mult => some .mul | .FloorDiv => some .fdiv | .Mod => some .mod | .Pow => some .pow
  | .LShift => some .shl | .RShift => some .shr | .BitAnd => some .band | .BitOr => some .bor | .BitXor => some .bxor
  | _ => none
def cCmp : CmpOp → Cmp
  | .Eq => .eq | .NotEq => .ne | .Lt => .lt | .LtE => .le | .Gt => .gt | .GtE => .ge | .Is => .is_ | .IsNot => .isn | .In => .in_ | .NotIn => .nin
def notSet : Expr → Bool
  | .Set .. => false
  | _ => true
def isSlice : Expr → Bool
  | .Slice .. => true
  | _ => false
def notStar : Expr → Bool
  | .Starred .. => false
  | _ => true
def plainBase : Expr → Bool
  | .Name .. | .Subscript .. => true
  | _ => false
def isTup : Expr → Bool
  | .Tuple .. => true
  | _ => false
/-- the module's dicts by name -/
def dicOf (c : Cc) : Expr → Option Nat
  | .Name x _ => if glB c x then c.G.dics.lookup x else none
  | _ => none
def tyOf (c : Cc) : Expr → Option Ty
  | .Name x _ => if bltB c x then
      (if x = "int" then some .int else if x = "str" then some .str else if x = "tuple" then some .tuple else if x = "list" then some .list
       else if x = "bool" then some .bool else if x = "dict" then some .dict else none) else none
  | _ => none
def biOf (x : Str) : Option Bi :=
  if x = "len" then some .len else if x = "int" then some .int else if x = "abs" then some .abs else if x = "max" then some .max
  else if x = "min" then some .min else if x = "tuple" then some .tuple else if x = "list" then some .list else if x = "str" then some .str
  else if x = "repr" then some .repr else if x = "sum" then some .sum else if x = "all" then some .all else if x = "any" then some .any else none
def kwNames : List Keyword → Option (List Str)
  | [] => some []
  | ⟨some x, _, _⟩ :: r => (kwNames r).map fun s => x :: s
  | ⟨none, _, _⟩ :: _ => none
/-- f(..) by its name -/
def cCall (c : Cc) (x : Str) (nargs : Nat) (a : C) : C :=
  if glB c x then (match c.G.funs.lookup x with
    | some (f, ps) => if nargs = ps.length then .call f (List.range nargs) a .nil else .bad
    | none => if c.G.blt.contains x then (match biOf x with | some b => .bi b a | none => .bad) else .bad)
  else .bad
def cIsTy (a : C) : Option Ty → C
  | some t => .isty a t
  | none => .bad
mutual
def cTg (n : Nat) (c : Cc) : Expr → Tg
  | .Name x _ => if locB c x then (match ixOf c.N x with | some i => .nm i | none => .bad) else .bad
  | .Tuple es _ _ => match n with
    | 0 => .bad
    | k + 1 => .tp es.length (cTgs k c es)
  | _ => .bad
def cTgs (n : Nat) (c : Cc) : List Expr → Tg
  | [] => .nil
  | e :: es => match n with
    | 0 => .bad
    | k + 1 => if notStar e then .cons (cTg k c e) (cTgs k c es) else .bad
end
/-- the slots that a target stores -/
def tgIn (own : List Nat) : Tg → Bool
  | .nm i => own.contains i
  | .tp _ t => tgIn own t
  | .nil => true
  | .cons a r => tgIn own a && tgIn own r
  | .bad => true
def relN (sc scope : List (Str × NameKind)) : List (Str × NameKind) :=
  scope.map fun (n, k) => if (k == NameKind.free && sc.lookup n == some .cell) then (n, NameKind.cell) else (n, k)
def ownOf (N : List Str) (names : List (Str × NameKind)) : List (Str × Nat) :=
  names.filterMap fun (n, k) => match k with
    | .local | .cell => (ixOf N n).map fun i => (n, i)
    | _ => none
def blkCc (c : Cc) (names : List (Str × NameKind)) : Cc := { N := c.N, names := relN c.names names, own := some names, G := c.G }

mutual
def cE (n : Nat) (c : Cc) (e : Expr) : C := match n with
  | 0 => .bad
  | n + 1 => match e with
    | .Name x _ => cName c x
    | .Constant k _ _ => cConst k
    | .BinOp a op b _ => match cBin op with
      | some o => .bin o (cE n c a) (cE n c b)
      | none => .bad
    | .UnaryOp op a _ => match op with
      | .USub => .neg (cE n c a)
      | .Not => .not_ (cE n c a)
      | _ => .bad
    | .Compare a ops bs _ => match ops, bs with
      | [op], [b] => if notSet b then (match dicOf c b with
          | some g => (match op with | .In => .kin g false (cE n c a) | .NotIn => .kin g true (cE n c a) | _ => .bad)
          | none => .cmp (cCmp op) (cE n c a) (cE n c b)) else .bad
      | [o1, o2], [b, d] => if !notSet d then .bad else .chain (cCmp o1) (cCmp o2) (cE n c a) (cE n c b) (cE n c d)
      | _, _ => .bad
    | .BoolOp op es _ => match op, es with
      | .And, a :: r => cAnd n c a r
      | .Or, a :: r => cOr n c a r
      | _, _ => .bad
    | .IfExp t a b _ => .ife (cT n c t) (cE n c a) (cE n c b)
    | .Tuple es _ _ => .tup (cEs n c es)
    | .List es _ => .lst (cEs n c es)
    | .Subscript a b _ => match b with
      | .Slice lo hi st _ => (match st with
        | none => .slc (cE n c a) (cO n c lo) (cO n c hi)
        | some _ => .bad)
      | b => (match dicOf c a with
        | some g => .kget g (cE n c b)
        | none => .idx (cE n c a) (cE n c b))
    | .Call f es kws ps => match kws with
      | [] => (match f with
        | .Name x _ => if x = ("isinstance" : Str) then (if bltB c x then (match es with
              | [a, t] => if notStar a then cIsTy (cE n c a) (tyOf c t) else .bad
              | _ => .bad) else .bad)
            else if es.length = 0 then .bad else if visB c x then .callv (cName c x) (cEs n c es) else cCall c x es.length (cEs n c es)
        | .Attribute o m ap => if !(ap.endLine == ps.line) then .bad else if m = ("append" : Str) then (match es with
              | [v] => if notStar v && plainBase o then .app (cE n c o) (cE n c v) else .bad
              | _ => .bad)
            else if m = ("get" : Str) then (match dicOf c o, es with
              | some g, [a, b] => if notStar a && notStar b then .kgetd g (cE n c a) (cE n c b) else .bad
              | _, _ => .bad)
            else .bad
        | _ => .bad)
      | kws => (match f with
        | .Name x _ => if glB c x && es.all notStar then (match c.G.funs.lookup x, kwNames kws with
            | some (f, ps), some ks => (match c.G.kws.find? (fun q => q.1 = x && q.2.1 = es.length && q.2.2.1 = ks) with
              | some q => .call f q.2.2.2 (cEs n c es) (cKs n c kws)
              | none => .bad)
            | _, _ => .bad) else .bad
        | _ => .bad)
    | .ListComp elt gs scope _ => match gs with
      | [⟨tg, it, ifs, 0⟩] =>
        let own := ownOf c.N scope.names
        let b := blkCc c scope.names
        let t := cTg n b tg
        if blkC c.N { kind := .function, names := c.names, isGenerator := false, isCoroutine := false } scope own && tgIn (own.map (·.2)) t && notSet it then
          .lc (cI n c (isTup tg) it) t (match ifs with | [] => .lit (.bl true) | [f] => cT n b f | _ => .bad) (cE n b elt) (own.map (·.2))
        else .bad
      | _ => .bad
    | _ => .bad
def cEs (n : Nat) (c : Cc) (es : List Expr) : C := match n with
  | 0 => .bad
  | n + 1 => match es with
    | [] => .nil
    | e :: r => if notStar e then .cons (cE n c e) (cEs n c r) else .bad
def cKs (n : Nat) (c : Cc) (ks : List Keyword) : C := match n with
  | 0 => .bad
  | n + 1 => match ks with
    | [] => .nil
    | ⟨_, e, _⟩ :: r => .cons (cE n c e) (cKs n c r)
def cAnd (n : Nat) (c : Cc) (a : Expr) (r : List Expr) : C := match n with
  | 0 => .bad
  | n + 1 => match r with
    | [] => cE n c a
    | b :: s => .and_ (cE n c a) (cAnd n c b s)
def cOr (n : Nat) (c : Cc) (a : Expr) (r : List Expr) : C := match n with
  | 0 => .bad
  | n + 1 => match r with
    | [] => cE n c a
    | b :: s => .or_ (cE n c a) (cOr n c b s)
/-- a test -/
def cT (n : Nat) (c : Cc) (e : Expr) : C := match n with
  | 0 => .bad
  | n + 1 => match e with
    | .BoolOp op es _ => match op, es with
      | .And, a :: r => cTAnd n c a r
      | .Or, a :: r => cTOr n c a r
      | _, _ => .bad
    | .UnaryOp op a _ => match op with
      | .Not => .not_ (cT n c a)
      | _ => .bad
    | .IfExp .. => .bad
    | .Compare a ops bs _ => match ops, bs with
      | [op], [b] => if notSet b then (match dicOf c b with
          | some g => (match op with | .In => .kin g false (cE n c a) | .NotIn => .kin g true (cE n c a) | _ => .bad)
          | none => .cmp (cCmp op) (cE n c a) (cE n c b)) else .bad
      | [o1, o2], [b, d] => if !notSet d then .bad else .chain (cCmp o1) (cCmp o2) (cE n c a) (cE n c b) (cE n c d)
      | _, _ => .bad
    | e => cE n c e
def cTAnd (n : Nat) (c : Cc) (a : Expr) (r : List Expr) : C := match n with
  | 0 => .bad
  | n + 1 => match r with
    | [] => cT n c a
    | b :: s => .and_ (cT n c a) (cTAnd n c b s)
def cTOr (n : Nat) (c : Cc) (a : Expr) (r : List Expr) : C := match n with
  | 0 => .bad
  | n + 1 => match r with
    | [] => cT n c a
    | b :: s => .or_ (cT n c a) (cTOr n c b s)
def cO (n : Nat) (c : Cc) (e : Option Expr) : C := match n with
  | 0 => .bad
  | n + 1 => match e with
    | none => .absent
    | some e => if isAbs (cE n c e) then .bad else cE n c e
/-- what is walked -/
def cI (n : Nat) (c : Cc) (tp : Bool) (e : Expr) : C := match n with
  | 0 => .bad
  | n + 1 => match e with
    | .Call f es kws _ => match f, kws with
      | .Name x _, [] =>
        if x = ("range" : Str) then (if bltB c x && (es.length == 1 || es.length == 2) then .irng (cEs n c es) else .bad)
        else if x = ("reversed" : Str) then (match es with | [a] => if bltB c x && notStar a then .irev (cE n c a) else .bad | _ => .bad)
        else if x = ("enumerate" : Str) then (match es with | [a] => if tp && bltB c x && notStar a then .ienum (cE n c a) else .bad | _ => .bad)
        else if x = ("zip" : Str) then (match es with | [a, b] => if tp && bltB c x && notStar a && notStar b then .izip (cE n c a) (cE n c b) else .bad | _ => .bad)
        else .itv (cE n c e)
      | _, _ => .itv (cE n c e)
    | e => .itv (cE n c e)
end
end Tm

set_option Elab.async false
set_option linter.all false
set_option maxRecDepth 100000
set_option maxHeartbeats 4000000
namespace Tm
open PySem PySem.Spec PyProof.Rows L2

/-! ## data -/
section
variable {K : PySem.W.Frag} {ρ : List Addr} {H : Hp} {S : Store}
mutual
theorem dpG {g : Nat → Option PyData} (hg : ∀ (n : Nat) (a : Addr) (x : PyData), ρ[n]? = some a → g n = some x → Dp K H (.ref a) x) : ∀ {v : V} {d : D}, Rep K ρ H v d → ∀ {x : PyData}, pdG g d = some x → Dp K H v x
  | _, _, .non, x, h => by simp only [pdG, Option.some.injEq] at h; subst h; exact .non
  | _, _, .bl b, x, h => by simp only [pdG, Option.some.injEq] at h; subst h; exact .bl b
  | _, _, .int i, x, h => by simp only [pdG, Option.some.injEq] at h; subst h; exact .int i
  | _, _, .str z, x, h => by simp only [pdG, Option.some.injEq] at h; subst h; exact .str z
  | _, _, .fn _, x, h => by simp only [pdG] at h; cases h
  | _, _, .tup ht r, x, h => by
    simp only [pdG, Option.map_eq_some_iff] at h
    obtain ⟨xs, h1, rfl⟩ := h
    exact .tup ht (dpsG hg r h1)
  | _, _, .ref e, x, h => by
    simp only [pdG] at h
    exact hg _ _ _ e h
theorem dpsG {g : Nat → Option PyData} (hg : ∀ (n : Nat) (a : Addr) (x : PyData), ρ[n]? = some a → g n = some x → Dp K H (.ref a) x) : ∀ {vs : List V} {ds : List D}, Reps K ρ H vs ds → ∀ {xs : List PyData}, pdsG g ds = some xs → DpAll K H vs xs
  | _, _, .nil, xs, h => by simp only [pdsG, Option.some.injEq] at h; subst h; exact .nil
  | _, _, .cons r t, xs, h => by
    simp only [pdsG, Option.bind_eq_some_iff, Option.map_eq_some_iff] at h
    obtain ⟨y, h1, ys, h2, rfl⟩ := h
    exact .cons (dpG hg r h1) (dpsG hg t h2)
end
theorem dpN (sm : Sim K ρ S H) : ∀ (k n : Nat) (a : Addr) (x : PyData), ρ[n]? = some a → pdN S k n = some x → Dp K H (.ref a) x
  | 0, n, a, x, _, h => by simp [pdN] at h
  | k + 1, n, a, x, e, h => by
    simp only [pdN, Option.bind_eq_some_iff, Option.map_eq_some_iff] at h
    obtain ⟨xs, h1, ys, h2, rfl⟩ := h
    obtain ⟨vs, hs, r⟩ := sm.list h1 e
    exact .lst hs (dpsG (fun n a x => dpN sm k n a x) r h2)
theorem dp_of (sm : Sim K ρ S H) {v : V} {d : D} {x : PyData} (r : Rep K ρ H v d) (h : pd S d = some x) : Dp K H v x := dpG (dpN sm 60) r h
theorem dps_of (sm : Sim K ρ S H) {vs : List V} {ds : List D} {xs : List PyData} (r : Reps K ρ H vs ds) (h : pds S ds = some xs) : DpAll K H vs xs := dpsG (dpN sm 60) r h
theorem rep_scal {v : V} {d : D} (r : Rep K ρ H v d) (h : isScal d = true) : flatV v = true := by
  cases r <;> first | rfl | simp [isScal] at h
theorem reps_scal : ∀ {vs : List V} {ds : List D}, Reps K ρ H vs ds → ds.all isScal = true → vs.all flatV = true
  | _, _, .nil, _ => rfl
  | _, _, .cons r t, h => by
    simp only [List.all_cons, Bool.and_eq_true] at h ⊢
    exact ⟨rep_scal r h.1, reps_scal t h.2⟩
theorem scEq_eqV {v w : V} {d f : D} (r : Rep K ρ H v d) (q : Rep K ρ H w f) (hd : isScal d = true) (hf : isScal f = true) : eqV v w = scEq d f := by
  cases r <;> cases q <;> first | rfl | (simp [isScal] at hd; done) | (simp [isScal] at hf; done) | (simp [eqV, scEq]; done) | skip
end

/-! ## operators -/
/-- what follows, once d is the answer and S' the store -/
def Aft (K : PySem.W.Frag) (ρ : List Addr) (H : Hp) (S' : Store) (d : D) (Q : VK) : Prop :=
  ∀ (ρ' : List Addr) (H' : Hp) (v : V), Pre ρ ρ' → Gro H H' → Sim K ρ' S' H' → Rep K ρ' H' v d → Q v H'
section
variable {K : PySem.W.Frag} {ρ ρ' : List Addr} {H H' : Hp} {S S' : Store} {d : D} {Q : VK}
theorem Aft.mono (k : Aft K ρ H S' d Q) (p : Pre ρ ρ') (g : Gro H H') : Aft K ρ' H' S' d Q := fun _ _ v p' g' s r => k _ _ v (p.trans p') (g.trans g') s r
theorem Aft.here (k : Aft K ρ H S' d Q) (s : Sim K ρ S' H) {v : V} (r : Rep K ρ H v d) : Q v H := k ρ H v (Pre.refl ρ) (Gro.refl H) s r
/-- a tuple is made -/
theorem Aft.tup {ds : List D} {vs : List V} (k : Aft K ρ H S' (.tup ds) Q) (s : Sim K ρ S' H) (r : Reps K ρ H vs ds) {p : Addr} (hp : H p = none) : Q (.ref p) (upd H p (.tup vs)) :=
  k ρ _ _ (Pre.refl ρ) (Gro.new hp) (s.tup hp) (.tup (SqT.of upd_same) (r.mono (Gro.new hp) (Pre.refl ρ)))
/-- a list is made -/
theorem Aft.lst {ds : List D} {vs : List V} (k : Aft K ρ H (S ++ [.lst ds]) (.ref S.length) Q) (s : Sim K ρ S H) (r : Reps K ρ H vs ds) {p : Addr} (hp : H p = none) : Q (.ref p) (upd H p (.lst vs)) :=
  k (ρ ++ [p]) _ _ (Pre.app ρ p) (Gro.new hp) (s.new hp r) (.ref (by rw [← s.len, List.getElem?_append_right (Nat.le_refl _)]; simp))
end
theorem okI_some {b : Bool} {d : D} {S : Store} {x : D × Store} (h : okI b d S = some x) : b = true ∧ x = (d, S) := by
  unfold okI at h
  split at h
  · exact ⟨by assumption, (Option.some.inj h).symm⟩
  · cases h
/-- a two-place operation by the machine's own f -/
def rOp (K : PySem.W.Frag) (f : D → D → Store → Option (D × Store)) : R2 := fun v w H Q => ∃ (ρ : List Addr) (S : Store) (a b d : D) (S' : Store), Sim K ρ S H ∧ Rep K ρ H v a ∧ Rep K ρ H w b ∧ f a b S = some (d, S') ∧ Aft K ρ H S' d Q
section
variable {X : Cx}
theorem op_bin {o : Operator} {b : Bin} (hb : cBin o = some b) : OpR X (binaryOp o) (rOp X.K (binop b)) := by
  intro pins s σ H x y v u Q I rx ry h
  obtain ⟨ρ, S, da, db, d, S', sm, ra, rb, e, k⟩ := h
  cases o <;> simp only [cBin, Option.some.injEq, reduceCtorEq] at hb <;> subst hb
  · -- Add
    cases ra with
    | int i => cases rb with
      | int j => cases e; exact op_add pins s σ H _ _ v u Q I rx ry ⟨i, j, rfl, rfl, k.here sm (.int _)⟩
      | _ => cases e
    | str i => cases rb with
      | str j =>
        obtain ⟨c, e⟩ := okI_some e
        cases e
        exact op_add_str pins s σ H _ _ v u Q I rx ry ⟨i, j, rfl, rfl, of_decide_eq_true c, k.here sm (.str _)⟩
      | _ => cases e
    | tup h1 r1 => cases rb with
      | tup h2 r2 =>
        obtain ⟨c, e⟩ := okI_some e
        cases e
        have c := of_decide_eq_true c
        rw [← r1.length, ← r2.length] at c
        refine op_catA pins s σ H _ _ v u Q I rx ry ⟨_, _, _, _, rfl, rfl, h1, h2, c, fun z => ?_, fun _ z => ?_, fun _ _ p hp => k.tup sm (r1.append r2) hp⟩
        · subst z
          cases r1
          exact k.here sm (.tup h2 r2)
        · subst z
          cases r2
          exact k.here sm (.tup h1 (by rw [List.append_nil]; exact r1))
      | _ => cases e
    | ref e1 => cases rb with
      | ref e2 =>
        simp only [binop] at e
        split at e
        · rename_i xs ys q1 q2
          split at e
          · rename_i c
            cases e
            obtain ⟨vs, h1, r1⟩ := sm.obj _ _ _ q1 e1
            obtain ⟨ws, h2, r2⟩ := sm.obj _ _ _ q2 e2
            refine op_cat pins s σ H _ _ v u Q I rx ry ⟨_, _, vs, ws, rfl, rfl, h1, h2, by rw [r1.length, r2.length]; exact c, fun p hp => k.lst sm (r1.append r2) hp⟩
          · cases e
        · cases e
      | _ => cases e
    | _ => cases e
  · cases ra with
    | int i => cases rb with
      | int j => cases e; exact op_sub pins s σ H _ _ v u Q I rx ry ⟨i, j, rfl, rfl, k.here sm (.int _)⟩
      | _ => cases e
    | _ => cases e
  · -- Mult
    cases ra with
    | int i => cases rb with
      | int j =>
        obtain ⟨c, e⟩ := okI_some e
        cases e
        have c' : i.natAbs.log2 + j.natAbs.log2 < 1000000 := of_decide_eq_true c
        exact op_mulW pins s σ H _ _ v u Q I rx ry ⟨i, j, rfl, rfl, c', k.here sm (.int _)⟩
      | _ => cases e
    | tup h1 r1 => cases rb with
      | int j =>
        obtain ⟨c, e⟩ := okI_some e
        cases e
        simp only [Bool.and_eq_true, decide_eq_true_eq, Bool.not_eq_true', List.isEmpty_eq_false_iff] at c
        obtain ⟨⟨⟨c0, c1⟩, c2⟩, c3⟩ := c
        refine op_repT pins s σ H _ _ v u Q I rx ry ⟨_, j, _, rfl, rfl, h1, fun z => ?_, c1, c2, by rw [r1.length]; exact c3, fun p hp => k.tup sm (r1.flat _) hp⟩
        subst z
        cases r1
        exact c0 rfl
      | _ => cases e
    | ref e1 => cases rb with
      | int j =>
        simp only [binop] at e
        split at e
        · rename_i xs q1
          split at e
          · rename_i c
            cases e
            simp only [Bool.and_eq_true, decide_eq_true_eq] at c
            obtain ⟨⟨c1, c2⟩, c3⟩ := c
            obtain ⟨vs, h1, r1⟩ := sm.obj _ _ _ q1 e1
            refine op_rep pins s σ H _ _ v u Q I rx ry ⟨_, j, vs, rfl, rfl, h1, c1, c2, by rw [r1.length]; exact c3, fun p hp => k.lst sm (r1.flat _) hp⟩
          · cases e
        · cases e
      | _ => cases e
    | _ => cases e
  · cases ra with
    | int i => cases rb with
      | int j => 
        obtain ⟨c, e⟩ := okI_some e
        cases e
        simp only [Bool.and_eq_true, decide_eq_true_eq] at c
        exact op_mod pins s σ H _ _ v u Q I rx ry ⟨i, j, rfl, rfl, c, k.here sm (.int _)⟩
      | _ => cases e
    | _ => cases e
  · cases ra with
    | int i => cases rb with
      | int j => 
        obtain ⟨c, e⟩ := okI_some e
        cases e
        simp only [Bool.and_eq_true, decide_eq_true_eq] at c
        exact op_pow pins s σ H _ _ v u Q I rx ry ⟨i, j, rfl, rfl, ⟨c.1.1, c.1.2, c.2⟩, k.here sm (.int _)⟩
      | _ => cases e
    | _ => cases e
  · cases ra with
    | int i => cases rb with
      | int j => 
        obtain ⟨c, e⟩ := okI_some e
        cases e
        simp only [Bool.and_eq_true, decide_eq_true_eq] at c
        exact op_shl pins s σ H _ _ v u Q I rx ry ⟨i, j, rfl, rfl, ⟨c.1.1, c.1.2, c.2⟩, k.here sm (.int _)⟩
      | _ => cases e
    | _ => cases e
  · cases ra with
    | int i => cases rb with
      | int j => 
        obtain ⟨c, e⟩ := okI_some e
        cases e
        simp only [Bool.and_eq_true, decide_eq_true_eq] at c
        exact op_shr pins s σ H _ _ v u Q I rx ry ⟨i, j, rfl, rfl, c, k.here sm (.int _)⟩
      | _ => cases e
    | _ => cases e
  · cases ra with
    | int i => cases rb with
      | int j => cases e; exact op_or pins s σ H _ _ v u Q I rx ry ⟨i, j, rfl, rfl, k.here sm (.int _)⟩
      | _ => cases e
    | _ => cases e
  · cases ra with
    | int i => cases rb with
      | int j => cases e; exact op_xor pins s σ H _ _ v u Q I rx ry ⟨i, j, rfl, rfl, k.here sm (.int _)⟩
      | _ => cases e
    | _ => cases e
  · cases ra with
    | int i => cases rb with
      | int j => cases e; exact op_and pins s σ H _ _ v u Q I rx ry ⟨i, j, rfl, rfl, k.here sm (.int _)⟩
      | _ => cases e
    | _ => cases e
  · cases ra with
    | int i => cases rb with
      | int j => 
        obtain ⟨c, e⟩ := okI_some e
        cases e
        simp only [Bool.and_eq_true, decide_eq_true_eq] at c
        exact op_fdivW pins s σ H _ _ v u Q I rx ry ⟨i, j, rfl, rfl, ⟨c.1, c.2⟩, k.here sm (.int _)⟩
      | _ => cases e
    | _ => cases e

/-- a comparison by the machine's own f -/
def rCmp (K : PySem.W.Frag) (f : D → D → Store → Option Bool) : R2 := fun v w H Q => ∃ (ρ : List Addr) (S : Store) (a b : D) (r : Bool), Sim K ρ S H ∧ Rep K ρ H v a ∧ Rep K ρ H w b ∧ f a b S = some r ∧ Q (.bl r) H
theorem op_eqM (hu : X.A.units + 64 < cLine) : OpR X (compareOp .Eq) (rCmp X.K fun a b S => eqD S a b) := by
  intro pins s σ H x y v u Q I rx ry h
  obtain ⟨ρ, S, da, db, r, sm, ra, rb, e, k⟩ := h
  have deep : ∀ {p q : PyData}, pd S da = some p → pd S db = some q → SeqAt.shaped p = true → SeqAt.shaped q = true → PyData.eqv p q = r → wpAny (model X.prog X.w) X.A (compareOp .Eq v u) (EP X pins σ Q) X.xe s := fun {p q} hp hq sp sq er => by
    subst er
    exact op_eqD hu pins s σ H x y v u Q I rx ry ⟨p, q, dp_of sm ra hp, dp_of sm rb hq, sp, sq, k⟩
  have gen : (pd S da).bind (fun x => (pd S db).bind fun y => if (SeqAt.shaped x && SeqAt.shaped y) = true then some (PyData.eqv x y) else none) = some r → wpAny (model X.prog X.w) X.A (compareOp .Eq v u) (EP X pins σ Q) X.xe s := fun g => by
    simp only [Option.bind_eq_some_iff] at g
    obtain ⟨p, hp, q, hq, g⟩ := g
    split at g
    · rename_i c
      rw [Bool.and_eq_true] at c
      exact deep hp hq c.1 c.2 (Option.some.inj g)
    · cases g
  cases ra with
  | int i => cases rb with
    | int j => cases e; exact op_eq pins s σ H _ _ v u Q I rx ry ⟨rfl, by rw [show decide (V.int i = V.int j) = decide (i = j) by simp]; exact k⟩
    | _ => exact gen e
  | str i => cases rb with
    | str j => cases e; exact op_eq pins s σ H _ _ v u Q I rx ry ⟨rfl, by rw [show decide (V.str i = V.str j) = decide (i = j) by simp]; exact k⟩
    | _ => exact gen e
  | bl i => cases rb with
    | bl j => cases e; exact op_eq pins s σ H _ _ v u Q I rx ry ⟨rfl, by rw [show decide (V.bl i = V.bl j) = decide (i = j) by simp]; exact k⟩
    | _ => exact gen e
  | non => cases rb with
    | non => cases e; exact op_eq pins s σ H _ _ v u Q I rx ry ⟨rfl, k⟩
    | _ => exact gen e
  | tup h1 r1 => exact gen (by cases rb <;> exact e)
  | ref h1 => exact gen (by cases rb <;> exact e)
  | fn h1 => exact gen (by cases rb <;> exact e)
theorem op_neM (hu : X.A.units + 64 < cLine) : OpR X (compareOp .NotEq) (rCmp X.K fun a b S => (eqD S a b).map (!·)) := by
  intro pins s σ H x y v u Q I rx ry h
  obtain ⟨ρ, S, da, db, r, sm, ra, rb, e, k⟩ := h
  simp only [Option.map_eq_some_iff] at e
  obtain ⟨r, e, rfl⟩ := e
  have gen : (pd S da).bind (fun x => (pd S db).bind fun y => if (SeqAt.shaped x && SeqAt.shaped y) = true then some (PyData.eqv x y) else none) = some r → wpAny (model X.prog X.w) X.A (compareOp .NotEq v u) (EP X pins σ Q) X.xe s := fun g => by
    simp only [Option.bind_eq_some_iff] at g
    obtain ⟨p, hp, q, hq, g⟩ := g
    split at g
    · rename_i c
      rw [Bool.and_eq_true] at c
      have er := Option.some.inj g
      subst er
      exact op_neD hu pins s σ H x y v u Q I rx ry ⟨p, q, dp_of sm ra hp, dp_of sm rb hq, c.1, c.2, k⟩
    · cases g
  cases ra with
  | int i => cases rb with
    | int j => cases e; exact op_ne pins s σ H _ _ v u Q I rx ry ⟨rfl, by rw [show decide (V.int i = V.int j) = decide (i = j) by simp]; exact k⟩
    | _ => exact gen e
  | str i => cases rb with
    | str j => cases e; exact op_ne pins s σ H _ _ v u Q I rx ry ⟨rfl, by rw [show decide (V.str i = V.str j) = decide (i = j) by simp]; exact k⟩
    | _ => exact gen e
  | bl i => cases rb with
    | bl j => cases e; exact op_ne pins s σ H _ _ v u Q I rx ry ⟨rfl, by rw [show decide (V.bl i = V.bl j) = decide (i = j) by simp]; exact k⟩
    | _ => exact gen e
  | non => cases rb with
    | non => cases e; exact op_ne pins s σ H _ _ v u Q I rx ry ⟨rfl, k⟩
    | _ => exact gen e
  | tup h1 r1 => exact gen (by cases rb <;> exact e)
  | ref h1 => exact gen (by cases rb <;> exact e)
  | fn h1 => exact gen (by cases rb <;> exact e)
theorem any_scEq {K : PySem.W.Frag} {ρ : List Addr} {H : Hp} {x : V} {d : D} (rx : Rep K ρ H x d) (hx : isScal d = true) : ∀ {vs : List V} {ds : List D}, Reps K ρ H vs ds → ds.all isScal = true → inV x vs = ds.any fun y => scEq y d
  | _, _, .nil, _ => rfl
  | _, _, .cons r t, h => by
    simp only [List.all_cons, Bool.and_eq_true] at h
    have q := any_scEq rx hx t h.2
    unfold inV at q ⊢
    rw [List.any_cons, List.any_cons, q, scEq_eqV r rx h.1 hx]
/-- x in y, x not in y by one proof: n is the sign -/
theorem op_inM (hu : X.A.units + 65 < cLine) : OpR X (compareOp .In) (rCmp X.K fun a b S => inD S a b) := by
  intro pins s σ H x y v u Q I rx ry h
  obtain ⟨ρ, S, da, db, r, sm, ra, rb, e, k⟩ := h
  cases rb with
  | tup h1 r1 =>
    simp only [inD] at e
    split at e
    · rename_i c
      rw [Bool.and_eq_true] at c
      cases e
      refine op_in_seq pins s σ H _ _ v u Q I rx ry ⟨_, _, rfl, .inr h1, rep_scal ra c.1, reps_scal r1 c.2, ?_⟩
      show Q (.bl (inV _ _)) H
      rw [any_scEq ra c.1 r1 c.2]
      exact k
    · cases e
  | ref h1 =>
    simp only [inD, Option.bind_eq_some_iff] at e
    obtain ⟨ys, hl, e⟩ := e
    obtain ⟨vs, hq, r1⟩ := sm.list hl h1
    split at e
    · rename_i c
      rw [Bool.and_eq_true] at c
      cases e
      refine op_in_seq pins s σ H _ _ v u Q I rx ry ⟨_, _, rfl, .inl hq, rep_scal ra c.1, reps_scal r1 c.2, ?_⟩
      show Q (.bl (inV _ _)) H
      rw [any_scEq ra c.1 r1 c.2]
      exact k
    · simp only [Option.bind_eq_some_iff] at e
      obtain ⟨p, hp, q, hqs, e⟩ := e
      split at e
      · rename_i c
        rw [Bool.and_eq_true] at c
        cases e
        exact op_inD hu pins s σ H _ _ v u Q I rx ry ⟨p, q, dp_of sm ra hp, .lst hq (dps_of sm r1 hqs), c.1, c.2, k⟩
      · cases e
  | str z =>
    cases ra with
    | str w =>
      simp only [inD] at e
      split at e
      · rename_i c hc
        cases e
        have hw : w = ⟨#[c]⟩ := by
          cases w with | mk a => cases a with | mk l => simp at hc; rw [hc]
        refine op_in_sign pins s σ H _ _ v u Q I rx ry ⟨c, z, by rw [hw], rfl, k⟩
      · cases e
    | _ => cases e
  | _ => cases e
theorem op_ninM (hu : X.A.units + 65 < cLine) : OpR X (compareOp .NotIn) (rCmp X.K fun a b S => (inD S a b).map (!·)) := by
  intro pins s σ H x y v u Q I rx ry h
  obtain ⟨ρ, S, da, db, r, sm, ra, rb, e, k⟩ := h
  simp only [Option.map_eq_some_iff] at e
  obtain ⟨r, e, rfl⟩ := e
  cases rb with
  | tup h1 r1 =>
    simp only [inD] at e
    split at e
    · rename_i c
      rw [Bool.and_eq_true] at c
      cases e
      refine op_notIn_seq pins s σ H _ _ v u Q I rx ry ⟨_, _, rfl, .inr h1, rep_scal ra c.1, reps_scal r1 c.2, ?_⟩
      show Q (.bl (!inV _ _)) H
      rw [any_scEq ra c.1 r1 c.2]
      exact k
    · cases e
  | ref h1 =>
    simp only [inD, Option.bind_eq_some_iff] at e
    obtain ⟨ys, hl, e⟩ := e
    obtain ⟨vs, hq, r1⟩ := sm.list hl h1
    split at e
    · rename_i c
      rw [Bool.and_eq_true] at c
      cases e
      refine op_notIn_seq pins s σ H _ _ v u Q I rx ry ⟨_, _, rfl, .inl hq, rep_scal ra c.1, reps_scal r1 c.2, ?_⟩
      show Q (.bl (!inV _ _)) H
      rw [any_scEq ra c.1 r1 c.2]
      exact k
    · simp only [Option.bind_eq_some_iff] at e
      obtain ⟨p, hp, q, hqs, e⟩ := e
      split at e
      · rename_i c
        rw [Bool.and_eq_true] at c
        cases e
        exact op_notInD hu pins s σ H _ _ v u Q I rx ry ⟨p, q, dp_of sm ra hp, .lst hq (dps_of sm r1 hqs), c.1, c.2, k⟩
      · cases e
  | str z =>
    cases ra with
    | str w =>
      simp only [inD] at e
      split at e
      · rename_i c hc
        cases e
        have hw : w = ⟨#[c]⟩ := by
          cases w with | mk a => cases a with | mk l => simp at hc; rw [hc]
        refine op_notIn_sign pins s σ H _ _ v u Q I rx ry ⟨c, z, by rw [hw], rfl, k⟩
      · cases e
    | _ => cases e
  | _ => cases e
theorem op_cmpM (hu : X.A.units + 65 < cLine) (o : CmpOp) : OpR X (compareOp o) (rCmp X.K (cmpop (cCmp o))) := by
  cases o with
  | Eq => exact op_eqM (Nat.lt_trans (Nat.lt_succ_self _) hu)
  | NotEq => exact op_neM (Nat.lt_trans (Nat.lt_succ_self _) hu)
  | In => exact op_inM hu
  | NotIn => exact op_ninM hu
  | Lt | LtE | Gt | GtE =>
    intro pins s σ H x y v u Q I rx ry h
    obtain ⟨ρ, S, da, db, r, sm, ra, rb, e, k⟩ := h
    cases ra with
    | int i => cases rb with
      | int j =>
        cases e
        first
          | exact op_lt pins s σ H _ _ v u Q I rx ry ⟨i, j, rfl, rfl, k⟩
          | exact op_le pins s σ H _ _ v u Q I rx ry ⟨i, j, rfl, rfl, k⟩
          | exact op_gt pins s σ H _ _ v u Q I rx ry ⟨i, j, rfl, rfl, k⟩
          | exact op_ge pins s σ H _ _ v u Q I rx ry ⟨i, j, rfl, rfl, k⟩
      | _ => cases e
    | _ => cases e
  | Is =>
    intro pins s σ H x y v u Q I rx ry h
    obtain ⟨ρ, S, da, db, r, sm, ra, rb, e, k⟩ := h
    cases rb with
    | non => refine op_isN pins s σ H _ _ v u Q I rx ry ⟨rfl, ?_⟩; cases ra <;> first | (cases e; exact k) | cases e
    | bl b => cases ra with
      | bl a => cases e; exact op_isBl pins s σ H _ _ v u Q I rx ry ⟨a, b, rfl, rfl, k⟩
      | _ => cases e
    | _ => cases ra <;> cases e
  | IsNot =>
    intro pins s σ H x y v u Q I rx ry h
    obtain ⟨ρ, S, da, db, r, sm, ra, rb, e, k⟩ := h
    cases rb with
    | non => refine op_notN pins s σ H _ _ v u Q I rx ry ⟨rfl, ?_⟩; cases ra <;> first | (cases e; exact k) | cases e
    | bl b => cases ra with
      | bl a => cases e; exact op_notBl pins s σ H _ _ v u Q I rx ry ⟨a, b, rfl, rfl, k⟩
      | _ => cases e
    | _ => cases ra <;> cases e
end
end Tm

set_option Elab.async false
set_option linter.all false
set_option maxRecDepth 100000
set_option maxHeartbeats 4000000
namespace Tm
open PySem PySem.Spec PyProof.Rows L2
section
variable {K : PySem.W.Frag} {ρ : List Addr} {H : Hp} {S : Store}
theorem atI_rep {vs : List V} {ds : List D} (r : Reps K ρ H vs ds) {i : Int} {d : D} (e : atI ds i = some d) : ∃ v, atI vs i = some v ∧ Rep K ρ H v d := by
  unfold atI at e ⊢
  rw [r.length]
  simp only [Option.bind_eq_some_iff] at e ⊢
  obtain ⟨j, h1, h2⟩ := e
  obtain ⟨v, h3, h4⟩ := r.get h2
  exact ⟨v, ⟨j, h1, h3⟩, h4⟩
theorem cut_rep {vs : List V} {ds : List D} (r : Reps K ρ H vs ds) (lo hi : Option Int) : Reps K ρ H (cutV vs lo hi) (cutD ds lo hi) := by
  unfold cutV cutD
  rw [r.length]
  exact (r.drop _).take _
theorem intsD_rep : ∀ {vs : List V} {ds : List D} {is : List Int}, Reps K ρ H vs ds → intsD ds = some is → vs = is.map V.int
  | _, _, is, .nil, h => by simp [intsD] at h; subst h; rfl
  | _, _, is, .cons (d := d) r t, h => by
    cases r <;> simp only [intsD, Option.map_eq_some_iff, reduceCtorEq] at h
    obtain ⟨js, h1, rfl⟩ := h
    rw [intsD_rep t h1]; rfl
theorem blsD_rep : ∀ {vs : List V} {ds : List D} {is : List Bool}, Reps K ρ H vs ds → blsD ds = some is → vs = is.map V.bl
  | _, _, is, .nil, h => by simp [blsD] at h; subst h; rfl
  | _, _, is, .cons (d := d) r t, h => by
    cases r <;> simp only [blsD, Option.map_eq_some_iff, reduceCtorEq] at h
    obtain ⟨js, h1, rfl⟩ := h
    rw [blsD_rep t h1]; rfl
end
/-- o[i] -/
def rIxM (K : PySem.W.Frag) : R2 := fun v w H Q => ∃ (ρ : List Addr) (S : Store) (a b d : D), Sim K ρ S H ∧ Rep K ρ H v a ∧ Rep K ρ H w b ∧ idxop a b S = some d ∧ ∀ x, Rep K ρ H x d → Q x H
/-- o[lo:hi] -/
def rSlM (K : PySem.W.Frag) : V → Option Int → Option Int → Hp → VK → Prop := fun v lo hi H Q => ∃ (ρ : List Addr) (S : Store) (a d : D) (S' : Store), Sim K ρ S H ∧ Rep K ρ H v a ∧ slcop a lo hi S = some (d, S') ∧ Aft K ρ H S' d Q
/-- a call by the machine's own f -/
def rCall (K : PySem.W.Frag) (f : List D → Store → Option (D × Store)) : List V → Hp → VK → Prop := fun vs H Q => ∃ (ρ : List Addr) (S : Store) (ds : List D) (d : D) (S' : Store), Sim K ρ S H ∧ Reps K ρ H vs ds ∧ f ds S = some (d, S') ∧ Aft K ρ H S' d Q
section
variable {X : Cx}
theorem ix_M : IxR X (rIxM X.K) := by
  intro ve se pins s σ H x y v u Q I rx ry h hs
  obtain ⟨ρ, S, a, b, d, sm, ra, rb, e, k⟩ := h
  cases rb with
  | int i =>
    cases ra with
    | tup h1 r1 =>
      obtain ⟨z, hz, rz⟩ := atI_rep r1 e
      exact ix_tup ve se pins s σ H _ _ v u Q I rx ry ⟨_, _, i, z, rfl, rfl, h1, hz, k z rz⟩ hs
    | ref h1 =>
      simp only [idxop, Option.bind_eq_some_iff] at e
      obtain ⟨ys, hl, e⟩ := e
      obtain ⟨vs, hq, r1⟩ := sm.list hl h1
      obtain ⟨z, hz, rz⟩ := atI_rep r1 e
      exact ix_list ve se pins s σ H _ _ v u Q I rx ry ⟨_, _, i, z, rfl, rfl, hq, hz, k z rz⟩ hs
    | str z =>
      simp only [idxop] at e
      split at e
      · rename_i c
        simp only [Option.map_eq_some_iff] at e
        obtain ⟨ch, hc, rfl⟩ := e
        exact ix_str ve se pins s σ H _ _ v u Q I rx ry ⟨z, i, ch, rfl, rfl, c, hc, k _ (.str _)⟩ hs
      · cases e
    | _ => cases e
  | _ => cases ra <;> cases e
theorem sl_M : SlR X (rSlM X.K) := by
  intro pins s σ H x v vl vu lo hi sl Q I rx hs pl pu h
  obtain ⟨ρ, S, a, d, S', sm, ra, e, k⟩ := h
  cases ra with
  | tup h1 r1 =>
    cases e
    refine sl_tupA pins s σ H _ v vl vu lo hi sl Q I rx hs pl pu ⟨_, _, rfl, h1, fun z => ?_, fun _ p hp => k.tup sm (cut_rep r1 lo hi) hp⟩
    refine k.here sm (.tup h1 ?_)
    have q := cut_rep r1 lo hi
    unfold cutV at q
    rw [z.2, z.1] at q
    simpa using q
  | ref h1 =>
    simp only [slcop, Option.map_eq_some_iff] at e
    obtain ⟨ys, hl, e⟩ := e
    cases e
    obtain ⟨vs, hq, r1⟩ := sm.list hl h1
    exact sl_list pins s σ H _ v vl vu lo hi sl Q I rx hs pl pu ⟨_, vs, rfl, hq, fun p hp => k.lst sm (cut_rep r1 lo hi) hp⟩
  | str z =>
    obtain ⟨c, e⟩ := okI_some e
    cases e
    exact sl_str pins s σ H _ v vl vu lo hi sl Q I rx hs pl pu ⟨z, rfl, of_decide_eq_true c, k.here sm (.str _)⟩
  | _ => cases e

/-! ## built-in functions -/
def biVal : Bi → Value
  | .len => .builtin "len" | .int => .type "int" | .abs => .builtin "abs" | .max => .builtin "max" | .min => .builtin "min" | .tuple => .type "tuple" | .list => .type "list"
  | .str => .type "str" | .repr => .builtin "repr" | .sum => .builtin "sum" | .all => .builtin "all" | .any => .builtin "any"
mutual
theorem dp_nodict {K : PySem.W.Frag} {H : Hp} : ∀ {v : V} {d : PyData}, Dp K H v d → d.hasDict = false
  | _, _, .non => rfl
  | _, _, .bl _ => rfl
  | _, _, .int _ => rfl
  | _, _, .str _ => rfl
  | _, _, .lst _ r => by unfold PyData.hasDict; exact dps_nodict r
  | _, _, .tup _ r => by unfold PyData.hasDict; exact dps_nodict r
theorem dps_nodict {K : PySem.W.Frag} {H : Hp} : ∀ {v : List V} {d : List PyData}, DpAll K H v d → PyData.hasDictAll d = false
  | _, _, .nil => rfl
  | _, _, .cons r t => by unfold PyData.hasDictAll; rw [dp_nodict r, dps_nodict t]; rfl
end
theorem cr_M (hc : X.calm = true) (hg : X.A.guards = some []) (hu : X.A.units + 200 < cLine) (b : Bi) : CallR X (biVal b) (rCall X.K (biop b)) := by
  intro pins s σ H xs us Q I r h
  obtain ⟨ρ, S, ds, d, S', sm, rs, e, k⟩ := h
  cases rs with
  | nil => cases b <;> cases e
  | cons r1 t1 =>
    cases t1 with
    | nil =>
      cases b with
      | len =>
        cases r1 with
        | tup h1 q1 => cases e; exact call_len_seq pins s σ H _ us Q I r ⟨_, _, rfl, .inr h1, by rw [q1.length]; exact k.here sm (.int _)⟩
        | ref h1 =>
          simp only [biop, Option.map_eq_some_iff] at e
          obtain ⟨ys, hl, e⟩ := e
          cases e
          obtain ⟨vs, hq, q1⟩ := sm.list hl h1
          exact call_len_seq pins s σ H _ us Q I r ⟨_, _, rfl, .inl hq, by rw [q1.length]; exact k.here sm (.int _)⟩
        | str z =>
          obtain ⟨c, e⟩ := okI_some e
          cases e
          exact call_len_str pins s σ H _ us Q I r ⟨z, rfl, of_decide_eq_true c, k.here sm (.int _)⟩
        | _ => cases e
      | int =>
        cases r1 with
        | int i => cases e; exact call_int1 pins s σ H _ us Q I r (.inl ⟨i, rfl, k.here sm (.int _)⟩)
        | bl b => cases e; exact call_int1 pins s σ H _ us Q I r (.inr ⟨b, rfl, k.here sm (.int _)⟩)
        | str z =>
          simp only [biop] at e
          split at e
          · rename_i n hn
            obtain ⟨c, e⟩ := okI_some e
            cases e
            exact call_int_str pins s σ H _ us Q I r ⟨z, n, rfl, hn, of_decide_eq_true c, k.here sm (.int _)⟩
          · cases e
        | _ => cases e
      | abs =>
        cases r1 with
        | int i => cases e; exact call_abs pins s σ H _ us Q I r ⟨i, rfl, k.here sm (.int _)⟩
        | _ => cases e
      | max => cases r1 <;> cases e
      | min => cases r1 <;> cases e
      | tuple =>
        cases r1 with
        | tup h1 q1 => cases e; exact call_tuple_of pins s σ H _ us Q I r ⟨_, _, rfl, .inr ⟨h1, k.here sm (.tup h1 q1)⟩⟩
        | ref h1 =>
          simp only [biop, Option.map_eq_some_iff] at e
          obtain ⟨ys, hl, e⟩ := e
          cases e
          obtain ⟨vs, hq, q1⟩ := sm.list hl h1
          exact call_tuple_of pins s σ H _ us Q I r ⟨_, _, rfl, .inl ⟨hq, fun p hp => k.tup sm q1 hp⟩⟩
        | _ => cases e
      | list =>
        cases r1 with
        | tup h1 q1 => cases e; exact call_list_of pins s σ H _ us Q I r ⟨_, _, rfl, .inr h1, fun p hp => k.lst sm q1 hp⟩
        | ref h1 =>
          simp only [biop, Option.map_eq_some_iff] at e
          obtain ⟨ys, hl, e⟩ := e
          cases e
          obtain ⟨vs, hq, q1⟩ := sm.list hl h1
          exact call_list_of pins s σ H _ us Q I r ⟨_, _, rfl, .inl hq, fun p hp => k.lst sm q1 hp⟩
        | _ => cases e
      | str =>
        cases r1 with
        | int i =>
          obtain ⟨c, e⟩ := okI_some e
          cases e
          exact call_str_int pins s σ H _ us Q I r ⟨i, rfl, of_decide_eq_true c, k.here sm (.str _)⟩
        | _ => cases e
      | sum =>
        cases r1 with
        | ref h1 =>
          simp only [biop, Option.bind_eq_some_iff, Option.map_eq_some_iff] at e
          obtain ⟨ys, hl, is, hi, e⟩ := e
          cases e
          obtain ⟨vs, hq, q1⟩ := sm.list hl h1
          rw [intsD_rep q1 hi] at hq
          exact cr_sum hc pins s σ H _ us Q I r ⟨_, is, rfl, hq, k.here sm (.int _)⟩
        | _ => cases e
      | all =>
        cases r1 with
        | ref h1 =>
          simp only [biop, Option.bind_eq_some_iff, Option.map_eq_some_iff] at e
          obtain ⟨ys, hl, is, hi, e⟩ := e
          cases e
          obtain ⟨vs, hq, q1⟩ := sm.list hl h1
          rw [blsD_rep q1 hi] at hq
          exact cr_all hc pins s σ H _ us Q I r ⟨_, is, rfl, hq, k.here sm (.bl _)⟩
        | _ => cases e
      | any =>
        cases r1 with
        | ref h1 =>
          simp only [biop, Option.bind_eq_some_iff, Option.map_eq_some_iff] at e
          obtain ⟨ys, hl, is, hi, e⟩ := e
          cases e
          obtain ⟨vs, hq, q1⟩ := sm.list hl h1
          rw [blsD_rep q1 hi] at hq
          exact cr_any hc pins s σ H _ us Q I r ⟨_, is, rfl, hq, k.here sm (.bl _)⟩
        | _ => cases e
      | repr =>
        simp only [biop, Option.bind_eq_some_iff] at e
        obtain ⟨x, hx, e⟩ := e
        split at e
        · rename_i c
          simp only [Bool.and_eq_true, decide_eq_true_eq] at c
          cases e
          have hd := dp_of sm r1 hx
          have far : ∀ {a : Addr} {u : Value}, RelV (.ref a) u → Dp X.K H (.ref a) x → wpAny (model X.prog X.w) X.A (call (.builtin "repr") [u]) (EP X pins σ Q) X.xe s := fun {a u} ru hd => by
            obtain ⟨as, rd⟩ := Dp.reads I _ _ _ hd ru
            cases ru
            exact repr_of_reads' rd c.1.1 (fun z => by rw [dp_nodict hd] at z; cases z) hg (by have := c.1.2; omega) (fun _ _ e => e)
              (fun h' tk t' hk => ⟨.str x.shown, H, I.kept (t' := t') hk, ⟨tk, rfl⟩, k.here sm (.str _)⟩) c.2
          cases r with
          | cons ru rt =>
            cases rt
            cases r1 with
            | non =>
              cases ru
              simp only [pdG, Option.some.injEq] at hx
              subst hx
              exact PySem.P.repr_of_none ⟨.str _, H, I.tok _, ⟨_, rfl⟩, k.here sm (.str _)⟩
            | bl b =>
              cases ru
              simp only [pdG, Option.some.injEq] at hx
              subst hx
              exact PySem.P.repr_of_bool ⟨.str _, H, I.tok _, ⟨_, rfl⟩, k.here sm (.str _)⟩
            | int i =>
              obtain ⟨t, rfl⟩ := ru
              simp only [pdG, Option.some.injEq] at hx
              subst hx
              exact PySem.P.repr_of_int (of_decide_eq_true c.1.1) ⟨.str _, H, I.tok _, ⟨_, rfl⟩, k.here sm (.str _)⟩
            | str z =>
              obtain ⟨t, rfl⟩ := ru
              simp only [pdG, Option.some.injEq] at hx
              subst hx
              exact PySem.P.repr_of_str (hsz := c.2) ⟨.str _, H, I.tok _, ⟨_, rfl⟩, k.here sm (.str _)⟩
            | tup h1 q1 => exact far ru hd
            | ref h1 => exact far ru hd
            | fn h1 => simp only [pdG] at hx; cases hx
        · cases e
    | cons r2 t2 =>
      cases t2 with
      | nil =>
        cases b with
        | max =>
          cases r1 with
          | int i => cases r2 with
            | int j => cases e; exact call_max2 hc pins s σ H _ us Q I r ⟨i, j, rfl, k.here sm (.int _)⟩
            | _ => cases e
          | _ => cases e
        | min =>
          cases r1 with
          | int i => cases r2 with
            | int j => cases e; exact call_min2 hc pins s σ H _ us Q I r ⟨i, j, rfl, k.here sm (.int _)⟩
            | _ => cases e
          | _ => cases e
        | _ => simp [biop] at e
      | cons _ _ => cases b <;> simp [biop] at e
end
end Tm

set_option Elab.async false
set_option linter.all false
set_option maxRecDepth 100000
set_option maxHeartbeats 4000000
namespace Tm
open PySem PySem.Spec PyProof.Rows L2

/-! ## a def's promise where no text of an object is under way -/
structure FnG (P : Program) (w : World) (K : PySem.W.Frag) (mg : Str → Option Value) (base : Heap) (k : Nat) (f : Addr) (fd : FuncData) (ps : List Str) (sp : Sp) : Prop where
  many : ∀ vs H Q, sp vs H Q E0 → vs.length = ps.length
  go : ∀ (B : Around) (out : List Env) (t : Shared) (H : Hp) (as : Args) (us : List Value) (vs : List V) (Q : VK), Room k B → B.guards = some [] → Env0 P w K mg base B out t H →
    BindsTo t fd as (ps.zip us) → Vals vs us → sp vs H Q E0 → codeAny (model P w) B (.call (.ref f) as) (CR CX0 out P w H t Q E0) t
/-- the body of a def: its term and what it asks -/
theorem fnG_of {P : Program} {w : World} {K : PySem.W.Frag} {mg : Str → Option Value} {base : Heap} {k : Nat} {x qual : Str} {st : Stmt} {f : Addr} {fd : FuncData} {N ps : List Str} {sp : Sp}
    (F : Fun K x qual st f fd) (S : FnScope N ps (defScope st)) (many : ∀ vs H Q, sp vs H Q E0 → vs.length = ps.length)
    (body : ∀ (cdv : Value) (B : Around) (out : List Env) (t : Shared) (H : Hp) (vs : List V) (Q : VK), Room k (B.deeper (envOfC qual (defScope st) t.heap.objs.size f cdv)) → B.guards = some [] → sp vs H Q E0 →
      ∃ r, PSs (cxOf CX0 P w K mg base N qual (defScope st) f cdv B out t H E0).nox (defBody st) r ∧ r { nx := fun _ H' => Q .non H', rt := Q } (start N vs) H) : FnG P w K mg base (k + 1) f fd ps sp := by
  obtain ⟨oc, od, kV, doc, pm, an, cdv, ct, osl, hfd, lk, hcd⟩ := F.ex
  subst hfd
  refine ⟨many, fun B out t H as us vs Q room gd e0 bd rel h => ?_⟩
  have hlen := many _ _ _ h
  have kin : K.In t.heap := e0.mod.kin.keeps (fun b o e => (e0.bs b o e).1)
  have nolim : t.heap.NoLimit := e0.mod.nolimit.keeps (fun b o e => (e0.bs b o e).1)
  have kinds : ∀ y ∈ ps.zip us, (defScope st).names.lookup y.1 = some .local ∨ ((defScope st).names.lookup y.1 = some .cell ∧ ((cellsFrom (t.heap.objs.size + 1) (defScope st).names []).lookup y.1).isSome = true) := by
    rintro ⟨n, v⟩ hy
    rcases S.par n (List.of_mem_zip hy).1 with q | q
    · left; exact q
    · right; exact ⟨q, PySem.W.cellsFrom_some _ _ _ (Or.inl q)⟩
  apply codeAny_call_function room.depth (kin _ _ lk) rfl S.co S.gen rfl (PySem.W.codeRec_of kin hcd)
  apply bd
  apply wpAny_newFunctionEnv_cells S.kind kinds
  intro env he t1 ic
  subst he
  refine ⟨nolim.keeps ic.toInCall.keep, ?_⟩
  apply codeAny_func
  obtain ⟨r, hr, hq⟩ := body cdv B out t H vs Q (room.deeper _) gd h
  have J := inv_start (CX := CX0) (E := E0) S room.hd e0 hlen rel ic
  have fin : ∀ {σ' : L2.St} {H' : Hp} {v : V} {u : Value} {t' : Shared}, Inv (cxOf CX0 P w K mg base N qual (defScope st) f cdv B out t H E0) [] σ' H' t' → RelV v u → Q v H' → CE out P w H t Q u t' := by
    intro σ' H' v u t' J rv q
    exact ⟨v, H', J.os, J.bare, J.base, J.hok, rv, q⟩
  apply wpAny_mono (hr.nox.run [] t1 _ H _ J hq)
  · intro fl t' hs
    match fl, hs with
    | .ret u, ⟨v, σ', H', J', rv, q⟩ => exact fin J' rv q
    | .next, ⟨σ', H', J', q⟩ => exact fin (v := V.non) (u := Value.none) J' rfl q
    | .brk, ⟨_, _, _, q⟩ => exact q.elim
    | .cont, ⟨_, _, _, q⟩ => exact q.elim
  · exact fun e t' hs => hs
section
variable {X : Cx} {k : Nat} {f : Addr} {fd : FuncData} {ps : List Str} {sp : Sp}
/-- a call of such a def, its arguments bound -/
theorem callG {pins : List (Addr × Obj)} {σ : L2.St} {H : Hp} {t : Shared} {Q : VK} {us : List Value} {kw : List (Str × Value)} {bs : List Value} {vs : List V} (F : FnG X.prog X.w X.K X.mg X.base k f fd ps sp) (room : Room k X.A) (gd : X.A.guards = some [])
    (bd : BindsTo t fd ⟨us, kw⟩ (ps.zip bs)) (I : Inv X pins σ H t) (rel : Vals vs bs) (h : sp vs H Q E0) : wpAny (model X.prog X.w) X.A (call (.ref f) us kw) (EP X pins σ Q) X.xe t := by
  apply wpAny_call
  apply codeAny_mono (F.go X.A X.stack t H ⟨us, kw⟩ bs vs Q room gd I.env0 bd rel h)
  intro res t' hq
  match res, hq with
  | .ok (.ret u), hq => exact I.after hq
end
end Tm

set_option Elab.async false
set_option linter.all false
set_option maxRecDepth 100000
set_option maxHeartbeats 4000000
namespace Tm
open PySem PySem.Spec PyProof.Rows L2

/-! ## the machine's runs as readings -/
def EnvR (K : PySem.W.Frag) (ρ : List Addr) (H : Hp) (e : Env') (σ : L2.St) : Prop := e.length = σ.length ∧ ∀ (i : Nat) (d : D), e[i]? = some (some d) → ∃ v, σ[i]? = some (some v) ∧ Rep K ρ H v d
theorem EnvR.mono {K : PySem.W.Frag} {ρ ρ' : List Addr} {H H' : Hp} {e : Env'} {σ : L2.St} (h : EnvR K ρ H e σ) (p : Pre ρ ρ') (g : Gro H H') : EnvR K ρ' H' e σ :=
  ⟨h.1, fun i d q => let ⟨v, a, r⟩ := h.2 i d q; ⟨v, a, r.mono g p⟩⟩
def tE (p : Pm) (K : PySem.W.Frag) (c : C) : TE := fun σ H Q => ∃ (ρ : List Addr) (S : Store) (e : Env') (x : D × Store), Sim K ρ S H ∧ EnvR K ρ H e σ ∧ ev p c e S = some x ∧ Aft K ρ H x.2 x.1 Q
def AftA (K : PySem.W.Frag) (ρ : List Addr) (H : Hp) (S' : Store) (ds : List D) (Q : List V → Hp → Prop) : Prop :=
  ∀ (ρ' : List Addr) (H' : Hp) (vs : List V), Pre ρ ρ' → Gro H H' → Sim K ρ' S' H' → Reps K ρ' H' vs ds → Q vs H'
def tA (p : Pm) (K : PySem.W.Frag) (c : C) : TA := fun σ H Q => ∃ (ρ : List Addr) (S : Store) (e : Env') (ds : List D) (S' : Store), Sim K ρ S H ∧ EnvR K ρ H e σ ∧ ev p c e S = some (.tup ds, S') ∧ AftA K ρ H S' ds Q
def AftT (K : PySem.W.Frag) (ρ : List Addr) (H : Hp) (S' : Store) (b : Bool) (Q : Bool → Hp → Prop) : Prop :=
  ∀ (ρ' : List Addr) (H' : Hp), Pre ρ ρ' → Gro H H' → Sim K ρ' S' H' → Q b H'
def tTs (p : Pm) (K : PySem.W.Frag) (c : C) : TT := fun σ H Q => ∃ (ρ : List Addr) (S : Store) (e : Env') (b : Bool) (S' : Store), Sim K ρ S H ∧ EnvR K ρ H e σ ∧ ev p c e S = some (.bl b, S') ∧ AftT K ρ H S' b Q
def tO' (p : Pm) (K : PySem.W.Frag) (c : C) : TO := fun σ H Q => ∃ (ρ : List Addr) (S : Store) (e : Env') (x : Option Int × Store), Sim K ρ S H ∧ EnvR K ρ H e σ ∧ part (isAbs c) S (ev p c e S) = some x ∧
  ∀ (ρ' : List Addr) (H' : Hp), Pre ρ ρ' → Gro H H' → Sim K ρ' x.2 H' → Q x.1 H'
/-- what a walk of the items is -/
def ItOk (K : PySem.W.Frag) (ρ : List Addr) (H : Hp) (items cks : List D) (J : It) : Prop :=
  ∀ (ρ2 : List Addr) (S2 : Store) (H2 : Hp), Pre ρ ρ2 → Gro H H2 → Sim K ρ2 S2 H2 → chks S2 cks = true →
    ∀ i : Nat, (i = items.length → J.stop i H2) ∧ ∀ d, items[i]? = some d → J.go i H2 ∧ ∀ x H3, J.yld i H2 x H3 → Gro H2 H3 ∧ Sim K ρ2 S2 H3 ∧ Rep K ρ2 H3 x d
def tI (p : Pm) (K : PySem.W.Frag) (c : C) : TI := fun σ H R => ∃ (ρ : List Addr) (S : Store) (e : Env') (items cks : List D) (S' : Store), Sim K ρ S H ∧ EnvR K ρ H e σ ∧ ev p c e S = some (itD items cks, S') ∧
  ∀ (ρ' : List Addr) (H' : Hp) (J : It), Pre ρ ρ' → Gro H H' → Sim K ρ' S' H' → ItOk K ρ' H' items cks J → R J H'

theorem PE.imp {X : Cx} {e : Expr} {t t' : TE} (h : PE X e t) (f : ∀ σ H Q, t' σ H Q → t σ H Q) : PE X e t' := ⟨fun pins s σ H Q I q => h.run pins s σ H Q I (f σ H Q q)⟩
theorem PT.imp {X : Cx} {e : Expr} {t t' : TT} (h : PT X e t) (f : ∀ σ H Q, t' σ H Q → t σ H Q) : PT X e t' := ⟨fun pins s σ H Q I q => h.run pins s σ H Q I (f σ H Q q)⟩
theorem PW.imp {X : Cx} {e : Expr} {t t' : TT} (h : PW X e t) (f : ∀ σ H Q, t' σ H Q → t σ H Q) : PW X e t' := ⟨fun wh pins s σ H Q I q => h.run wh pins s σ H Q I (f σ H Q q)⟩
theorem PA.imp {X : Cx} {e : List Expr} {t t' : TA} (h : PA X e t) (f : ∀ σ H Q, t' σ H Q → t σ H Q) : PA X e t' := ⟨fun pos pins s σ H Q I q => h.run pos pins s σ H Q I (f σ H Q q)⟩
theorem PO.imp {X : Cx} {e : Option Expr} {t t' : TO} (h : PO X e t) (f : ∀ σ H Q, t' σ H Q → t σ H Q) : PO X e t' := ⟨fun pins s σ H Q I q => h.run pins s σ H Q I (f σ H Q q)⟩
theorem PI.imp {X : Cx} {tg e : Expr} {t t' : TI} (h : PI X tg e t) (f : ∀ σ H Q, t' σ H Q → t σ H Q) : PI X tg e t' := ⟨fun pins s σ H Q I q => h.run pins s σ H Q I (f σ H Q q)⟩

/-! ## one step after another -/
section
variable {p : Pm} {K : PySem.W.Frag} {ρ : List Addr} {S : Store} {H : Hp} {e : Env'} {σ : L2.St} {a b : C} {x y : D × Store}
theorem st1 (sm : Sim K ρ S H) (en : EnvR K ρ H e σ) (ha : ev p a e S = some x) {Q : VK} (k : ∀ (ρ' : List Addr) (H' : Hp) (v : V), Pre ρ ρ' → Gro H H' → Sim K ρ' x.2 H' → EnvR K ρ' H' e σ → Rep K ρ' H' v x.1 → Q v H') : tE p K a σ H Q :=
  ⟨ρ, S, e, x, sm, en, ha, fun ρ' H' v p1 g1 s1 r1 => k ρ' H' v p1 g1 s1 (en.mono p1 g1) r1⟩
theorem st2 (sm : Sim K ρ S H) (en : EnvR K ρ H e σ) (ha : ev p a e S = some x) (hb : ev p b e x.2 = some y) {R : V → V → Hp → Prop}
    (k : ∀ (ρ' : List Addr) (H' : Hp) (v w : V), Pre ρ ρ' → Gro H H' → Sim K ρ' y.2 H' → EnvR K ρ' H' e σ → Rep K ρ' H' v x.1 → Rep K ρ' H' w y.1 → R v w H') : tE p K a σ H fun v H1 => tE p K b σ H1 fun w H2 => R v w H2 :=
  st1 sm en ha fun ρ1 H1 v p1 g1 s1 e1 r1 => st1 s1 e1 hb fun ρ2 H2 w p2 g2 s2 e2 r2 => k ρ2 H2 v w (p1.trans p2) (g1.trans g2) s2 e2 (r1.mono g2 p2) r2
theorem stT (sm : Sim K ρ S H) (en : EnvR K ρ H e σ) {q : Bool} {S' : Store} (ha : ev p a e S = some (.bl q, S')) {Q : Bool → Hp → Prop} (k : ∀ (ρ' : List Addr) (H' : Hp), Pre ρ ρ' → Gro H H' → Sim K ρ' S' H' → EnvR K ρ' H' e σ → Q q H') : tTs p K a σ H Q :=
  ⟨ρ, S, e, q, S', sm, en, ha, fun ρ' H' p1 g1 s1 => k ρ' H' p1 g1 s1 (en.mono p1 g1)⟩
end

/-! ## what the context of a body must be -/
/-- what all of the machine's functions ask: as many arguments as parameters -/
def Arity (R : Nat → List D → Store → Option (D × Store)) (f n : Nat) : Prop := ∀ ds S x, R f ds S = some x → ds.length = n
/-- what a def of the machine promises -/
def spR (K : PySem.W.Frag) (n : Nat) (f : List D → Store → Option (D × Store)) : Sp := fun vs H Q _ => vs.length = n ∧ rCall K f vs H Q
structure GMat (P : Program) (w : World) (K : PySem.W.Frag) (mg : Str → Option Value) (base : Heap) (p : Pm) (G : Gx) (k : Nat) : Prop where
  funs : ∀ (x : Str) (f : Nat) (ps : List Str), G.funs.lookup x = some (f, ps) → ∃ (a : Addr) (fd : FuncData), mg x = some (.ref a) ∧ PySem.W.keepIn K (.ref a) = true ∧ FnG P w K mg base k a fd ps (spR K ps.length (p.R f)) ∧ Binds K fd ps [] ∧
    ∀ q ∈ G.kws, q.1 = x → ∀ (t : Shared) (us ws : List Value), us.length = q.2.1 → ws.length = q.2.2.1.length → BindsTo t fd ⟨us, q.2.2.1.zip ws⟩ (ps.zip (pick q.2.2.2 (us ++ ws)))
  cons : ∀ (x : Str) (g : Nat), G.cons.lookup x = some g → ∃ (u : Value) (v : V), mg x = some u ∧ RelV v u ∧ ∀ ρ H, Rep K ρ H v (p.gl g)
  dics : ∀ (x : Str) (g : Nat), G.dics.lookup x = some g → ∃ (a : Addr) (es : Array DictEntry) (n : Nat), mg x = some (.ref a) ∧ KDict K w a es n ∧
    ∀ z : Str, match lookK (p.kd g) z with
      | none => PySem.W.nsIn K a z = some none
      | some d => ∃ (u : Value) (v : V), PySem.W.nsIn K a z = some (some u) ∧ RelV v u ∧ ∀ ρ H, Rep K ρ H v d
  blt : ∀ x : Str, G.blt.contains x = true → mg x = none
  ar : ∀ (x : Str) (f : Nat) (ps : List Str), G.funs.lookup x = some (f, ps) → Arity p.R f ps.length
  fnv : ∀ (x : Str) (a : Addr), PySem.W.nsIn K mainGlobals x = some (some (.ref a)) → mg x = some (.ref a)
  fxs : ∀ (x : Str) (i : Nat), p.fx x = some i → ∃ ps, G.funs.lookup x = some (i, ps)
structure Mat (X : Cx) (p : Pm) (c : Cc) (k : Nat) : Prop where
  hN : X.N = c.N
  nd : c.N.Nodup
  sc : X.env.scope.names = c.names
  kind : X.env.scope.kind = .function
  calm : X.calm = true
  gd : X.A.guards = some []
  room : Room k X.A
  xe : X.xe = fun _ _ => False
  fn : ∀ x : Str, c.fnOk x = true → X.fn x = true ∨ X.env.scope.names.lookup x = some .local
  glob : GMat X.prog X.w X.K X.mg X.base p c.G k
section
variable {X : Cx} {p : Pm} {c : Cc} {k : Nat} {e : Expr}
theorem Mat.hu (M : Mat X p c k) : X.A.units + 200 < cLine := by have := M.room.un; omega
theorem Mat.vis (M : Mat X p c k) {x : Str} (h : visB c x = true) : Vis X.env.scope x := by
  unfold Vis
  rw [M.sc]
  unfold visB at h
  split at h <;> first | (exact .inl (by assumption)) | (exact .inr (.inl (by assumption))) | (exact .inr (.inr (by assumption))) | cases h
theorem Mat.loc (M : Mat X p c k) {x : Str} (h : locB c x = true) : L2.Loc X.env.scope x ∧ (X.fn x = true ∨ X.env.scope.names.lookup x = some .local) := by
  unfold locB at h
  rw [Bool.and_eq_true] at h
  refine ⟨?_, M.fn x h.2⟩
  unfold L2.Loc
  rw [M.sc]
  have h1 := h.1
  split at h1 <;> first | (exact .inl (by assumption)) | (exact .inr (by assumption)) | cases h1
theorem Mat.gl (M : Mat X p c k) {x : Str} (h : glB c x = true) : Gl X x ∧ badName x = false := by
  unfold glB at h
  split at h
  · rename_i q
    refine ⟨?_, by simpa using h⟩
    unfold Gl Env.kindOf
    rw [M.sc]
    exact q
  · cases h
theorem Mat.bl (M : Mat X p c k) {x : Str} (h : bltB c x = true) : Gl X x ∧ X.mg x = none ∧ badName x = false := by
  unfold bltB at h
  rw [Bool.and_eq_true] at h
  exact ⟨(M.gl h.1).1, M.glob.blt x h.2, (M.gl h.1).2⟩
theorem bad3 {x : Str} (h : badName x = false) : (x == ("__debug__" : Str)) = false ∧ (x == ("__classdict__" : Str)) = false ∧ x ≠ ("__name__" : Str) := by
  unfold badName at h
  simp only [Bool.or_eq_false_iff] at h
  exact ⟨h.1.1, h.1.2, fun z => by rw [z] at h; exact absurd h.2 (by decide)⟩
theorem none_bad {e : Env'} {S : Store} {x : D × Store} (h : ev p .bad e S = some x) : False := by simp [ev] at h
theorem k_bad : PE X e (tE p X.K .bad) := ⟨fun _ _ _ _ _ _ h => by obtain ⟨_, _, _, _, _, _, h, _⟩ := h; exact (none_bad h).elim⟩
theorem k_badT : PT X e (tTs p X.K .bad) := ⟨fun _ _ _ _ _ _ h => by obtain ⟨_, _, _, _, _, _, _, h, _⟩ := h; exact (none_bad h).elim⟩
theorem k_badW : PW X e (tTs p X.K .bad) := ⟨fun _ _ _ _ _ _ _ h => by obtain ⟨_, _, _, _, _, _, _, h, _⟩ := h; exact (none_bad h).elim⟩
theorem k_name (M : Mat X p c k) {x : Str} {pos : Pos} : PE X (.Name x pos) (tE p X.K (cName c x)) := by
  unfold cName
  split
  · exact k_bad
  · rename_i hb
    obtain ⟨b1, b2, b3⟩ := bad3 (by simpa using hb)
    split
    · rename_i hv
      split
      · rename_i i hi
        refine PE.imp (pe_var (i := i) (by rw [M.hN]; exact ixOf_get hi) (M.vis hv) b1 b2) fun σ H Q h => ?_
        obtain ⟨ρ, S, e, x, sm, en, h, q⟩ := h
        simp only [ev] at h
        split at h
        · rename_i d hd
          cases h
          obtain ⟨v, h1, r⟩ := en.2 i d hd
          exact ⟨v, h1, q.here sm r⟩
        · cases h
      · exact k_bad
    · split
      · rename_i hg
        split
        · rename_i g hc
          obtain ⟨u, v, h1, h2, h3⟩ := M.glob.cons x g hc
          refine PE.imp (pe_glob (M.gl hg).1 h1 h2 b1) fun σ H Q h => ?_
          obtain ⟨ρ, S, e, x, sm, en, h, q⟩ := h
          simp only [ev, Option.some.injEq] at h
          subst h
          exact q.here sm (h3 ρ H)
        · exact k_bad
      · exact k_bad
theorem k_const {kc : Const} {j : Nat} {pos : Pos} : PE X (.Constant kc j pos) (tE p X.K (cConst kc)) := by
  cases kc with
  | none => refine PE.imp pe_non fun σ H Q h => ?_; obtain ⟨ρ, S, e, x, sm, en, h, q⟩ := h; simp only [cConst, ev, isScal, if_true, Option.some.injEq] at h; subst h; exact q.here sm .non
  | bool b => refine PE.imp pe_bl fun σ H Q h => ?_; obtain ⟨ρ, S, e, x, sm, en, h, q⟩ := h; simp only [cConst, ev, isScal, if_true, Option.some.injEq] at h; subst h; exact q.here sm (.bl b)
  | int b => refine PE.imp pe_int fun σ H Q h => ?_; obtain ⟨ρ, S, e, x, sm, en, h, q⟩ := h; simp only [cConst, ev, isScal, if_true, Option.some.injEq] at h; subst h; exact q.here sm (.int b)
  | str b => refine PE.imp pe_str fun σ H Q h => ?_; obtain ⟨ρ, S, e, x, sm, en, h, q⟩ := h; simp only [cConst, ev, isScal, if_true, Option.some.injEq] at h; subst h; exact q.here sm (.str b)
  | _ => exact k_bad
variable {a b d : Expr} {ca cb cd : C} {pos : Pos}
theorem k_bin {o : Operator} {q : Bin} (ho : cBin o = some q) (ha : PE X a (tE p X.K ca)) (hb : PE X b (tE p X.K cb)) : PE X (.BinOp a o b pos) (tE p X.K (.bin q ca cb)) := by
  refine PE.imp (pe_op (op_bin ho) ha hb) fun σ H Q h => ?_
  obtain ⟨ρ, S, e, x, sm, en, h, kq⟩ := h
  simp only [ev, Option.bind_eq_some_iff] at h
  obtain ⟨x1, h1, x2, h2, h3⟩ := h
  exact st2 sm en h1 h2 fun ρ' H' v w p1 g1 s1 e1 r1 r2 => ⟨ρ', x2.2, x1.1, x2.1, x.1, x.2, s1, r1, r2, h3, kq.mono p1 g1⟩
theorem k_neg (ha : PE X a (tE p X.K ca)) : PE X (.UnaryOp .USub a pos) (tE p X.K (.neg ca)) := by
  refine PE.imp (pe_un un_neg ha) fun σ H Q h => ?_
  obtain ⟨ρ, S, e, x, sm, en, h, kq⟩ := h
  simp only [ev, Option.bind_eq_some_iff] at h
  obtain ⟨x1, h1, h2⟩ := h
  refine st1 sm en h1 fun ρ' H' v p1 g1 s1 e1 r1 => ?_
  split at h2
  · rename_i i hi
    cases h2
    rw [hi] at r1
    exact ⟨i, rep_int r1, (kq.mono p1 g1).here s1 (.int _)⟩
  · cases h2
theorem k_notE (ha : PE X a (tE p X.K ca)) : PE X (.UnaryOp .Not a pos) (tE p X.K (.not_ ca)) := by
  refine PE.imp (pe_not ha) fun σ H Q h => ?_
  obtain ⟨ρ, S, e, x, sm, en, h, kq⟩ := h
  simp only [ev, Option.bind_eq_some_iff] at h
  obtain ⟨x1, h1, h2⟩ := h
  refine st1 sm en h1 fun ρ' H' v p1 g1 s1 e1 r1 => ?_
  split at h2
  · rename_i i hi
    cases h2
    rw [hi] at r1
    exact ⟨i, rep_bl r1, (kq.mono p1 g1).here s1 (.bl _)⟩
  · cases h2
theorem noSet {b : Expr} (h : notSet b = true) (op : CmpOp) : behindInMarks op b = false := by
  cases b <;> first | rfl | (simp [notSet] at h; done)
theorem k_cmp (M : Mat X p c k) {o : CmpOp} (hs : notSet b = true) (ha : PE X a (tE p X.K ca)) (hb : PE X b (tE p X.K cb)) : PE X (.Compare a [o] [b] pos) (tE p X.K (.cmp (cCmp o) ca cb)) := by
  refine PE.imp (pe_cmpR (op_cmpM (by have := M.hu; omega) o) ha hb (noSet hs o)) fun σ H Q h => ?_
  obtain ⟨ρ, S, e, x, sm, en, h, kq⟩ := h
  simp only [ev, Option.bind_eq_some_iff, Option.map_eq_some_iff] at h
  obtain ⟨x1, h1, x2, h2, r, h3, h4⟩ := h
  subst h4
  exact st2 sm en h1 h2 fun ρ' H' v w p1 g1 s1 e1 r1 r2 => ⟨ρ', x2.2, x1.1, x2.1, r, s1, r1, r2, h3, (kq.mono p1 g1).here s1 (.bl _)⟩
theorem k_chain (M : Mat X p c k) {o1 o2 : CmpOp} (hs : notSet d = true) (ha : PE X a (tE p X.K ca)) (hb : PE X b (tE p X.K cb)) (hd : PE X d (tE p X.K cd)) :
    PE X (.Compare a [o1, o2] [b, d] pos) (tE p X.K (.chain (cCmp o1) (cCmp o2) ca cb cd)) := by
  have hu : X.A.units + 65 < cLine := by have := M.hu; omega
  refine PE.imp (pe_chain (op_cmpM hu o1) (op_cmpM hu o2) ha hb hd (by simp only [lastMarks]; exact noSet hs o2)) fun σ H Q h => ?_
  obtain ⟨ρ, S, e, x, sm, en, h, kq⟩ := h
  simp only [ev, Option.bind_eq_some_iff] at h
  obtain ⟨x1, h1, x2, h2, r, h3, h4⟩ := h
  refine st2 sm en h1 h2 fun ρ' H' v w p1 g1 s1 e1 r1 r2 => ⟨ρ', x2.2, x1.1, x2.1, r, s1, r1, r2, h3, r, rfl, ?_⟩
  cases r with
  | true =>
    simp only [if_true, Option.bind_eq_some_iff, Option.map_eq_some_iff] at h4 ⊢
    obtain ⟨x3, h5, r', h6, h7⟩ := h4
    subst h7
    exact st1 s1 e1 h5 fun ρ2 H2 z p2 g2 s2 e2 r3 => ⟨ρ2, x3.2, x2.1, x3.1, r', s2, r2.mono g2 p2, r3, h6, (kq.mono (p1.trans p2) (g1.trans g2)).here s2 (.bl _)⟩
  | false =>
    simp only [Bool.false_eq_true, if_false, Option.some.injEq] at h4 ⊢
    subst h4
    exact (kq.mono p1 g1).here s1 (.bl _)
theorem k_and1 {op : BoolOp} (ha : PE X a (tE p X.K ca)) : PE X (.BoolOp op [a] pos) (tE p X.K ca) := pe_one ha
theorem k_and {r : List Expr} (ha : PE X a (tE p X.K ca)) (hb : PE X (.BoolOp .And (b :: r) pos) (tE p X.K cb)) : PE X (.BoolOp .And (a :: b :: r) pos) (tE p X.K (.and_ ca cb)) := by
  refine PE.imp (pe_and ha hb) fun σ H Q h => ?_
  obtain ⟨ρ, S, e, x, sm, en, h, kq⟩ := h
  simp only [ev, Option.bind_eq_some_iff] at h
  obtain ⟨x1, h1, h2⟩ := h
  refine st1 sm en h1 fun ρ' H' v p1 g1 s1 e1 r1 => ?_
  split at h2
  · rename_i hi
    rw [hi] at r1
    refine ⟨true, rep_bl r1, ?_⟩
    exact ⟨ρ', x1.2, e, x, s1, e1, h2, kq.mono p1 g1⟩
  · rename_i hi
    cases h2
    rw [hi] at r1
    exact ⟨false, rep_bl r1, (kq.mono p1 g1).here s1 (.bl _)⟩
  · cases h2
theorem k_or {r : List Expr} (ha : PE X a (tE p X.K ca)) (hb : PE X (.BoolOp .Or (b :: r) pos) (tE p X.K cb)) : PE X (.BoolOp .Or (a :: b :: r) pos) (tE p X.K (.or_ ca cb)) := by
  refine PE.imp (pe_or ha hb) fun σ H Q h => ?_
  obtain ⟨ρ, S, e, x, sm, en, h, kq⟩ := h
  simp only [ev, Option.bind_eq_some_iff] at h
  obtain ⟨x1, h1, h2⟩ := h
  refine st1 sm en h1 fun ρ' H' v p1 g1 s1 e1 r1 => ?_
  split at h2
  · rename_i hi
    cases h2
    rw [hi] at r1
    exact ⟨true, rep_bl r1, (kq.mono p1 g1).here s1 (.bl _)⟩
  · rename_i hi
    rw [hi] at r1
    refine ⟨false, rep_bl r1, ?_⟩
    exact ⟨ρ', x1.2, e, x, s1, e1, h2, kq.mono p1 g1⟩
  · cases h2
theorem k_ife {t : Expr} {ct : C} (ht : PT X t (tTs p X.K ct)) (ha : PE X a (tE p X.K ca)) (hb : PE X b (tE p X.K cb)) : PE X (.IfExp t a b pos) (tE p X.K (.ife ct ca cb)) := by
  refine PE.imp (pe_ifExp ht ha hb) fun σ H Q h => ?_
  obtain ⟨ρ, S, e, x, sm, en, h, kq⟩ := h
  simp only [ev, Option.bind_eq_some_iff] at h
  obtain ⟨x1, h1, h2⟩ := h
  obtain ⟨d1, S1⟩ := x1
  split at h2
  · rename_i hi
    simp only at hi
    subst hi
    refine stT sm en h1 fun ρ' H' p1 g1 s1 e1 => ?_
    exact ⟨ρ', S1, e, x, s1, e1, h2, kq.mono p1 g1⟩
  · rename_i hi
    simp only at hi
    subst hi
    refine stT sm en h1 fun ρ' H' p1 g1 s1 e1 => ?_
    exact ⟨ρ', S1, e, x, s1, e1, h2, kq.mono p1 g1⟩
  · cases h2
/-! ### tests -/
theorem k_tval (ha : PE X e (tE p X.K ca)) (he : ∀ whole, isTrue e X.env whole = (do let v ← whole; standAt e.pos; holding [v] (truthy v))) : PT X e (tTs p X.K ca) := by
  refine PT.imp (pt_val ha he) fun σ H Q h => ?_
  obtain ⟨ρ, S, e, b, S', sm, en, h, kq⟩ := h
  exact st1 sm en h fun ρ' H' v p1 g1 s1 e1 r1 => ⟨b, rep_bl r1, kq ρ' H' p1 g1 s1⟩
theorem k_tcmp (M : Mat X p c k) {o : CmpOp} (hs : notSet b = true) (ha : PE X a (tE p X.K ca)) (hb : PE X b (tE p X.K cb)) : PT X (.Compare a [o] [b] pos) (tTs p X.K (.cmp (cCmp o) ca cb)) := by
  refine PT.imp (pt_cmpR (op_cmpM (by have := M.hu; omega) o) ha hb (noSet hs o)) fun σ H Q h => ?_
  obtain ⟨ρ, S, e, q, S', sm, en, h, kq⟩ := h
  simp only [ev, Option.bind_eq_some_iff, Option.map_eq_some_iff] at h
  obtain ⟨x1, h1, x2, h2, r, h3, h4⟩ := h
  cases h4
  exact st2 sm en h1 h2 fun ρ' H' v w p1 g1 s1 e1 r1 r2 => ⟨ρ', x2.2, x1.1, x2.1, q, s1, r1, r2, h3, q, rfl, kq ρ' H' p1 g1 s1⟩
theorem k_tnot (ha : PT X a (tTs p X.K ca)) : PT X (.UnaryOp .Not a pos) (tTs p X.K (.not_ ca)) := by
  refine PT.imp (pt_not ha) fun σ H Q h => ?_
  obtain ⟨ρ, S, e, q, S', sm, en, h, kq⟩ := h
  simp only [ev, Option.bind_eq_some_iff] at h
  obtain ⟨⟨d1, S1⟩, h1, h2⟩ := h
  split at h2
  · rename_i b hi
    simp only at hi
    subst hi
    cases h2
    exact stT sm en h1 fun ρ' H' p1 g1 s1 e1 => kq ρ' H' p1 g1 s1
  · cases h2
theorem k_tand1 (ha : PT X a (tTs p X.K ca)) : PW X (.BoolOp .And [a] pos) (tTs p X.K ca) := pw_and1 ha
theorem k_tor1 (ha : PT X a (tTs p X.K ca)) : PW X (.BoolOp .Or [a] pos) (tTs p X.K ca) := pw_or1 ha
theorem k_tand {r : List Expr} (ha : PT X a (tTs p X.K ca)) (hb : PW X (.BoolOp .And (b :: r) pos) (tTs p X.K cb)) : PW X (.BoolOp .And (a :: b :: r) pos) (tTs p X.K (.and_ ca cb)) := by
  refine PW.imp (pw_and ha hb) fun σ H Q h => ?_
  obtain ⟨ρ, S, e, q, S', sm, en, h, kq⟩ := h
  simp only [ev, Option.bind_eq_some_iff] at h
  obtain ⟨⟨d1, S1⟩, h1, h2⟩ := h
  split at h2
  · rename_i hi
    simp only at hi
    subst hi
    refine stT sm en h1 fun ρ' H' p1 g1 s1 e1 => ?_
    exact ⟨ρ', S1, e, q, S', s1, e1, h2, fun ρ2 H2 p2 g2 s2 => kq ρ2 H2 (p1.trans p2) (g1.trans g2) s2⟩
  · rename_i hi
    simp only at hi
    subst hi
    cases h2
    exact stT sm en h1 fun ρ' H' p1 g1 s1 e1 => kq ρ' H' p1 g1 s1
  · cases h2
theorem k_tor {r : List Expr} (ha : PT X a (tTs p X.K ca)) (hb : PW X (.BoolOp .Or (b :: r) pos) (tTs p X.K cb)) : PW X (.BoolOp .Or (a :: b :: r) pos) (tTs p X.K (.or_ ca cb)) := by
  refine PW.imp (pw_or ha hb) fun σ H Q h => ?_
  obtain ⟨ρ, S, e, q, S', sm, en, h, kq⟩ := h
  simp only [ev, Option.bind_eq_some_iff] at h
  obtain ⟨⟨d1, S1⟩, h1, h2⟩ := h
  split at h2
  · rename_i hi
    simp only at hi
    subst hi
    cases h2
    exact stT sm en h1 fun ρ' H' p1 g1 s1 e1 => kq ρ' H' p1 g1 s1
  · rename_i hi
    simp only at hi
    subst hi
    refine stT sm en h1 fun ρ' H' p1 g1 s1 e1 => ?_
    exact ⟨ρ', S1, e, q, S', s1, e1, h2, fun ρ2 H2 p2 g2 s2 => kq ρ2 H2 (p1.trans p2) (g1.trans g2) s2⟩
  · cases h2
end
end Tm

set_option Elab.async false
set_option linter.all false
set_option maxRecDepth 100000
set_option maxHeartbeats 4000000
namespace Tm
open PySem PySem.Spec PyProof.Rows L2
section
variable {X : Cx} {p : Pm} {c : Cc} {k : Nat} {e a b d : Expr} {es : List Expr} {ca cb cd : C} {pos : Pos}
/-! ### arguments -/
theorem star1 {e : Expr} (h : notStar e = true) (es : List Expr) (env : Env) : starEach (e :: es) env = (false, eval e env) :: starEach es env := by
  cases e <;> first | rfl | (simp [notStar] at h; done)
theorem noStars {es : List Expr} (h : es.all notStar = true) (pos : Pos) (env : Env) : (backTo pos (starEach es env)).any (·.1) = false := by
  induction es with
  | nil => rfl
  | cons e r ih =>
    rw [List.all_cons, Bool.and_eq_true] at h
    rw [star1 h.1]
    have q := ih h.2
    unfold backTo at q ⊢
    rw [List.map_cons, List.any_cons, q]
    rfl
theorem k_anil : PA X [] (tA p X.K .nil) := PA.imp pa_nil fun σ H Q h => by
  obtain ⟨ρ, S, e, ds, S', sm, en, h, q⟩ := h
  simp only [ev, Option.some.injEq, Prod.mk.injEq, D.tup.injEq] at h
  obtain ⟨h1, h2⟩ := h
  subst h1; subst h2
  exact q ρ H [] (Pre.refl ρ) (Gro.refl H) sm .nil
theorem k_acons (hs : notStar a = true) (ha : PE X a (tE p X.K ca)) (hb : PA X es (tA p X.K cb)) : PA X (a :: es) (tA p X.K (.cons ca cb)) := by
  refine PA.imp (pa_cons ha hb (star1 hs es _)) fun σ H Q h => ?_
  obtain ⟨ρ, S, e, ds, S', sm, en, h, q⟩ := h
  simp only [ev, Option.bind_eq_some_iff] at h
  obtain ⟨x1, h1, ⟨y, S2⟩, h2, h3⟩ := h
  refine st1 sm en h1 fun ρ1 H1 v p1 g1 s1 e1 r1 => ?_
  split at h3
  · rename_i fs hf
    cases h3
    simp only at hf
    subst hf
    exact ⟨ρ1, x1.2, e, fs, _, s1, e1, h2, fun ρ2 H2 vs p2 g2 s2 r2 => q ρ2 H2 (v :: vs) (p1.trans p2) (g1.trans g2) s2 (.cons (r1.mono g2 p2) r2)⟩
  · cases h3
theorem k_abad : PA X es (tA p X.K .bad) := ⟨fun _ _ _ _ _ _ _ h => by obtain ⟨_, _, _, _, _, _, _, h, _⟩ := h; exact (none_bad h).elim⟩
theorem stA {K : PySem.W.Frag} {ρ : List Addr} {S S' : Store} {H : Hp} {e : Env'} {σ : L2.St} {ds : List D} (sm : Sim K ρ S H) (en : EnvR K ρ H e σ) (ha : ev p ca e S = some (.tup ds, S')) {Q : List V → Hp → Prop}
    (q : ∀ (ρ' : List Addr) (H' : Hp) (vs : List V), Pre ρ ρ' → Gro H H' → Sim K ρ' S' H' → EnvR K ρ' H' e σ → Reps K ρ' H' vs ds → Q vs H') : tA p K ca σ H Q :=
  ⟨ρ, S, e, ds, S', sm, en, ha, fun ρ' H' vs p1 g1 s1 r1 => q ρ' H' vs p1 g1 s1 (en.mono p1 g1) r1⟩
theorem k_tup {kk : Nat} (ha : PA X es (tA p X.K ca)) : PE X (.Tuple es kk pos) (tE p X.K (.tup ca)) := by
  refine PE.imp (pe_tup ha) fun σ H Q h => ?_
  obtain ⟨ρ, S, e, x, sm, en, h, q⟩ := h
  simp only [ev, Option.bind_eq_some_iff] at h
  obtain ⟨⟨y, S1⟩, h1, h2⟩ := h
  split at h2
  · rename_i ds hd
    simp only at hd
    subst hd
    obtain ⟨hz, h3⟩ := okI_some h2
    subst h3
    refine stA sm en h1 fun ρ1 H1 vs p1 g1 s1 e1 r1 => ⟨by rw [r1.length]; exact of_decide_eq_true hz, fun pp hp => (q.mono p1 g1).tup s1 r1 hp⟩
  · cases h2
theorem k_lst (ha : PA X es (tA p X.K ca)) : PE X (.List es pos) (tE p X.K (.lst ca)) := by
  refine PE.imp (pe_lst ha) fun σ H Q h => ?_
  obtain ⟨ρ, S, e, x, sm, en, h, q⟩ := h
  simp only [ev, Option.bind_eq_some_iff] at h
  obtain ⟨⟨y, S1⟩, h1, h2⟩ := h
  split at h2
  · rename_i ds hd
    simp only at hd
    subst hd
    split at h2
    · rename_i hz
      cases h2
      exact stA sm en h1 fun ρ1 H1 vs p1 g1 s1 e1 r1 => ⟨by rw [r1.length]; exact hz, fun pp hp => (q.mono p1 g1).lst s1 r1 hp⟩
    · cases h2
  · cases h2
/-! ### subscripts -/
theorem plainIx (h : isSlice b = false) : PlainIx b := by
  intro o i
  cases b <;> first | rfl | (simp [isSlice] at h; done)
theorem k_idx (hs : isSlice b = false) (ha : PE X a (tE p X.K ca)) (hb : PE X b (tE p X.K cb)) : PE X (.Subscript a b pos) (tE p X.K (.idx ca cb)) := by
  refine PE.imp (pe_ix ix_M ha hb (plainIx hs)) fun σ H Q h => ?_
  obtain ⟨ρ, S, e, x, sm, en, h, q⟩ := h
  simp only [ev, Option.bind_eq_some_iff, Option.map_eq_some_iff] at h
  obtain ⟨x1, h1, x2, h2, d, h3, h4⟩ := h
  subst h4
  exact st2 sm en h1 h2 fun ρ' H' v w p1 g1 s1 e1 r1 r2 => ⟨ρ', x2.2, x1.1, x2.1, d, s1, r1, r2, h3, fun z rz => (q.mono p1 g1).here s1 rz⟩
theorem k_onone : PO X none (tO' p X.K .absent) := PO.imp po_none fun σ H Q h => by
  obtain ⟨ρ, S, e, x, sm, en, h, q⟩ := h
  simp only [part, isAbs, if_true, Option.some.injEq] at h
  subst h
  exact q ρ H (Pre.refl ρ) (Gro.refl H) sm
theorem k_osome (hn : isAbs ca = false) (ha : PE X a (tE p X.K ca)) : PO X (some a) (tO' p X.K ca) := PO.imp (po_some ha) fun σ H Q h => by
  obtain ⟨ρ, S, e, x, sm, en, h, q⟩ := h
  simp only [part, hn, Bool.false_eq_true, if_false, Option.bind_eq_some_iff] at h
  obtain ⟨⟨y, S1⟩, h1, h2⟩ := h
  split at h2
  · rename_i i hi
    simp only at hi
    subst hi
    cases h2
    exact st1 sm en h1 fun ρ1 H1 v p1 g1 s1 e1 r1 => ⟨i, rep_int r1, q ρ1 H1 p1 g1 s1⟩
  · cases h2
theorem k_slc {lo hi : Option Expr} {p2 : Pos} (ha : PE X a (tE p X.K ca)) (hl : PO X lo (tO' p X.K cb)) (hh : PO X hi (tO' p X.K cd)) : PE X (.Subscript a (.Slice lo hi none p2) pos) (tE p X.K (.slc ca cb cd)) := by
  refine PE.imp (pe_slice sl_M ha hl hh) fun σ H Q h => ?_
  obtain ⟨ρ, S, e, x, sm, en, h, q⟩ := h
  simp only [ev, Option.bind_eq_some_iff] at h
  obtain ⟨x1, h1, x2, h2, x3, h3, h4⟩ := h
  refine st1 sm en h1 fun ρ1 H1 v p1 g1 s1 e1 r1 => ⟨ρ1, x1.2, e, x2, s1, e1, h2, fun ρ2 H2 p2 g2 s2 => ⟨ρ2, x2.2, e, x3, s2, e1.mono p2 g2, h3, fun ρ3 H3 p3 g3 s3 => ?_⟩⟩
  exact ⟨ρ3, x3.2, x1.1, x.1, x.2, s3, r1.mono (g2.trans g3) (p2.trans p3), h4, q.mono (p1.trans (p2.trans p3)) (g1.trans (g2.trans g3))⟩
/-! ### the module's dicts -/
theorem dicOf_some {g : Nat} (h : dicOf c a = some g) : ∃ x pos, a = .Name x pos ∧ glB c x = true ∧ c.G.dics.lookup x = some g := by
  cases a with
  | Name x pos =>
    simp only [dicOf] at h
    split at h
    · exact ⟨x, pos, rfl, by assumption, h⟩
    · cases h
  | _ => simp [dicOf] at h
theorem k_kget (M : Mat X p c k) {g : Nat} (hd : dicOf c a = some g) (hs : isSlice b = false) (hb : PE X b (tE p X.K cb)) : PE X (.Subscript a b pos) (tE p X.K (.kget g cb)) := by
  obtain ⟨x, px, ea, hg, hl⟩ := dicOf_some hd
  subst ea
  obtain ⟨A, es, n, hm, hk, hz⟩ := M.glob.dics x g hl
  refine PE.imp (pe_ix ix_kdict (pe_glob (v := .ref A) (M.gl hg).1 hm rfl (bad3 (M.gl hg).2).1) hb (plainIx hs)) fun σ H Q h => ?_
  obtain ⟨ρ, S, e, x, sm, en, h, q⟩ := h
  simp only [ev, Option.bind_eq_some_iff] at h
  obtain ⟨⟨y, S1⟩, h1, h2⟩ := h
  split at h2
  · rename_i z hzz
    simp only at hzz
    subst hzz
    simp only [Option.map_eq_some_iff] at h2
    obtain ⟨d, h3, h4⟩ := h2
    subst h4
    have hz := hz z
    rw [h3] at hz
    obtain ⟨u, v, h5, h6, h7⟩ := hz
    refine st1 sm en h1 fun ρ1 H1 w p1 g1 s1 e1 r1 => ?_
    exact ⟨A, z, v, rfl, rep_str r1, ⟨es, n, u, hk.at_, hk.lit, h5, h6⟩, (q.mono p1 g1).here s1 (h7 _ _)⟩
  · cases h2
theorem k_kin (M : Mat X p c k) {g : Nat} (hd : dicOf c b = some g) (hs : notSet b = true) (ha : PE X a (tE p X.K ca)) : PE X (.Compare a [.In] [b] pos) (tE p X.K (.kin g false ca)) := by
  obtain ⟨x, px, eb, hg, hl⟩ := dicOf_some hd
  subst eb
  obtain ⟨A, es, n, hm, hk, hz⟩ := M.glob.dics x g hl
  refine PE.imp (pe_cmpR (op_in_kd hk) ha (pe_glob (v := .ref A) (M.gl hg).1 hm rfl (bad3 (M.gl hg).2).1) rfl) fun σ H Q h => ?_
  obtain ⟨ρ, S, e, x, sm, en, h, q⟩ := h
  simp only [ev, Option.bind_eq_some_iff] at h
  obtain ⟨⟨y, S1⟩, h1, h2⟩ := h
  split at h2
  · rename_i z hzz
    simp only at hzz
    subst hzz
    cases h2
    have hz := hz z
    refine st1 sm en h1 fun ρ1 H1 w p1 g1 s1 e1 r1 => ?_
    cases q1 : lookK (p.kd g) z with
    | none => rw [q1] at hz q; exact ⟨z, _, rep_str r1, rfl, hz, (q.mono p1 g1).here s1 (.bl _)⟩
    | some d =>
      rw [q1] at hz q
      obtain ⟨u, v, h5, h6, h7⟩ := hz
      exact ⟨z, _, rep_str r1, rfl, h5, (q.mono p1 g1).here s1 (.bl _)⟩
  · cases h2
theorem k_knin (M : Mat X p c k) {g : Nat} (hd : dicOf c b = some g) (hs : notSet b = true) (ha : PE X a (tE p X.K ca)) : PE X (.Compare a [.NotIn] [b] pos) (tE p X.K (.kin g true ca)) := by
  obtain ⟨x, px, eb, hg, hl⟩ := dicOf_some hd
  subst eb
  obtain ⟨A, es, n, hm, hk, hz⟩ := M.glob.dics x g hl
  refine PE.imp (pe_cmpR (op_notIn_kd hk) ha (pe_glob (v := .ref A) (M.gl hg).1 hm rfl (bad3 (M.gl hg).2).1) rfl) fun σ H Q h => ?_
  obtain ⟨ρ, S, e, x, sm, en, h, q⟩ := h
  simp only [ev, Option.bind_eq_some_iff] at h
  obtain ⟨⟨y, S1⟩, h1, h2⟩ := h
  split at h2
  · rename_i z hzz
    simp only at hzz
    subst hzz
    cases h2
    have hz := hz z
    refine st1 sm en h1 fun ρ1 H1 w p1 g1 s1 e1 r1 => ?_
    cases q1 : lookK (p.kd g) z with
    | none => rw [q1] at hz q; exact ⟨z, _, rep_str r1, rfl, hz, (q.mono p1 g1).here s1 (.bl _)⟩
    | some d =>
      rw [q1] at hz q
      obtain ⟨u, v, h5, h6, h7⟩ := hz
      exact ⟨z, _, rep_str r1, rfl, h5, (q.mono p1 g1).here s1 (.bl _)⟩
  · cases h2
theorem k_tkin (M : Mat X p c k) {g : Nat} (hd : dicOf c b = some g) (ha : PE X a (tE p X.K ca)) : PT X (.Compare a [.In] [b] pos) (tTs p X.K (.kin g false ca)) := by
  obtain ⟨x, px, eb, hg, hl⟩ := dicOf_some hd
  subst eb
  obtain ⟨A, es, n, hm, hk, hz⟩ := M.glob.dics x g hl
  refine PT.imp (pt_cmpR (op_in_kd hk) ha (pe_glob (v := .ref A) (M.gl hg).1 hm rfl (bad3 (M.gl hg).2).1) rfl) fun σ H Q h => ?_
  obtain ⟨ρ, S, e, q0, S', sm, en, h, q⟩ := h
  simp only [ev, Option.bind_eq_some_iff] at h
  obtain ⟨⟨y, S1⟩, h1, h2⟩ := h
  split at h2
  · rename_i z hzz
    simp only at hzz
    subst hzz
    cases h2
    have hz := hz z
    refine st1 sm en h1 fun ρ1 H1 w p1 g1 s1 e1 r1 => ?_
    cases q1 : lookK (p.kd g) z with
    | none => rw [q1] at hz q; exact ⟨z, _, rep_str r1, rfl, hz, _, rfl, q ρ1 H1 p1 g1 s1⟩
    | some d =>
      rw [q1] at hz q
      obtain ⟨u, v, h5, h6, h7⟩ := hz
      exact ⟨z, _, rep_str r1, rfl, h5, _, rfl, q ρ1 H1 p1 g1 s1⟩
  · cases h2
theorem k_tknin (M : Mat X p c k) {g : Nat} (hd : dicOf c b = some g) (ha : PE X a (tE p X.K ca)) : PT X (.Compare a [.NotIn] [b] pos) (tTs p X.K (.kin g true ca)) := by
  obtain ⟨x, px, eb, hg, hl⟩ := dicOf_some hd
  subst eb
  obtain ⟨A, es, n, hm, hk, hz⟩ := M.glob.dics x g hl
  refine PT.imp (pt_cmpR (op_notIn_kd hk) ha (pe_glob (v := .ref A) (M.gl hg).1 hm rfl (bad3 (M.gl hg).2).1) rfl) fun σ H Q h => ?_
  obtain ⟨ρ, S, e, q0, S', sm, en, h, q⟩ := h
  simp only [ev, Option.bind_eq_some_iff] at h
  obtain ⟨⟨y, S1⟩, h1, h2⟩ := h
  split at h2
  · rename_i z hzz
    simp only at hzz
    subst hzz
    cases h2
    have hz := hz z
    refine st1 sm en h1 fun ρ1 H1 w p1 g1 s1 e1 r1 => ?_
    cases q1 : lookK (p.kd g) z with
    | none => rw [q1] at hz q; exact ⟨z, _, rep_str r1, rfl, hz, _, rfl, q ρ1 H1 p1 g1 s1⟩
    | some d =>
      rw [q1] at hz q
      obtain ⟨u, v, h5, h6, h7⟩ := hz
      exact ⟨z, _, rep_str r1, rfl, h5, _, rfl, q ρ1 H1 p1 g1 s1⟩
  · cases h2
theorem k_tchain (M : Mat X p c k) {o1 o2 : CmpOp} (hs : notSet d = true) (ha : PE X a (tE p X.K ca)) (hb : PE X b (tE p X.K cb)) (hd : PE X d (tE p X.K cd)) :
    PT X (.Compare a [o1, o2] [b, d] pos) (tTs p X.K (.chain (cCmp o1) (cCmp o2) ca cb cd)) := by
  have hu : X.A.units + 65 < cLine := by have := M.hu; omega
  refine PT.imp (pt_chain (op_cmpM hu o1) (op_cmpM hu o2) ha hb hd (by simp only [lastMarks]; exact noSet hs o2)) fun σ H Q h => ?_
  obtain ⟨ρ, S, e, q0, S', sm, en, h, kq⟩ := h
  simp only [ev, Option.bind_eq_some_iff] at h
  obtain ⟨x1, h1, x2, h2, r, h3, h4⟩ := h
  refine st2 sm en h1 h2 fun ρ' H' v w p1 g1 s1 e1 r1 r2 => ⟨ρ', x2.2, x1.1, x2.1, r, s1, r1, r2, h3, r, rfl, ?_⟩
  cases r with
  | true =>
    simp only [if_true, Option.bind_eq_some_iff, Option.map_eq_some_iff] at h4 ⊢
    obtain ⟨x3, h5, r', h6, h7⟩ := h4
    cases h7
    exact st1 s1 e1 h5 fun ρ2 H2 z p2 g2 s2 e2 r3 => ⟨ρ2, x3.2, x2.1, x3.1, _, s2, r2.mono g2 p2, r3, h6, _, rfl, kq ρ2 H2 (p1.trans p2) (g1.trans g2) s2⟩
  | false =>
    simp only [Bool.false_eq_true, if_false, Option.some.injEq, Prod.mk.injEq, D.bl.injEq] at h4 ⊢
    obtain ⟨h5, h6⟩ := h4
    subst h5; subst h6
    exact ⟨false, rfl, kq ρ' H' p1 g1 s1⟩
theorem k_kgetd (M : Mat X p c k) {g : Nat} {o : Expr} {ap cp : Pos} (hd : dicOf c o = some g) (hap : (ap.endLine == cp.line) = true) (h1 : notStar a = true) (h2 : notStar b = true) (ha : PE X a (tE p X.K ca)) (hb : PE X b (tE p X.K cb)) :
    PE X (.Call (.Attribute o "get" ap) [a, b] [] cp) (tE p X.K (.kgetd g ca cb)) := by
  obtain ⟨x, px, eo, hg, hl⟩ := dicOf_some hd
  subst eo
  obtain ⟨A, es, n, hm, hk, hz⟩ := M.glob.dics x g hl
  have hst : starEach [a, b] X.env = [(false, eval a X.env), (false, eval b X.env)] := by rw [star1 h1, star1 h2]; rfl
  refine ⟨fun pins s σ H Q I h => ?_⟩
  obtain ⟨ρ, S, e, y, sm, en, h, q⟩ := h
  simp only [ev, Option.bind_eq_some_iff] at h
  obtain ⟨x1, e1, x2, e2, h⟩ := h
  refine wpAny_Call_method rfl (by rw [hst]; rfl) hap PySem.F.plainAttrs_dict PySem.F.slot_dict_get PySem.F.type_dict_get
    (thn ((pe_glob (v := .ref A) (M.gl hg).1 hm rfl (bad3 (M.gl hg).2).1).run pins s σ H (fun v H1 => v = .ref A ∧ H1 = H) I ⟨rfl, rfl⟩) fun u s1 ⟨v, H1, I1, rv, ev', eH⟩ => ?_)
  subst ev'
  subst eH
  cases rv
  have mo := PySem.W.mapOf_K (prog := X.prog) (w := X.w) I1.kIn hk.at_ hk.lit
  refine ⟨mo.typeIs, fun bb q' => ?_, ?_⟩
  · cases q'
    exact ⟨_, I1.kIn _ _ hk.at_, rfl⟩
  rw [hst]
  refine Calls.callWith_builtin rfl (Calls.evalArgs_plain (Calls.spliced_cons (thn (ha.run pins s1 σ H1 _ I1 (st1 sm en e1 (Q := fun v H2 => ∃ ρ2, Pre ρ ρ2 ∧ Gro H1 H2 ∧ Sim X.K ρ2 x1.2 H2 ∧ EnvR X.K ρ2 H2 e σ ∧ Rep X.K ρ2 H2 v x1.1) fun ρ' H' v p1 g1 s1 e1 r1 => ⟨ρ', p1, g1, s1, e1, r1⟩))
    fun iv s2 ⟨y1, H2, I2, ry, ρ2, p2, g2, sm2, en2, r2⟩ =>
    Calls.spliced_cons (thn (hb.run pins s2 σ H2 _ I2 (st1 sm2 en2 e2 (Q := fun v H3 => ∃ ρ3, Pre ρ2 ρ3 ∧ Gro H2 H3 ∧ Sim X.K ρ3 x2.2 H3 ∧ Rep X.K ρ3 H3 v x2.1) fun ρ' H' v p1 g1 s1 e1 r1 => ⟨ρ', p1, g1, s1, r1⟩))
    fun fv s3 ⟨z1, H3, I3, rz, ρ3, p3, g3, sm3, r3⟩ => Calls.spliced_nil ?_))))
  obtain ⟨d1, S1⟩ := x1
  split at h
  · rename_i z hzz
    simp only at hzz
    subst hzz
    cases h
    cases r2
    obtain ⟨t, rfl⟩ := ry
    have mo3 := PySem.W.mapOf_K (prog := X.prog) (w := X.w) I3.kIn hk.at_ hk.lit
    refine call_meetsIn PySem.F.slot_dict_get mo3.typeIs PySem.F.entry_dict_get (PySem.F.args_dict_get_3 _ _ _) (meets_dict_get_default (strKind X.prog X.w) A (PySem.strKind_is X.prog X.w z t) hk.low fv) ⟨_, mo3, ?_⟩
    have hz := hz z
    have kq := q.mono (p2.trans p3) (g2.trans g3)
    cases q1 : lookK (p.kd g) z with
    | none =>
      rw [q1] at hz kq
      rw [PySem.W.find_K hk.at_ hz]
      exact ⟨z1, H3, I3.tok _, rz, kq.here sm3 r3⟩
    | some d =>
      rw [q1] at hz kq
      obtain ⟨u, v, h5, h6, h7⟩ := hz
      rw [PySem.W.find_K hk.at_ h5]
      exact ⟨v, H3, I3.tok _, h6, kq.here sm3 (h7 _ _)⟩
  · cases h
end
end Tm

set_option Elab.async false
set_option linter.all false
set_option maxRecDepth 100000
set_option maxHeartbeats 4000000
namespace Tm
open PySem PySem.Spec PyProof.Rows L2
/-! ### picking arguments -/
theorem pick_rep {K : PySem.W.Frag} {ρ : List Addr} {H : Hp} {vs : List V} {ds : List D} (r : Reps K ρ H vs ds) : ∀ perm : List Nat, Reps K ρ H (pick perm vs) (pick perm ds)
  | [] => .nil
  | i :: l => by
    have ih := pick_rep r l
    unfold pick at ih ⊢
    cases e : ds[i]? with
    | none =>
      have e2 : vs[i]? = none := by
        rw [List.getElem?_eq_none_iff] at e ⊢
        rw [r.length]; exact e
      rw [List.filterMap_cons, List.filterMap_cons, e, e2]
      exact ih
    | some d =>
      obtain ⟨v, h1, h2⟩ := r.get e
      rw [List.filterMap_cons, List.filterMap_cons, e, h1]
      exact .cons h2 ih
theorem pick_vals {vs : List V} {us : List Value} (r : Vals vs us) : ∀ perm : List Nat, Vals (pick perm vs) (pick perm us)
  | [] => .nil
  | i :: l => by
    have ih := pick_vals r l
    unfold pick at ih ⊢
    cases e : vs[i]? with
    | none =>
      rw [List.filterMap_cons, List.filterMap_cons, e, r.none_of e]
      exact ih
    | some d =>
      obtain ⟨v, h1, h2⟩ := r.get e
      rw [List.filterMap_cons, List.filterMap_cons, e, h1]
      exact .cons h2 ih
theorem filterMap_range {α : Type} : ∀ l : List α, (List.range l.length).filterMap (fun i => l[i]?) = l := by
  intro l
  induction l with
  | nil => rfl
  | cons x r ih =>
    rw [List.length_cons, List.range_succ_eq_map, List.filterMap_cons]
    simp only [List.getElem?_cons_zero, List.filterMap_map]
    congr 1
theorem pick_all {α : Type} (l : List α) (n : Nat) (h : n = l.length) : pick (List.range n) l = l := by
  subst h
  exact filterMap_range l
section
variable {X : Cx} {p : Pm} {c : Cc} {k : Nat} {e a b d : Expr} {es : List Expr} {ca cb cd : C} {pos : Pos}
/-! ### keywords -/
theorem k_knil : PK X [] (tA p X.K .nil) := ⟨fun pos pins s σ H Q I h => by
  obtain ⟨ρ, S, e, ds, S', sm, en, h, q⟩ := h
  simp only [ev, Option.some.injEq, Prod.mk.injEq, D.tup.injEq] at h
  obtain ⟨h1, h2⟩ := h
  subst h1; subst h2
  exact pk_nil.run pos pins s σ H Q I (q ρ H [] (Pre.refl ρ) (Gro.refl H) sm .nil)⟩
theorem k_kcons {nm : Option Str} {kp : Pos} {kws : List Keyword} (ha : PE X a (tE p X.K ca)) (hb : PK X kws (tA p X.K cb)) : PK X (⟨nm, a, kp⟩ :: kws) (tA p X.K (.cons ca cb)) := ⟨fun pos pins s σ H Q I h => by
  refine (pk_cons ha hb).run pos pins s σ H Q I ?_
  obtain ⟨ρ, S, e, ds, S', sm, en, h, q⟩ := h
  simp only [ev, Option.bind_eq_some_iff] at h
  obtain ⟨x1, h1, ⟨y, S2⟩, h2, h3⟩ := h
  refine st1 sm en h1 fun ρ1 H1 v p1 g1 s1 e1 r1 => ?_
  split at h3
  · rename_i fs hf
    cases h3
    simp only at hf
    subst hf
    exact ⟨ρ1, x1.2, e, fs, _, s1, e1, h2, fun ρ2 H2 vs p2 g2 s2 r2 => q ρ2 H2 (v :: vs) (p1.trans p2) (g1.trans g2) s2 (.cons (r1.mono g2 p2) r2)⟩
  · cases h3⟩
theorem k_kbad {kws : List Keyword} : PK X kws (tA p X.K .bad) := ⟨fun _ _ _ _ _ _ _ h => by obtain ⟨_, _, _, _, _, _, _, h, _⟩ := h; exact (none_bad h).elim⟩
/-! ### calls -/
theorem sp_call {K : PySem.W.Frag} {f : List D → Store → Option (D × Store)} {ρ : List Addr} {S : Store} {H : Hp} {vs : List V} {ds : List D} {x : D × Store} {Q : VK} {n : Nat} (hn : ds.length = n) (sm : Sim K ρ S H) (r : Reps K ρ H vs ds) (h : f ds S = some x) (q : Aft K ρ H x.2 x.1 Q) : spR K n f vs H Q E0 :=
  ⟨by rw [r.length]; exact hn, ρ, S, ds, x.1, x.2, sm, r, h, q⟩
theorem k_call (M : Mat X p c k) {x : Str} {f : Nat} {ps : List Str} {px : Pos} (hg : glB c x = true) (hf : c.G.funs.lookup x = some (f, ps)) (har : Arity p.R f ps.length) (hst : (a :: es).all notStar = true) (hn : (a :: es).length = ps.length)
    (ha : PA X (a :: es) (tA p X.K ca)) (hl : ∀ e S ds S', ev p ca e S = some (.tup ds, S') → ds.length = (a :: es).length) : PE X (.Call (.Name x px) (a :: es) [] pos) (tE p X.K (.call f (List.range ps.length) ca .nil)) := by
  obtain ⟨A, fd, hm, hk, F, hb, _⟩ := M.glob.funs x f ps hf
  have hst2 := hst
  rw [List.all_cons, Bool.and_eq_true] at hst2
  refine ⟨fun pins s σ H Q I h => ?_⟩
  obtain ⟨ρ, S, e, y, sm, en, h, q⟩ := h
  simp only [ev, Option.bind_eq_some_iff] at h
  obtain ⟨⟨d1, S1⟩, h1, x2, h2, h3⟩ := h
  cases h2
  split at h3
  · rename_i ds fs e1 e2
    simp only at e1 e2
    subst e1
    cases e2
    rw [List.append_nil, pick_all ds ps.length (by rw [hl _ _ _ _ h1, hn])] at h3
    apply wpAny_Call_Name_kw
    apply ld_glob I (M.gl hg).1 hm _ (bad3 (M.gl hg).2).1
    apply PySem.W.callWith_K (h₀ := X.base) I.ok.mod.kin hk _ (star1 hst2.1 es X.env) (noStars hst2.2 _ _)
    refine thn (ha.run pos pins s σ H _ I (stA sm en h1 fun ρ1 H1 vs p1 g1 s1 e1 r1 => sp_call (har _ _ _ h3) s1 r1 h3 (q.mono p1 g1))) fun us s1 ⟨vs, H1, I1, rv, hsp⟩ => ⟨I1.kIn, ?_⟩
    have hz : us.length = ps.length := by
      rw [← rv.length]; exact hsp.1
    have bd := hb s1 us I1.kIn (by rw [List.append_nil]; exact hz)
    rw [List.append_nil] at bd
    exact callG F M.room M.gd bd I1 rv hsp
  · cases h3
theorem k_callv (M : Mat X p c k) {cf : C} {x : Str} {px : Pos} (hst : (a :: es).all notStar = true) (hf : PE X (.Name x px) (tE p X.K cf)) (ha : PA X (a :: es) (tA p X.K ca)) : PE X (.Call (.Name x px) (a :: es) [] pos) (tE p X.K (.callv cf ca)) := by
  have hst2 := hst
  rw [List.all_cons, Bool.and_eq_true] at hst2
  refine ⟨fun pins s σ H Q I h => ?_⟩
  obtain ⟨ρ, S, e, y, sm, en, h, q⟩ := h
  simp only [ev, Option.bind_eq_some_iff] at h
  obtain ⟨⟨d1, S1⟩, h1, ⟨d2, S2⟩, h2, h3⟩ := h
  split at h3
  · rename_i z ds e1 e2
    simp only at e1 e2
    subst e1
    subst e2
    simp only [Option.bind_eq_some_iff] at h3
    obtain ⟨i, hi, h3⟩ := h3
    obtain ⟨ps, hf2⟩ := M.glob.fxs z i hi
    obtain ⟨A, fd, hm, hk, F, hb, _⟩ := M.glob.funs z i ps hf2
    apply wpAny_Call_Name_kw
    refine thn (hf.run pins s σ H (fun v H1 => ∃ ρ1, Pre ρ ρ1 ∧ Gro H H1 ∧ Sim X.K ρ1 S1 H1 ∧ EnvR X.K ρ1 H1 e σ ∧ v = .ref A) I (st1 sm en h1 fun ρ1 H1 v p1 g1 s1 e1 r1 => ⟨ρ1, p1, g1, s1, e1, ?_⟩)) fun u s1 ⟨v, H1, I1, r1, ρ1, p1, g1, sm1, en1, evv⟩ => ?_
    · obtain ⟨A', rfl, hA⟩ := rep_fn r1
      have := M.glob.fnv z A' hA
      rw [hm] at this
      cases this
      rfl
    · subst evv
      cases r1
      apply PySem.W.callWith_K (h₀ := X.base) I1.ok.mod.kin hk _ (star1 hst2.1 es X.env) (noStars hst2.2 _ _)
      refine thn (ha.run pos pins s1 σ H1 _ I1 (stA sm1 en1 h2 fun ρ2 H2 vs p2 g2 s2 e2 r2 => sp_call (M.glob.ar z i ps hf2 _ _ _ h3) s2 r2 h3 (q.mono (p1.trans p2) (g1.trans g2)))) fun us s2 ⟨vs, H2, I2, rv, hsp⟩ => ⟨I2.kIn, ?_⟩
      have hz : us.length = ps.length := by
        rw [← rv.length]; exact hsp.1
      have bd := hb s2 us I2.kIn (by rw [List.append_nil]; exact hz)
      rw [List.append_nil] at bd
      exact callG F M.room M.gd bd I2 rv hsp
  · cases h3
theorem kwNames_ok : ∀ {kws : List Keyword} {ks : List Str}, kwNames kws = some ks → ∀ (pos : Pos) (env : Env), (backToKw pos (keywordEach kws env)).all (·.1.isSome) = true ∧ (backToKw pos (keywordEach kws env)).filterMap (·.1) = ks ∧ (backToKw pos (keywordEach kws env)).any (·.1.isNone) = false
  | [], ks, h, pos, env => by simp [kwNames] at h; subst h; exact ⟨rfl, rfl, rfl⟩
  | ⟨some x, v, kp⟩ :: r, ks, h, pos, env => by
    simp only [kwNames, Option.map_eq_some_iff] at h
    obtain ⟨s, h1, rfl⟩ := h
    obtain ⟨a1, a2, a3⟩ := kwNames_ok h1 pos env
    unfold backToKw at a1 a2 a3 ⊢
    refine ⟨?_, ?_, ?_⟩
    · show (true && _) = true; rw [Bool.true_and]; exact a1
    · show x :: _ = _; rw [← a2]
    · show (false || _) = false; rw [Bool.false_or]; exact a3
  | ⟨none, _, _⟩ :: _, ks, h, _, _ => by simp [kwNames] at h
theorem k_callK (M : Mat X p c k) {x : Str} {f : Nat} {ps ks : List Str} {px : Pos} {kws : List Keyword} {q : Str × Nat × List Str × List Nat} (hg : glB c x = true) (hf : c.G.funs.lookup x = some (f, ps)) (har : Arity p.R f ps.length) (hst : es.all notStar = true)
    (hks : kwNames kws = some ks) (hq : q ∈ c.G.kws) (hx : q.1 = x) (hnp : q.2.1 = es.length) (hqk : q.2.2.1 = ks)
    (ha : PA X es (tA p X.K ca)) (hb : PK X kws (tA p X.K cb)) (hl : ∀ e S ds S', ev p ca e S = some (.tup ds, S') → ds.length = es.length) (hl2 : ∀ e S ds S', ev p cb e S = some (.tup ds, S') → ds.length = ks.length)
    (hnil : es = [] → ∀ e S x, ev p ca e S = some x → x.2 = S) :
    PE X (.Call (.Name x px) es kws pos) (tE p X.K (.call f q.2.2.2 ca cb)) := by
  obtain ⟨A, fd, hm, hk, F, _, hbk⟩ := M.glob.funs x f ps hf
  have hbk := hbk q hq hx
  rw [hnp, hqk] at hbk
  refine ⟨fun pins s σ H Q I h => ?_⟩
  obtain ⟨ρ, S, e, y, sm, en, h, kq⟩ := h
  simp only [ev, Option.bind_eq_some_iff] at h
  obtain ⟨⟨d1, S1⟩, h1, ⟨d2, S2⟩, h2, h3⟩ := h
  obtain ⟨n1, n2, n3⟩ := kwNames_ok hks pos X.env
  split at h3
  · rename_i ds fs e1 e2
    simp only at e1 e2
    subst e1
    subst e2
    have fin : ∀ (s2 : Shared) (H2 : Hp) (us ws : List Value) (vs zs : List V) (ρ2 : List Addr), Inv X pins σ H2 s2 → Vals vs us → Vals zs ws → Pre ρ ρ2 → Gro H H2 → Sim X.K ρ2 S2 H2 → Reps X.K ρ2 H2 vs ds → Reps X.K ρ2 H2 zs fs →
        wpAny (model X.prog X.w) X.A (call (.ref A) ([] ++ us) (((backToKw pos (keywordEach kws X.env)).filterMap (·.1)).zip ws)) (EP X pins σ Q) X.xe s2 := by
      intro s2 H2 us ws vs zs ρ2 I2 rv rz p2 g2 s2' r1 r2
      rw [n2]
      have hu : us.length = es.length := by rw [← rv.length, r1.length, hl _ _ _ _ h1]
      have hw : ws.length = ks.length := by rw [← rz.length, r2.length, hl2 _ _ _ _ h2]
      exact callG F M.room M.gd (hbk s2 us ws hu hw) I2 (pick_vals (rv.append rz) _) (sp_call (har _ _ _ h3) s2' (pick_rep (r1.append r2) _) h3 (kq.mono p2 g2))
    apply wpAny_Call_Name_kw
    apply ld_glob I (M.gl hg).1 hm _ (bad3 (M.gl hg).2).1
    cases es with
    | nil =>
      refine PySem.W.callWith_KW0 (h₀ := X.base) I.ok.mod.kin hk n1 ?_ (by rw [n3]; rfl)
      have h0 := hl _ _ _ _ h1
      simp only [List.length_nil, List.length_eq_zero_iff] at h0
      subst h0
      have hS := hnil rfl _ _ _ h1
      simp only at hS
      subst hS
      refine thn (hb.run pos pins s σ H (fun zs H1 => ∃ ρ1, Pre ρ ρ1 ∧ Gro H H1 ∧ Sim X.K ρ1 S2 H1 ∧ Reps X.K ρ1 H1 zs fs) I (stA sm en h2 fun ρ1 H1 vs p1 g1 s1 e1 r1 => ⟨ρ1, p1, g1, s1, r1⟩))
        fun ws s1 ⟨zs, H1, I1, rz, ρ1, p1, g1, s1', r1⟩ => ⟨I1.kIn, fin s1 H1 [] ws [] zs ρ1 I1 .nil rz p1 g1 s1' .nil r1⟩
    | cons e1 er =>
      have hst2 := hst
      rw [List.all_cons, Bool.and_eq_true] at hst2
      refine PySem.W.callWith_KW (h₀ := X.base) I.ok.mod.kin hk n1 ?_ (by rw [noStars hst, n3]; rfl) (star1 hst2.1 er X.env)
      refine thn (ha.run pos pins s σ H (fun vs H1 => ∃ ρ1, Pre ρ ρ1 ∧ Gro H H1 ∧ Sim X.K ρ1 S1 H1 ∧ EnvR X.K ρ1 H1 e σ ∧ Reps X.K ρ1 H1 vs ds) I (stA sm en h1 fun ρ1 H1 vs p1 g1 s1 e1 r1 => ⟨ρ1, p1, g1, s1, e1, r1⟩))
        fun us s1 ⟨vs, H1, I1, rv, ρ1, p1, g1, sm1, en1, r1⟩ => ?_
      refine thn (hb.run pos pins s1 σ H1 (fun zs H2 => ∃ ρ2, Pre ρ1 ρ2 ∧ Gro H1 H2 ∧ Sim X.K ρ2 S2 H2 ∧ Reps X.K ρ2 H2 zs fs) I1 (stA sm1 en1 h2 fun ρ2 H2 vs p2 g2 s2 e2 r2 => ⟨ρ2, p2, g2, s2, r2⟩))
        fun ws s2 ⟨zs, H2, I2, rz, ρ2, p2, g2, sm2, r2⟩ => ⟨I2.kIn, fin s2 H2 us ws vs zs ρ2 I2 rv rz (p1.trans p2) (g1.trans g2) sm2 (r1.mono g2 p2) r2⟩
  · cases h3
end
end Tm

set_option Elab.async false
set_option linter.all false
set_option maxRecDepth 100000
set_option maxHeartbeats 4000000
namespace Tm
open PySem PySem.Spec PyProof.Rows L2
section
variable {X : Cx} {p : Pm} {c : Cc} {k : Nat} {e a b d : Expr} {es : List Expr} {ca cb cd : C} {pos : Pos}
/-! ### built-in functions -/
theorem biOf_val {x : Str} {q : Bi} (h : biOf x = some q) : bootBuiltins x = some (biVal q) := by
  unfold biOf at h
  repeat' (split at h; · rename_i e; subst e; cases h; decide +kernel)
  cases h
theorem sp_bi {K : PySem.W.Frag} {q : Bi} {ρ : List Addr} {S : Store} {H : Hp} {vs : List V} {ds : List D} {x : D × Store} {Q : VK} (sm : Sim K ρ S H) (r : Reps K ρ H vs ds) (h : biop q ds S = some x) (k : Aft K ρ H x.2 x.1 Q) : rCall K (biop q) vs H Q :=
  ⟨ρ, S, ds, x.1, x.2, sm, r, h, k⟩
theorem k_bi (M : Mat X p c k) {x : Str} {q : Bi} {px : Pos} (hg : bltB c x = true) (hq : biOf x = some q) (hst : (a :: es).all notStar = true) (ha : PA X (a :: es) (tA p X.K ca)) : PE X (.Call (.Name x px) (a :: es) [] pos) (tE p X.K (.bi q ca)) := by
  have hst2 := hst
  rw [List.all_cons, Bool.and_eq_true] at hst2
  have step : ∀ σ H (Q : VK), tE p X.K (.bi q ca) σ H Q → tCB (rCall X.K (biop q)) (tA p X.K ca) σ H Q := fun σ H Q h => by
    obtain ⟨ρ, S, e, y, sm, en, h, kq⟩ := h
    simp only [ev, Option.bind_eq_some_iff] at h
    obtain ⟨⟨d1, S1⟩, h1, h2⟩ := h
    split at h2
    · rename_i ds e1
      simp only at e1
      subst e1
      exact stA sm en h1 fun ρ1 H1 vs p1 g1 s1 e1 r1 => sp_bi s1 r1 h2 (kq.mono p1 g1)
    · cases h2
  have cr := cr_M M.calm M.gd M.hu q
  have bv := biOf_val hq
  obtain ⟨g1, g2, g3⟩ := M.bl hg
  obtain ⟨b1, b2, b3⟩ := bad3 g3
  cases q <;> first
    | exact PE.imp (pe_callB cr g1 g2 bv ha b3 b1 (star1 hst2.1 es X.env) (noStars hst2.2 _ _)) step
    | exact PE.imp (pe_callTy cr g1 g2 bv ha b3 b1 (star1 hst2.1 es X.env) (noStars hst2.2 _ _)) step
/-! ### isinstance -/
def tyName : Ty → String
  | .int => "int" | .str => "str" | .tuple => "tuple" | .list => "list" | .bool => "bool" | .dict => "dict"
theorem tyOf_val {t : Ty} (h : tyOf c d = some t) : ∃ x px, d = .Name x px ∧ bltB c x = true ∧ bootBuiltins x = some (.type (tyName t)) := by
  cases d with
  | Name x px =>
    simp only [tyOf] at h
    split at h
    · rename_i hb
      refine ⟨x, px, rfl, hb, ?_⟩
      repeat' (split at h; · rename_i e; subst e; cases h; decide +kernel)
      cases h
    · cases h
  | _ => simp [tyOf] at h
theorem ty_fix {K : PySem.W.Frag} {ρ : List Addr} {S : Store} {H : Hp} {n : Nat} {x : Addr} {ys : List D} (sm : Sim K ρ S H) (hl : listAt S n = some ys) (hr : ρ[n]? = some x) : TyX K H (.ref x) (.type "list") := by
  unfold listAt at hl
  split at hl
  · rename_i zs hz
    obtain ⟨vs, h1, _⟩ := sm.obj n _ x hz hr
    exact .base (.lst h1)
  · rename_i zs hz
    obtain ⟨vs, h1, _⟩ := sm.obj n _ x hz hr
    rcases h1 with ⟨o, h1⟩ | (h1 | ⟨o, h1⟩) | ⟨o, its, m, h1, h2, _⟩
    · exact .base (.frz h1)
    · cases h1
    · cases h1
    · exact .kList h1 h2
  · cases hl
theorem ty_tup {K : PySem.W.Frag} {H : Hp} {x : Addr} {vs : List V} (h : SqT K H x vs) : TyX K H (.ref x) (.type "tuple") := by
  rcases h with (h | ⟨o, h⟩) | ⟨o, its, n, h1, h2, _⟩
  · exact .base (.tup h)
  · exact .fTuple h
  · exact .kTuple h1 h2
theorem k_isty (M : Mat X p c k) {t : Ty} {px : Pos} (hg : bltB c ("isinstance" : Str) = true) (hs : notStar a = true) (ht : tyOf c d = some t) (ha : PE X a (tE p X.K ca)) :
    PE X (.Call (.Name "isinstance" px) [a, d] [] pos) (tE p X.K (.isty ca t)) := by
  obtain ⟨x, pd, ed, hd, hv⟩ := tyOf_val ht
  subst ed
  obtain ⟨g1, g2, g3⟩ := M.bl hg
  obtain ⟨b1, b2, b3⟩ := bad3 g3
  obtain ⟨f1, f2, f3⟩ := M.bl hd
  obtain ⟨c1, c2, c3⟩ := bad3 f3
  have hN : PE X (.Name x pd) (tC (.ty (tyName t))) := pe_bltn f1 f2 hv rfl c3 c1
  refine PE.imp (pe_callB call_isi g1 g2 (by decide +kernel) (pa_cons ha (pa_cons hN pa_nil) (star1 hs _ _)) b3 b1 (star1 hs _ _) rfl) fun σ H Q h => ?_
  obtain ⟨ρ, S, e, y, sm, en, h, kq⟩ := h
  simp only [ev, Option.bind_eq_some_iff, Option.map_eq_some_iff] at h
  obtain ⟨⟨d1, S1⟩, h1, b, h2, h3⟩ := h
  subst h3
  refine st1 sm en h1 fun ρ1 H1 v p1 g1 s1 e1 r1 => ?_
  have fin : ∀ {T : String}, TyX X.K H1 v (.type T) → kitB T (tyName t) = some b → ∃ (x c : V) (t' u : Value) (b : Bool), [v, V.ty (tyName t)] = [x, c] ∧ ClsV c u ∧ TyX X.K H1 x t' ∧ PySem.W.kitOne X.K t' u = some b ∧ Q (.bl b) H1 :=
    fun {T} ty hk => ⟨v, .ty (tyName t), .type T, .type (tyName t), b, rfl, .ty _, ty, kit_ty hk, (kq.mono p1 g1).here s1 (.bl _)⟩
  cases r1 with
  | non => simp only [tyop, Option.some.injEq] at h2; subst h2; exact fin (.base .non) (by cases t <;> decide +kernel)
  | bl q => simp only [tyop, Option.some.injEq] at h2; subst h2; exact fin (.base (.bl q)) (by cases t <;> decide +kernel)
  | int q => simp only [tyop, Option.some.injEq] at h2; subst h2; exact fin (.base (.int q)) (by cases t <;> decide +kernel)
  | str q => simp only [tyop, Option.some.injEq] at h2; subst h2; exact fin (.base (.str q)) (by cases t <;> decide +kernel)
  | fn q => simp only [tyop] at h2; cases h2
  | tup q1 q2 => simp only [tyop, Option.some.injEq] at h2; subst h2; exact fin (ty_tup q1) (by cases t <;> decide +kernel)
  | ref q1 =>
    simp only [tyop, Option.map_eq_some_iff] at h2
    obtain ⟨ys, hl, h2⟩ := h2
    subst h2
    exact fin (ty_fix s1 hl q1) (by cases t <;> decide +kernel)
/-! ### append -/
theorem plainBase_ok (h : plainBase a = true) (m : Str) (env : Env) (w : Sem Value) : attributeBase a m env w = w := by
  cases a <;> first | rfl | (simp [plainBase] at h; done)
theorem k_app {o : Expr} {ap cp : Pos} (hap : (ap.endLine == cp.line) = true) (h1 : notStar a = true) (hb : plainBase o = true) (ho : PE X o (tE p X.K ca)) (ha : PE X a (tE p X.K cb)) :
    PE X (.Call (.Attribute o "append" ap) [a] [] cp) (tE p X.K (.app ca cb)) := by
  refine PE.imp (pe_bm PySem.F.plainAttrs_list PySem.F.slot_list_append PySem.F.type_list_append mt_append ho (pa_cons ha pa_nil (star1 h1 _ _)) (plainBase_ok hb _ _ _) (by rw [star1 h1]; rfl) hap (star1 h1 _ _) rfl) fun σ H Q h => ?_
  obtain ⟨ρ, S, e, y, sm, en, h, kq⟩ := h
  simp only [ev, Option.bind_eq_some_iff] at h
  obtain ⟨⟨d1, S1⟩, h1, ⟨d2, S2⟩, h2, h3⟩ := h
  split at h3
  · rename_i n hn
    simp only at hn
    subst hn
    simp only [Option.map_eq_some_iff] at h3
    obtain ⟨S3, h4, h5⟩ := h3
    subst h5
    unfold push at h4
    split at h4
    · rename_i xs hx
      split at h4
      · rename_i hz
        cases h4
        refine st1 sm en h1 fun ρ1 H1 v p1 g1 s1 e1 r1 => ?_
        obtain ⟨A, eA, hA⟩ := rep_ref r1
        subst eA
        refine ⟨.inl ⟨rfl, ?_⟩, st1 s1 e1 h2 fun ρ2 H2 w p2 g2 s2 e2 r2 => ?_⟩
        · obtain ⟨o1, ho1, hr1⟩ := s1.at' hA
          cases o1 with
          | lst zs => obtain ⟨vs, q1, _⟩ := hr1; exact ⟨vs, SqL.of q1⟩
          | ro zs => obtain ⟨vs, q1, _⟩ := hr1; exact ⟨vs, q1.sql⟩
        · have hA2 := p2 _ _ hA
          obtain ⟨vs, q1, q2⟩ := s2.obj n _ A hx hA2
          refine ⟨A, vs, w, rfl, rfl, q1, by rw [q2.length]; exact hz, ?_⟩
          have rr := q2.append (.cons r2 .nil)
          exact ((kq.mono (p1.trans p2) (g1.trans g2)).mono (Pre.refl _) (Gro.mut q1)).here (s2.put hx hA2 q1 rr) .non
      · cases h4
    · cases h4
  · cases h3
end
end Tm

set_option Elab.async false
set_option linter.all false
set_option maxRecDepth 100000
set_option maxHeartbeats 4000000
namespace Tm
open PySem PySem.Spec PyProof.Rows L2
/-! ## targets -/
def tG (K : PySem.W.Frag) (t : Tg) : TG := fun v σ H Q => ∃ (ρ : List Addr) (S : Store) (e : Env') (d : D) (e1 : Env'), Sim K ρ S H ∧ EnvR K ρ H e σ ∧ Rep K ρ H v d ∧ bindT t d S e = some e1 ∧
  ∀ σ' : L2.St, EnvR K ρ H e1 σ' → (∀ own : List Nat, tgIn own t = true → wipe σ' own = wipe σ own) → Q σ' H
def tGs (K : PySem.W.Frag) (t : Tg) : TGs := fun vs σ H Q => ∃ (ρ : List Addr) (S : Store) (e : Env') (ds : List D) (e1 : Env'), Sim K ρ S H ∧ EnvR K ρ H e σ ∧ Reps K ρ H vs ds ∧ bindTs t ds S e = some e1 ∧
  ∀ σ' : L2.St, EnvR K ρ H e1 σ' → (∀ own : List Nat, tgIn own t = true → wipe σ' own = wipe σ own) → Q σ' H
theorem PG.imp {X : Cx} {e : Expr} {t t' : TG} (h : PG X e t) (f : ∀ v σ H Q, t' v σ H Q → t v σ H Q) : PG X e t' := ⟨fun pins s σ H v u Q I r q => h.run pins s σ H v u Q I r (f v σ H Q q)⟩
theorem PGs.imp {X : Cx} {e : List Expr} {t t' : TGs} (h : PGs X e t) (f : ∀ v σ H Q, t' v σ H Q → t v σ H Q) : PGs X e t' := ⟨fun pins s σ H v u Q I r q => h.run pins s σ H v u Q I r (f v σ H Q q)⟩
theorem PG.or {X : Cx} {e : Expr} {t t' : TG} (h : PG X e t) (h' : PG X e t') : PG X e (fun v σ H Q => t v σ H Q ∨ t' v σ H Q) := ⟨fun pins s σ H v u Q I r q => q.elim (h.run pins s σ H v u Q I r) (h'.run pins s σ H v u Q I r)⟩
theorem wipe_set {σ : L2.St} {i : Nat} {x : Option V} : ∀ {own : List Nat}, i ∈ own → wipe (σ.set i x) own = wipe σ own
  | v :: vs, h => by
    unfold wipe
    by_cases e : i ∈ vs
    · rw [wipe_set e]
    · have hv : i = v := by
        rcases List.mem_cons.mp h with z | z
        · exact z
        · exact absurd z e
      subst hv
      have comm : ∀ (l : List Nat) (σ : L2.St), i ∉ l → wipe (σ.set i x) l = (wipe σ l).set i x := by
        intro l
        induction l with
        | nil => intro σ _; rfl
        | cons w ws ih =>
          intro σ hn
          rw [List.mem_cons, not_or] at hn
          unfold wipe
          rw [ih σ hn.2, List.set_comm _ _ hn.1]
      rw [comm vs σ e, List.set_set]
theorem EnvR.set {K : PySem.W.Frag} {ρ : List Addr} {H : Hp} {e : Env'} {σ : L2.St} (h : EnvR K ρ H e σ) {v : V} {d : D} (r : Rep K ρ H v d) (i : Nat) : EnvR K ρ H (e.set i (some d)) (σ.set i (some v)) := by
  refine ⟨by rw [List.length_set, List.length_set]; exact h.1, fun j f hj => ?_⟩
  by_cases q : i = j
  · subst q
    by_cases hl : i < e.length
    · rw [List.getElem?_set_self hl] at hj
      cases hj
      exact ⟨v, by rw [List.getElem?_set_self (by rw [← h.1]; exact hl)], r⟩
    · rw [List.getElem?_eq_none (by rw [List.length_set]; omega)] at hj
      cases hj
  · rw [List.getElem?_set_ne q] at hj ⊢
    exact h.2 j f hj
theorem EnvR.drop {K : PySem.W.Frag} {ρ : List Addr} {H : Hp} {e : Env'} {σ : L2.St} (h : EnvR K ρ H e σ) (i : Nat) : EnvR K ρ H (e.set i none) (σ.set i none) := by
  refine ⟨by rw [List.length_set, List.length_set]; exact h.1, fun j f hj => ?_⟩
  by_cases q : i = j
  · subst q
    by_cases hl : i < e.length
    · rw [List.getElem?_set_self hl] at hj
      cases hj
    · rw [List.getElem?_eq_none (by rw [List.length_set]; omega)] at hj
      cases hj
  · rw [List.getElem?_set_ne q] at hj ⊢
    exact h.2 j f hj
theorem EnvR.wipe {K : PySem.W.Frag} {ρ : List Addr} {H : Hp} {e : Env'} {σ : L2.St} (h : EnvR K ρ H e σ) : ∀ own : List Nat, EnvR K ρ H (wipeE e own) (L2.wipe σ own)
  | [] => h
  | v :: vs => (EnvR.wipe h vs).drop v
section
variable {X : Cx} {p : Pm} {c : Cc} {k : Nat} {e a b d : Expr} {es : List Expr} {ca cb cd : C} {pos : Pos}
theorem k_gbad : PG X e (tG X.K .bad) := ⟨fun _ _ _ _ _ _ _ _ _ h => by obtain ⟨_, _, _, _, _, _, _, _, h, _⟩ := h; simp [bindT] at h⟩
theorem k_gsbad : PGs X es (tGs X.K .bad) := ⟨fun _ _ _ _ _ _ _ _ _ h => by obtain ⟨_, _, _, ds, _, _, _, _, h, _⟩ := h; cases ds <;> simp [bindTs] at h⟩
theorem k_gname (M : Mat X p c k) {x : Str} {i : Nat} (hl : locB c x = true) (hi : ixOf c.N x = some i) : PG X (.Name x pos) (tG X.K (.nm i)) := by
  obtain ⟨h1, h2⟩ := M.loc hl
  refine PG.imp (pg_name (i := i) (by rw [M.hN]; exact M.nd) (by rw [M.hN]; exact ixOf_get hi) h1 h2) fun v σ H Q h => ?_
  obtain ⟨ρ, S, e, d, e1, sm, en, r, h, q⟩ := h
  simp only [bindT] at h
  split at h
  · cases h
    refine q _ (en.set r i) fun own ho => wipe_set ?_
    simpa [tgIn] using ho
  · cases h
theorem assign_each (h : es.all notStar = true) (env : Env) : (assignEach es env).length = es.length ∧ (assignEach es env).findIdx? (·.1) = none ∧ ∀ e r, es = e :: r → (assignEach (e :: r) env).map (·.2) = assign e env :: (assignEach r env).map (·.2) := by
  have one : ∀ (e : Expr) (r : List Expr), notStar e = true → assignEach (e :: r) env = (false, assign e env) :: assignEach r env := by
    intro e r he
    cases e <;> first | rfl | (simp [notStar] at he; done)
  induction es with
  | nil => exact ⟨rfl, rfl, fun e r z => by cases z⟩
  | cons e r ih =>
    rw [List.all_cons, Bool.and_eq_true] at h
    obtain ⟨i1, i2, i3⟩ := ih h.2
    refine ⟨by rw [one e r h.1, List.length_cons, List.length_cons, i1], ?_, fun e' r' z => ?_⟩
    · rw [one e r h.1, List.findIdx?_cons, i2]; rfl
    · cases z
      rw [one e r h.1]; rfl
theorem k_gtup (M : Mat X p c k) {kk : Nat} {t : Tg} (hst : es.all notStar = true) (h : PGs X es (tGs X.K t)) : PG X (.Tuple es kk pos) (tG X.K (.tp es.length t)) := by
  obtain ⟨a1, a2, _⟩ := assign_each hst X.env
  refine PG.imp (PG.or (pg_tup (n := es.length) M.calm h a1 a2) (pg_lst (n := es.length) M.calm h a1 a2)) fun v σ H Q h => ?_
  obtain ⟨ρ, S, e, d, e1, sm, en, r, h, q⟩ := h
  cases r with
  | tup h1 r1 =>
    simp only [bindT] at h
    split at h
    · rename_i hn
      exact .inl ⟨_, _, rfl, h1, by rw [r1.length]; exact hn, ρ, S, e, _, e1, sm, en, r1, h, q⟩
    · cases h
  | ref h1 =>
    simp only [bindT, Option.bind_eq_some_iff] at h
    obtain ⟨ys, hl, h⟩ := h
    obtain ⟨vs, hq, r1⟩ := sm.list hl h1
    split at h
    · rename_i hn
      exact .inr ⟨_, vs, rfl, hq, by rw [r1.length]; exact hn, ρ, S, e, ys, e1, sm, en, r1, h, q⟩
    · cases h
  | _ => simp [bindT] at h
theorem k_gsnil : PGs X [] (tGs X.K .nil) := PGs.imp pgs_nil fun vs σ H Q h => by
  obtain ⟨ρ, S, e, ds, e1, sm, en, r, h, q⟩ := h
  cases r with
  | nil => simp only [bindTs, Option.some.injEq] at h; subst h; exact ⟨rfl, q σ en fun _ _ => rfl⟩
  | cons _ _ => simp [bindTs] at h
theorem k_gscons {t u : Tg} (hs : notStar a = true) (ha : PG X a (tG X.K t)) (hb : PGs X es (tGs X.K u)) (hst : es.all notStar = true) : PGs X (a :: es) (tGs X.K (.cons t u)) := by
  have hst2 : (a :: es).all notStar = true := by rw [List.all_cons, Bool.and_eq_true]; exact ⟨hs, hst⟩
  obtain ⟨_, _, a3⟩ := assign_each hst2 X.env
  refine PGs.imp (pgs_cons ha hb (a3 a es rfl)) fun vs σ H Q h => ?_
  obtain ⟨ρ, S, e, ds, e1, sm, en, r, h, q⟩ := h
  cases r with
  | nil => simp [bindTs] at h
  | cons r1 r2 =>
    simp only [bindTs, Option.bind_eq_some_iff] at h
    obtain ⟨e2, h1, h2⟩ := h
    refine ⟨_, _, rfl, ρ, S, e, _, e2, sm, en, r1, h1, fun σ1 en1 w1 => ⟨ρ, S, e2, _, e1, sm, en1, r2, h2, fun σ2 en2 w2 => q σ2 en2 fun own ho => ?_⟩⟩
    simp only [tgIn, Bool.and_eq_true] at ho
    rw [w2 own ho.2, w1 own ho.1]
/-! ## what is walked -/
theorem chks_app {S : Store} : ∀ {l m : List D}, chks S (l ++ m) = true → chks S l = true ∧ chks S m = true
  | [], m, h => ⟨rfl, h⟩
  | x :: l, m, h => by
    simp only [List.cons_append, chks, Bool.and_eq_true] at h ⊢
    exact ⟨⟨h.1, (chks_app h.2).1⟩, (chks_app h.2).2⟩
/-- a list or a tuple that is walked: what it is, at every turn -/
theorem src_list {K : PySem.W.Frag} {ρ ρ2 : List Addr} {S S2 : Store} {H H2 : Hp} {n : Nat} {A : Addr} {ys : List D} (hA : ρ[n]? = some A) (p2 : Pre ρ ρ2) (s2 : Sim K ρ2 S2 H2) (hc : chks S2 [.tup [.ref n, .tup ys]] = true) :
    ∃ vs, SqL K H2 A vs ∧ Reps K ρ2 H2 vs ys := by
  simp only [chks, chk1, Bool.and_true] at hc
  split at hc
  · rename_i zs hz
    have e := D.beqs_eq _ _ hc
    subst e
    exact s2.list hz (p2 _ _ hA)
  · cases hc
theorem it_list {K : PySem.W.Frag} {ρ : List Addr} {H : Hp} {n : Nat} {A : Addr} {ys : List D} (hA : ρ[n]? = some A) :
    ItOk K ρ H ys [.tup [.ref n, .tup ys]] (Itl K A) := by
  intro ρ2 S2 H2 p2 g2 s2 hc i
  obtain ⟨vs, hq, r⟩ := src_list (H := H) (S := S2) hA p2 s2 hc
  refine ⟨fun e => ⟨vs, hq, by rw [r.length, e]; exact Nat.le_refl _⟩, fun d hd => ?_⟩
  obtain ⟨v, hv, rv⟩ := r.get hd
  refine ⟨⟨vs, v, hq, hv⟩, fun x H3 hy => ?_⟩
  obtain ⟨e, hx⟩ := hy
  subst e
  have q := hx vs hq
  rw [hv] at q
  cases q
  exact ⟨Gro.refl _, s2, rv⟩
theorem it_tup {K : PySem.W.Frag} {ρ : List Addr} {H : Hp} {A : Addr} {vs : List V} {ys cks : List D} (h : SqT K H A vs) (r : Reps K ρ H vs ys) : ItOk K ρ H ys cks (Itt K A) := by
  intro ρ2 S2 H2 p2 g2 s2 hc i
  have hq := g2.sqt h
  have r := r.mono g2 p2
  refine ⟨fun e => ⟨vs, hq, by rw [r.length, e]; exact Nat.le_refl _⟩, fun d hd => ?_⟩
  obtain ⟨v, hv, rv⟩ := r.get hd
  refine ⟨⟨vs, v, hq, hv⟩, fun x H3 hy => ?_⟩
  obtain ⟨e, hx⟩ := hy
  subst e
  have q := hx vs hq
  rw [hv] at q
  cases q
  exact ⟨Gro.refl _, s2, rv⟩
theorem it_rng {K : PySem.W.Frag} {ρ : List Addr} {H : Hp} {lo : Int} {n : Nat} {cks : List D} : ItOk K ρ H (rng lo n) cks (Itr lo n) := by
  intro ρ2 S2 H2 p2 g2 s2 hc i
  have hl : (rng lo n).length = n := by simp [rng]
  refine ⟨fun e => by show n ≤ i; omega, fun d hd => ?_⟩
  have hi : i < n := by have := (List.getElem?_eq_some_iff.mp hd).1; omega
  refine ⟨hi, fun x H3 hy => ?_⟩
  obtain ⟨e, hx⟩ := hy
  subst e; subst hx
  have : d = .int (lo + (i : Int)) := by
    simp [rng, hi] at hd
    exact hd.symm
  subst this
  exact ⟨Gro.refl _, s2, .int _⟩
theorem it_revL {K : PySem.W.Frag} {ρ : List Addr} {H : Hp} {n : Nat} {A : Addr} {ys : List D} {m : Nat} (hm : m = ys.length) (hA : ρ[n]? = some A) : ItOk K ρ H ys.reverse [.tup [.ref n, .tup ys]] (Itv K A m) := by
  subst hm
  intro ρ2 S2 H2 p2 g2 s2 hc i
  obtain ⟨vs, hq, r⟩ := src_list (H := H) (S := S2) hA p2 s2 hc
  refine ⟨fun e => by show _ ≤ i; rw [e, List.length_reverse]; exact Nat.le_refl _, fun d hd => ?_⟩
  have hi : i < ys.length := by have := (List.getElem?_eq_some_iff.mp hd).1; rw [List.length_reverse] at this; exact this
  rw [List.getElem?_reverse hi] at hd
  obtain ⟨v, hv, rv⟩ := r.get hd
  refine ⟨⟨hi, vs, v, hq, hv⟩, fun x H3 hy => ?_⟩
  obtain ⟨e, hx⟩ := hy
  subst e
  have q := hx vs hq
  rw [hv] at q
  cases q
  exact ⟨Gro.refl _, s2, rv⟩
theorem it_revT {K : PySem.W.Frag} {ρ : List Addr} {H : Hp} {A : Addr} {vs : List V} {ys cks : List D} {m : Nat} (hm : m = ys.length) (h : SqT K H A vs) (r : Reps K ρ H vs ys) : ItOk K ρ H ys.reverse cks (RT.ItvT K A m) := by
  subst hm
  intro ρ2 S2 H2 p2 g2 s2 hc i
  have hq := g2.sqt h
  have r := r.mono g2 p2
  refine ⟨fun e => by show _ ≤ i; rw [e, List.length_reverse]; exact Nat.le_refl _, fun d hd => ?_⟩
  have hi : i < ys.length := by have := (List.getElem?_eq_some_iff.mp hd).1; rw [List.length_reverse] at this; exact this
  rw [List.getElem?_reverse hi] at hd
  obtain ⟨v, hv, rv⟩ := r.get hd
  refine ⟨⟨hi, vs, v, hq, hv⟩, fun x H3 hy => ?_⟩
  obtain ⟨e, hx⟩ := hy
  subst e
  have q := hx vs hq
  rw [hv] at q
  cases q
  exact ⟨Gro.refl _, s2, rv⟩
theorem enumF_len : ∀ (i : Nat) (l : List D), (enumF i l).length = l.length
  | _, [] => rfl
  | i, d :: l => by simp [enumF, enumF_len (i + 1) l]
theorem enumF_get : ∀ (l : List D) (i j : Nat) (d : D), (enumF i l)[j]? = some d → ∃ f, l[j]? = some f ∧ d = .tup [.int ((i + j : Nat) : Int), f]
  | [], i, j, d, h => by simp [enumF] at h
  | x :: l, i, 0, d, h => by
    simp [enumF] at h
    exact ⟨x, rfl, h.symm⟩
  | x :: l, i, j + 1, d, h => by
    simp only [enumF, List.getElem?_cons_succ] at h
    obtain ⟨f, h1, h2⟩ := enumF_get l (i + 1) j d h
    exact ⟨f, by simpa using h1, by rw [h2, show i + 1 + j = i + (j + 1) by omega]⟩
theorem it_enum {K : PySem.W.Frag} {ρ : List Addr} {H : Hp} {n : Nat} {A : Addr} {ys : List D} (hA : ρ[n]? = some A) : ItOk K ρ H (enumF 0 ys) [.tup [.ref n, .tup ys]] (Ite K A) := by
  intro ρ2 S2 H2 p2 g2 s2 hc i
  obtain ⟨vs, hq, r⟩ := src_list (H := H) (S := S2) hA p2 s2 hc
  refine ⟨fun e => ⟨vs, hq, by rw [r.length, e, enumF_len]; exact Nat.le_refl _⟩, fun d hd => ?_⟩
  obtain ⟨f, hf, ed⟩ := enumF_get ys 0 i d hd
  obtain ⟨v, hv, rv⟩ := r.get hf
  refine ⟨⟨vs, v, hq, hv⟩, fun x H3 hy => ?_⟩
  obtain ⟨T, y, ex, hT, eH, hx⟩ := hy
  have q := hx vs hq
  rw [hv] at q
  cases q
  subst ex; subst eH; subst ed
  rw [Nat.zero_add]
  exact ⟨Gro.new hT, s2.tup hT, .tup (SqT.of upd_same) (.cons (.int _) (.cons (rv.mono (Gro.new hT) (Pre.refl _)) .nil))⟩
theorem zipF_get : ∀ (l m : List D) (j : Nat) (d : D), (zipF l m)[j]? = some d → ∃ f g, l[j]? = some f ∧ m[j]? = some g ∧ d = .tup [f, g]
  | [], _, j, d, h => by simp [zipF] at h
  | _ :: _, [], j, d, h => by simp [zipF] at h
  | x :: l, y :: m, 0, d, h => by simp [zipF] at h; exact ⟨x, y, rfl, rfl, h.symm⟩
  | x :: l, y :: m, j + 1, d, h => by
    simp only [zipF, List.getElem?_cons_succ] at h
    obtain ⟨f, g, h1, h2, h3⟩ := zipF_get l m j d h
    exact ⟨f, g, by simpa using h1, by simpa using h2, h3⟩
theorem zipF_len : ∀ (l m : List D), (zipF l m).length = min l.length m.length
  | [], m => by simp [zipF]
  | _ :: _, [] => by simp [zipF]
  | x :: l, y :: m => by simp only [zipF, List.length_cons, zipF_len l m]; omega
theorem it_zipL {K : PySem.W.Frag} {ρ : List Addr} {H : Hp} {n m : Nat} {A B : Addr} {ys zs : List D} (hA : ρ[n]? = some A) (hB : ρ[m]? = some B) : ItOk K ρ H (zipF ys zs) ([.tup [.ref n, .tup ys]] ++ [.tup [.ref m, .tup zs]]) (Itz K A B) := by
  intro ρ2 S2 H2 p2 g2 s2 hc i
  obtain ⟨hc1, hc2⟩ := chks_app hc
  obtain ⟨vs, hq, r⟩ := src_list (H := H) (S := S2) hA p2 s2 hc1
  obtain ⟨ws, hw, r2⟩ := src_list (H := H) (S := S2) hB p2 s2 hc2
  refine ⟨fun e => ⟨vs, ws, hq, hw, by rw [r.length, r2.length, e, zipF_len]; omega⟩, fun d hd => ?_⟩
  obtain ⟨f, g, hf, hg, ed⟩ := zipF_get ys zs i d hd
  obtain ⟨v, hv, rv⟩ := r.get hf
  obtain ⟨w, hv2, rv2⟩ := r2.get hg
  refine ⟨⟨vs, ws, v, w, hq, hw, hv, hv2⟩, fun x H3 hy => ?_⟩
  obtain ⟨T, y, z, ex, hT, eH, hx, hx2⟩ := hy
  have q := hx vs hq
  have q2 := hx2 ws hw
  rw [hv] at q
  rw [hv2] at q2
  cases q; cases q2
  subst ex; subst eH; subst ed
  exact ⟨Gro.new hT, s2.tup hT, .tup (SqT.of upd_same) (.cons (rv.mono (Gro.new hT) (Pre.refl _)) (.cons (rv2.mono (Gro.new hT) (Pre.refl _)) .nil))⟩
theorem it_zipT {K : PySem.W.Frag} {ρ : List Addr} {H : Hp} {A B : Addr} {vs ws : List V} {ys zs cks : List D} (hq : SqT K H A vs) (r : Reps K ρ H vs ys) (hw : SqT K H B ws) (r2 : Reps K ρ H ws zs) : ItOk K ρ H (zipF ys zs) cks (RZ.ItzT K A B) := by
  intro ρ2 S2 H2 p2 g2 s2 hc i
  have hq := g2.sqt hq
  have r := r.mono g2 p2
  have hw := g2.sqt hw
  have r2 := r2.mono g2 p2
  refine ⟨fun e => ⟨vs, ws, hq, hw, by rw [r.length, r2.length, e, zipF_len]; omega⟩, fun d hd => ?_⟩
  obtain ⟨f, g, hf, hg, ed⟩ := zipF_get ys zs i d hd
  obtain ⟨v, hv, rv⟩ := r.get hf
  obtain ⟨w, hv2, rv2⟩ := r2.get hg
  refine ⟨⟨vs, ws, v, w, hq, hw, hv, hv2⟩, fun x H3 hy => ?_⟩
  obtain ⟨T, y, z, ex, hT, eH, hx, hx2⟩ := hy
  have q := hx vs hq
  have q2 := hx2 ws hw
  rw [hv] at q
  rw [hv2] at q2
  cases q; cases q2
  subst ex; subst eH; subst ed
  exact ⟨Gro.new hT, s2.tup hT, .tup (SqT.of upd_same) (.cons (rv.mono (Gro.new hT) (Pre.refl _)) (.cons (rv2.mono (Gro.new hT) (Pre.refl _)) .nil))⟩
end
end Tm

set_option Elab.async false
set_option linter.all false
set_option maxRecDepth 100000
set_option maxHeartbeats 4000000
namespace Tm
open PySem PySem.Spec PyProof.Rows L2
/-! ## zip of a tuple and a text -/
def ItzTS (K : PySem.W.Frag) (a : Addr) (x : Str) : It where
  go := fun i H => ∃ (xs : List V) (y : V), SqT K H a xs ∧ xs[i]? = some y ∧ i < x.cps.size
  yld := fun i H v H' => ∃ (T : Addr) (y : V) (c : Nat), v = .ref T ∧ H T = none ∧ H' = upd H T (.tup [y, .str ⟨#[c]⟩]) ∧ (∀ xs, SqT K H a xs → xs[i]? = some y) ∧ x.cps[i]? = some c
  stop := fun i H => ∃ xs, SqT K H a xs ∧ i ≤ xs.length ∧ i ≤ x.cps.size ∧ (i = xs.length ∨ i = x.cps.size)
theorem istup_tuple {h : Heap} {a : Addr} {its : Array Value} (t : IsTup h a its) : h.IsTuple a its := by
  exact t
theorem sep2 {z TI TO i1 i2 a : Addr} (ap : ZipApart z TI TO i1 i2 a a) : ZipSep2 z TI TO i1 i2 [i1, a] [i2] where
  TIz := ap.TIz
  TOz := ap.TOz
  TITO := ap.TITO
  TIi1 := ap.TIi1
  mem1 := by simp
  zf1 := by simp [ap.i1z.symm, ap.l1z.symm]
  Tf1 := by simp [ap.TOi1, ap.l1TO.symm]
  TIi2 := ap.TIi2
  mem2 := by simp
  zf2 := by simp [ap.i2z.symm]
  Tf2 := by simp [ap.TOi2]
  sep1_2 := by simp [ap.i12]
  sep2_1 := by simp [ap.i12.symm, ap.l1i2.symm]
theorem turn_zipTS {P : Program} {w : World} {K : PySem.W.Frag} {elts : List Expr} {kk : Nat} {tpos : Pos} {a z TI TO i1 i2 : Addr} {x : Str} {t : Tok} (ap : ZipApart z TI TO i1 i2 a a) :
    Turn P w K (Expr.Tuple elts kk tpos) (ItzTS K a x) [z, TI, TO, i1, i2] z fun i h =>
      IsZip h z TI TO Value.none ∧ IsTupOf2 h TI (.ref i1) (.ref i2) ∧ (∃ u v, IsTupOf2 h TO u v) ∧ h.IsTupleIter i1 a i ∧ h.IsStrIter i2 (strIterType x) x t i where
  mem := by simp
  obj := by
    rintro i h ⟨h1, h2, ⟨u, v, h3⟩, ⟨o4, h4, c4, d4⟩, ⟨o5, h5, c5, d5⟩⟩ b hb
    simp only [List.mem_cons, List.not_mem_nil, or_false] at hb
    rcases hb with rfl | rfl | rfl | rfl | rfl
    · exact ⟨_, h1, fun v e => by cases e⟩
    · exact ⟨_, h2, fun v e => by cases e⟩
    · exact ⟨_, h3, fun v e => by cases e⟩
    · exact ⟨_, h4, fun v e => by rw [d4] at e; cases e⟩
    · exact ⟨_, h5, fun v e => by rw [d5] at e; cases e⟩
  keep := by
    rintro i h h' ⟨h1, h2, ⟨u, v, h3⟩, ⟨o4, h4, c4, d4⟩, ⟨o5, h5, c5, d5⟩⟩ k
    exact ⟨k _ (by simp) _ h1, k _ (by simp) _ h2, ⟨u, v, k _ (by simp) _ h3⟩, ⟨o4, k _ (by simp) _ h4, c4, d4⟩, ⟨o5, k _ (by simp) _ h5, c5, d5⟩⟩
  item := by
    rintro X rfl rfl rfl calm i pins s σ H E I fp ⟨h1, h2, ⟨u, v, h3⟩, h4, h5⟩ ⟨xs, y, hq, hy, hi⟩
    obtain ⟨its, rv, ht, hl⟩ := I.tuple hq
    have hd := I.ok.hd calm
    have D1 := Draws.tuple (prog := X.prog) (w := X.w) (A := X.A.in1) hd i1 a ap.l1i1 its.toArray
    have D2 := Draws.text (prog := X.prog) (w := X.w) (A := X.A.in1) hd i2 x t
    have hlen : i < its.toArray.size := by
      rw [List.size_toArray, ← rv.length]
      exact (List.getElem?_eq_some_iff.mp hy).1
    refine wpAny_pyNext_zipD2_item (sep2 ap) D1 D2 h1 h2 h3 ⟨h4, istup_tuple ht⟩ h5 hlen hi fun x1 x2 h' tk p1 p2 k1 k2 k3 k4 k5 k6 k7 => ?_
    obtain ⟨c, uu, hc, rfl⟩ := p2
    refine ⟨_, rfl, ?_⟩
    refine wpAny_letOwnedTupleGo_zip k1 fun h2' m1 m2 => ?_
    obtain ⟨y', hy', ry⟩ := rv.get hy
    have ex1 : y' = x1 := by
      rw [List.getElem?_toArray] at p1
      rw [p1] at hy'
      exact (Option.some.inj hy').symm
    subst ex1
    have mv : ∀ (b : Addr) (o : Obj), b ≠ z → h'.get? b = some o → h2'.get? b = some o := fun b o nb hb => (m2.2 b nb).trans hb
    have nz : s.heap.objs.size ≠ z := fun e => by have := Heap.lt_size h1; rw [← e] at this; exact absurd this (Nat.lt_irrefl _)
    have fT : H s.heap.objs.size = none := I.hok.fresh (Nat.le_refl _)
    refine ⟨.ref s.heap.objs.size, upd H s.heap.objs.size (.tup [y, .str ⟨#[c]⟩]), ?_, rfl, ⟨_, y, c, rfl, fT, rfl, fun ys hys => ?_, hc⟩, ⟨m1, ?_, ?_, ?_, ?_⟩, fun b hb => ?_⟩
    · refine I.turnedNew (ch := [z, TO, i1, i2]) (fun b o nb hb => ?_) (fun b hb => ?_) (Nat.le_refl _) ?_
      · simp only [List.mem_cons, List.not_mem_nil, or_false, not_or] at nb
        exact mv b o nb.1 (k7 b o nb.1 nb.2.1 nb.2.2.1 nb.2.2.2 hb)
      · simp only [List.mem_cons, List.not_mem_nil, or_false] at hb
        exact fp b (by simp only [List.mem_cons, List.not_mem_nil, or_false]; rcases hb with h | h | h | h <;> simp [h])
      · exact ⟨by show 2 ≤ sizeLine; decide, _, .cons ry (.cons ⟨uu, rfl⟩ .nil), ⟨_, mv _ _ nz k5, rfl, _, rfl⟩⟩
    · rw [I.tuple_inj hys hq]; exact hy
    · exact mv _ _ ap.TIz (k7 _ _ ap.TIz ap.TITO ap.TIi1 ap.TIi2 h2)
    · exact ⟨_, _, mv _ _ ap.TOz k2⟩
    · exact k3.1.at fun o ho => mv _ _ ap.i1z ho
    · obtain ⟨o, g1, g2, g3⟩ := k4
      exact ⟨o, mv _ _ ap.i2z g1, g2, g3⟩
    · have hne : b ≠ s.heap.objs.size := by
        have hlt : b < s.heap.objs.size := by
          simp only [List.mem_cons, List.not_mem_nil, or_false] at hb
          obtain ⟨o4, q4, _⟩ := h4
          obtain ⟨o5, q5, _⟩ := h5
          rcases hb with rfl | rfl | rfl | rfl | rfl
          · exact Heap.lt_size h1
          · exact Heap.lt_size h2
          · exact Heap.lt_size h3
          · exact Heap.lt_size q4
          · exact Heap.lt_size q5
        exact Nat.ne_of_lt hlt
      rw [upd_ne hne]
      exact (fp b hb).1
  done := by
    rintro X rfl rfl rfl calm i pins s σ H E I fp ⟨h1, h2, ⟨u, v, h3⟩, h4, h5⟩ ⟨xs, hq, hl1, hl2, hor⟩
    obtain ⟨its, rv, ht, hl⟩ := I.tuple hq
    have hd := I.ok.hd calm
    have D1 := Draws.tuple (prog := X.prog) (w := X.w) (A := X.A.in1) hd i1 a ap.l1i1 its.toArray
    have D2 := Draws.text (prog := X.prog) (w := X.w) (A := X.A.in1) hd i2 x t
    have hs : its.toArray.size = xs.length := by rw [List.size_toArray, ← rv.length]
    refine wpAny_pyNext_zipD2_end (sep2 ap) D1 D2 h1 h2 h3 ⟨h4, istup_tuple ht⟩ h5 (by omega) hl2 (by omega) fun h' tk k => ⟨rfl, ?_⟩
    refine I.turnedL (ch := [z, TO, i1, i2]) (fun b o nb hb => ?_) (fun b hb => ?_)
    · simp only [List.mem_cons, List.not_mem_nil, or_false, not_or] at nb
      exact k b o nb.1 nb.2.1 nb.2.2.1 nb.2.2.2 hb
    · simp only [List.mem_cons, List.not_mem_nil, or_false] at hb
      exact fp b (by simp only [List.mem_cons, List.not_mem_nil, or_false]; rcases hb with h | h | h | h <;> simp [h])
  self := by
    rintro A i s Q E ⟨h1, _⟩ q
    exact wpAny_pyIter_zip h1 q

theorem apart5 (n a : Nat) (h : a < n) : ZipApart (n + 4) (n + 2) (n + 3) n (n + 1) a a :=
  ⟨(by omega : ¬ ((n + 2 : Nat) = n + 4)), (by omega : ¬ ((n + 3 : Nat) = n + 4)), (by omega : ¬ ((n : Nat) = n + 4)), (by omega : ¬ ((n + 1 : Nat) = n + 4)), (by omega : ¬ ((n + 2 : Nat) = n + 3)), (by omega : ¬ ((n + 2 : Nat) = n)), (by omega : ¬ ((n + 2 : Nat) = n + 1)), (by omega : ¬ ((n + 3 : Nat) = n)), (by omega : ¬ ((n + 3 : Nat) = n + 1)), (by omega : ¬ ((n : Nat) = n + 1)), (by omega : ¬ ((a : Nat) = n + 4)), (by omega : ¬ ((a : Nat) = n + 3)), (by omega : ¬ ((a : Nat) = n)), (by omega : ¬ ((a : Nat) = n + 1)), (by omega : ¬ ((a : Nat) = n + 4)), (by omega : ¬ ((a : Nat) = n + 3)), (by omega : ¬ ((a : Nat) = n)), (by omega : ¬ ((a : Nat) = n + 1))⟩
def iZipTS (K : PySem.W.Frag) (ta : TA) : TI := fun σ H R => ta σ H fun vs H1 => ∃ (a : Addr) (xs : List V) (x : Str), vs = [.ref a, .str x] ∧ SqT K H1 a xs ∧ R (ItzTS K a x) H1
theorem pi_zipTS {X : Cx} {e e2 : Expr} {ta : TA} {p pos tpos : Pos} {elts : List Expr} {kk : Nat} (g1 : Gl X "zip") (g2 : X.mg "zip" = none) (ha : PA X [e, e2] ta)
    (hs : starEach [e, e2] X.env = (false, eval e X.env) :: starEach [e2] X.env) (hs2 : ((backTo pos (starEach [e2] X.env)).any fun x => x.1) = false) :
    PI X (.Tuple elts kk tpos) (.Call (.Name "zip" p) [e, e2] [] pos) (iZipTS X.K ta) := by
  refine ⟨fun pins s σ H R I h => ?_⟩
  refine Call_ (ld_blt I g1 g2 boot_zip ?_)
  refine PyProof.Rows.callWith_type1 (T := "zip") (e := e) (rest := [e2]) ?_ hs hs2
  refine thn (ha.run pos pins s σ H _ I h) fun us s1 hh => ?_
  obtain ⟨vs, H1, I1, rv, a, xs, x, ev', hq, r⟩ := hh
  subst ev'
  obtain ⟨its, ri, ht, hl⟩ := I1.tuple hq
  match us, rv with
  | [u1, u2], .cons q1 (.cons q2 .nil) =>
    cases q1
    obtain ⟨t, rfl⟩ := q2
    refine zip_begins2 (begins_tuple a its.toArray) (begins_text x t) (istup_tuple ht) trivial fun h' k1 k2 k3 k4 k5 k6 k7 => ?_
    refine wpAny_pyIter_zip k1 ?_
    have la : a < s1.heap.objs.size := by
      obtain ⟨o, g, _⟩ := ht
      exact Heap.lt_size g
    have I2 := I1.kept (h' := h') (t' := s1.toks) (fun b u hb => k7 b u hb)
    have fpk : ∀ b, s1.heap.objs.size ≤ b → FpOk X pins H1 b := fun b hb => I1.fpOk hb (I1.hok.fresh hb)
    refine ⟨_, [s1.heap.objs.size + 4, s1.heap.objs.size + 2, s1.heap.objs.size + 3, s1.heap.objs.size, s1.heap.objs.size + 1], _, ItzTS X.K a x, H1, rfl, I2,
      turn_zipTS (a := a) (x := x) (t := t) (z := s1.heap.objs.size + 4) (TI := s1.heap.objs.size + 2) (TO := s1.heap.objs.size + 3) (i1 := s1.heap.objs.size) (i2 := s1.heap.objs.size + 1)
        (apart5 s1.heap.objs.size a la),
      ⟨k1, k2, ⟨_, _, k3⟩, ⟨_, k4, rfl, rfl⟩, ⟨_, k5, rfl, rfl⟩⟩, fun b hb => ?_, r⟩
    simp only [List.mem_cons, List.not_mem_nil, or_false] at hb
    rcases hb with rfl | rfl | rfl | rfl | rfl
    · exact fpk _ (Nat.le_add_right _ _)
    · exact fpk _ (Nat.le_add_right _ _)
    · exact fpk _ (Nat.le_add_right _ _)
    · exact fpk _ (Nat.le_refl _)
    · exact fpk _ (Nat.le_add_right _ _)
theorem it_zipTS {K : PySem.W.Frag} {ρ : List Addr} {H : Hp} {A : Addr} {vs : List V} {ys cks : List D} {x : Str} (hq : SqT K H A vs) (r : Reps K ρ H vs ys) :
    ItOk K ρ H (zipF ys (x.cps.toList.map fun c => D.str ⟨#[c]⟩)) cks (ItzTS K A x) := by
  intro ρ2 S2 H2 p2 g2 s2 hc i
  have hq := g2.sqt hq
  have r := r.mono g2 p2
  refine ⟨fun e => ⟨vs, hq, ?_⟩, fun d hd => ?_⟩
  · rw [zipF_len] at e
    simp only [List.length_map, Array.length_toList] at e
    rw [r.length]; omega
  obtain ⟨f, g, hf, hg, ed⟩ := zipF_get ys _ i d hd
  obtain ⟨v, hv, rv⟩ := r.get hf
  rw [List.getElem?_map] at hg
  cases hx : x.cps.toList[i]? with
  | none => rw [hx] at hg; cases hg
  | some c =>
    rw [hx] at hg
    simp only [Option.map_some, Option.some.injEq] at hg
    subst hg
    have hx' : x.cps[i]? = some c := by rw [← Array.getElem?_toList]; exact hx
    have hi : i < x.cps.size := by
      have := (List.getElem?_eq_some_iff.mp hx).1
      simpa using this
    refine ⟨⟨vs, v, hq, hv, hi⟩, fun u H3 hy => ?_⟩
    obtain ⟨T, y, c', ex, hT, eH, hy1, hy2⟩ := hy
    have q := hy1 vs hq
    rw [hv] at q
    rw [hx'] at hy2
    cases q; cases hy2
    subst ex; subst eH; subst ed
    exact ⟨Gro.new hT, s2.tup hT, .tup (SqT.of upd_same) (.cons (rv.mono (Gro.new hT) (Pre.refl _)) (.cons (.str _) .nil))⟩
end Tm

set_option Elab.async false
set_option linter.all false
set_option maxRecDepth 100000
set_option maxHeartbeats 4000000
namespace Tm
open PySem PySem.Spec PyProof.Rows L2
section
variable {X : Cx} {p : Pm} {c : Cc} {k : Nat} {tg e a b d : Expr} {es : List Expr} {ca cb cd : C} {pos : Pos}
theorem k_ibad : PI X tg e (tI p X.K .bad) := ⟨fun _ _ _ _ _ _ h => by obtain ⟨_, _, _, _, _, _, _, _, h, _⟩ := h; exact (none_bad h).elim⟩
theorem PI.or {t t' : TI} (h : PI X tg e t) (h' : PI X tg e t') : PI X tg e (fun σ H R => t σ H R ∨ t' σ H R) := ⟨fun pins s σ H R I q => q.elim (h.run pins s σ H R I) (h'.run pins s σ H R I)⟩
theorem itD_inj {x1 x2 y1 y2 : List D} (h : itD x1 x2 = itD y1 y2) : x1 = y1 ∧ x2 = y2 := by
  unfold itD at h
  injection h with h
  injection h with h1 h2
  injection h2 with h2 _
  injection h1 with h1
  injection h2 with h2
  exact ⟨h1, h2⟩
/-- over a value: a list or a tuple -/
theorem k_ival (ha : PE X a (tE p X.K ca)) : PI X tg a (tI p X.K (.itv ca)) := by
  have h1 : PI X tg a (fun σ H R => tI p X.K (.itv ca) σ H R ∧ ∃ ρ S e n S', Sim X.K ρ S H ∧ EnvR X.K ρ H e σ ∧ ev p ca e S = some (.ref n, S')) → True := fun _ => trivial
  refine ⟨fun pins s σ H R I h => ?_⟩
  obtain ⟨ρ, S, e, items, cks, S', sm, en, h, q⟩ := h
  simp only [ev, Option.bind_eq_some_iff, Option.map_eq_some_iff] at h
  obtain ⟨⟨d1, S1⟩, h1, ⟨r1, r2⟩, h2, h3⟩ := h
  simp only [Prod.mk.injEq] at h3
  obtain ⟨h3, h4⟩ := h3
  obtain ⟨e1, e2⟩ := itD_inj h3
  subst e1; subst e2; subst h4
  cases d1 with
  | tup ys =>
    simp only [itOf, Option.some.injEq, Prod.mk.injEq] at h2
    obtain ⟨e1, e2⟩ := h2
    subst e1; subst e2
    refine (pi_tup (tg := tg) ha).run pins s σ H R I (st1 sm en h1 fun ρ1 H1 v p1 g1 s1 e1 r1 => ?_)
    obtain ⟨A, vs, ev1, hq, hr⟩ := rep_tup r1
    exact ⟨A, ev1, ⟨vs, hq⟩, q ρ1 H1 _ p1 g1 s1 (it_tup hq hr)⟩
  | ref n =>
    simp only [itOf, Option.map_eq_some_iff, Prod.mk.injEq] at h2
    obtain ⟨ys, hl, e1, e2⟩ := h2
    subst e1; subst e2
    refine (pi_list (tg := tg) ha).run pins s σ H R I (st1 sm en h1 fun ρ1 H1 v p1 g1 s1 e1 r1 => ?_)
    obtain ⟨A, ev1, hA⟩ := rep_ref r1
    obtain ⟨vs, hq, hr⟩ := s1.list hl hA
    exact ⟨A, ev1, ⟨vs, hq⟩, q ρ1 H1 _ p1 g1 s1 (it_list hA)⟩
  | _ => simp [itOf] at h2
theorem k_irng1 (M : Mat X p c k) {px : Pos} (hg : bltB c ("range" : Str) = true) (hs : notStar a = true) (ha : PA X [a] (tA p X.K ca)) (hl : ∀ e S ds S', ev p ca e S = some (.tup ds, S') → ds.length = 1) :
    PI X tg (.Call (.Name "range" px) [a] [] pos) (tI p X.K (.irng ca)) := by
  obtain ⟨g1, g2, g3⟩ := M.bl hg
  refine PI.imp (pi_range1 (tg := tg) g1 g2 ha (star1 hs _ _)) fun σ H R h => ?_
  obtain ⟨ρ, S, e, items, cks, S', sm, en, h, q⟩ := h
  simp only [ev, Option.bind_eq_some_iff] at h
  obtain ⟨⟨d1, S1⟩, h1, h2⟩ := h
  split at h2
  · rename_i ds hd
    simp only at hd
    subst hd
    simp only [Option.map_eq_some_iff, Prod.mk.injEq] at h2
    obtain ⟨r, hr, h3, h4⟩ := h2
    obtain ⟨e1, e2⟩ := itD_inj h3
    subst e1; subst e2; subst h4
    have hz := hl _ _ _ _ h1
    match ds, hz with
    | [d], _ =>
      refine stA sm en h1 fun ρ1 H1 vs p1 g1 s1 e1 r1 => ?_
      cases r1 with
      | cons r1 r2 =>
        cases r2
        cases r1 <;> simp only [rngs, reduceCtorEq] at hr
        split at hr
        · rename_i hz
          cases hr
          simp only [Bool.and_eq_true, decide_eq_true_eq] at hz
          exact ⟨_, rfl, hz.1, hz.2, q ρ1 H1 _ p1 g1 s1 it_rng⟩
        · cases hr
  · cases h2
theorem k_irng2 (M : Mat X p c k) {px : Pos} (hg : bltB c ("range" : Str) = true) (hs : notStar a = true) (hs2 : notStar b = true) (ha : PA X [a, b] (tA p X.K ca)) (hl : ∀ e S ds S', ev p ca e S = some (.tup ds, S') → ds.length = 2) :
    PI X tg (.Call (.Name "range" px) [a, b] [] pos) (tI p X.K (.irng ca)) := by
  obtain ⟨g1, g2, g3⟩ := M.bl hg
  refine PI.imp (pi_range2 (tg := tg) g1 g2 ha (by rw [star1 hs, star1 hs2]; rfl) (star1 hs2 _ _)) fun σ H R h => ?_
  obtain ⟨ρ, S, e, items, cks, S', sm, en, h, q⟩ := h
  simp only [ev, Option.bind_eq_some_iff] at h
  obtain ⟨⟨d1, S1⟩, h1, h2⟩ := h
  split at h2
  · rename_i ds hd
    simp only at hd
    subst hd
    simp only [Option.map_eq_some_iff, Prod.mk.injEq] at h2
    obtain ⟨r, hr, h3, h4⟩ := h2
    obtain ⟨e1, e2⟩ := itD_inj h3
    subst e1; subst e2; subst h4
    have hz := hl _ _ _ _ h1
    match ds, hz with
    | [d, f], _ =>
      refine stA sm en h1 fun ρ1 H1 vs p1 g1 s1 e1 r1 => ?_
      cases r1 with
      | cons r1 r2 =>
        cases r2 with
        | cons r2 r3 =>
          cases r3
          cases r1 <;> cases r2 <;> simp only [rngs, reduceCtorEq] at hr
          split at hr
          · rename_i hz
            cases hr
            simp only [Bool.and_eq_true, decide_eq_true_eq] at hz
            exact ⟨_, _, rfl, ⟨hz.1.1.1, hz.1.1.2, hz.1.2, hz.2⟩, q ρ1 H1 _ p1 g1 s1 it_rng⟩
          · cases hr
  · cases h2
theorem k_irev (M : Mat X p c k) {px : Pos} (hg : bltB c ("reversed" : Str) = true) (hs : notStar a = true) (ha : PE X a (tE p X.K ca)) : PI X tg (.Call (.Name "reversed" px) [a] [] pos) (tI p X.K (.irev ca)) := by
  obtain ⟨g1, g2, g3⟩ := M.bl hg
  refine PI.imp (RT.pi_revA (tg := tg) g1 g2 ha (star1 hs _ _)) fun σ H R h => ?_
  obtain ⟨ρ, S, e, items, cks, S', sm, en, h, q⟩ := h
  simp only [ev, Option.bind_eq_some_iff, Option.map_eq_some_iff] at h
  obtain ⟨⟨d1, S1⟩, h1, ⟨r1, r2⟩, h2, h3⟩ := h
  simp only [Prod.mk.injEq] at h3
  obtain ⟨h3, h4⟩ := h3
  obtain ⟨e1, e2⟩ := itD_inj h3
  subst e1; subst e2; subst h4
  cases d1 with
  | tup ys =>
    simp only [itOf, Option.some.injEq, Prod.mk.injEq] at h2
    obtain ⟨e1, e2⟩ := h2
    subst e1; subst e2
    refine st1 sm en h1 fun ρ1 H1 v p1 g1 s1 e1 r1 => ?_
    obtain ⟨A, vs, ev1, hq, hr⟩ := rep_tup r1
    exact ⟨A, vs, ev1, .inr ⟨hq, q ρ1 H1 _ p1 g1 s1 (it_revT hr.length hq hr)⟩⟩
  | ref n =>
    simp only [itOf, Option.map_eq_some_iff, Prod.mk.injEq] at h2
    obtain ⟨ys, hl, e1, e2⟩ := h2
    subst e1; subst e2
    refine st1 sm en h1 fun ρ1 H1 v p1 g1 s1 e1 r1 => ?_
    obtain ⟨A, ev1, hA⟩ := rep_ref r1
    obtain ⟨vs, hq, hr⟩ := s1.list hl hA
    exact ⟨A, vs, ev1, .inl ⟨hq, q ρ1 H1 _ p1 g1 s1 (it_revL hr.length hA)⟩⟩
  | _ => simp [itOf] at h2
theorem k_ienum (M : Mat X p c k) {px : Pos} (ht : isTup tg = true) (hg : bltB c ("enumerate" : Str) = true) (hs : notStar a = true) (ha : PE X a (tE p X.K ca)) : PI X tg (.Call (.Name "enumerate" px) [a] [] pos) (tI p X.K (.ienum ca)) := by
  obtain ⟨g1, g2, g3⟩ := M.bl hg
  cases tg with
  | Tuple elts kk tpos =>
    refine PI.imp (pi_enum (tpos := tpos) (elts := elts) (kk := kk) g1 g2 (pa_cons ha pa_nil (star1 hs _ _)) (star1 hs _ _)) fun σ H R h => ?_
    obtain ⟨ρ, S, e, items, cks, S', sm, en, h, q⟩ := h
    simp only [ev, Option.bind_eq_some_iff, Option.map_eq_some_iff] at h
    obtain ⟨⟨d1, S1⟩, h1, ⟨r1, r2⟩, h2, h3⟩ := h
    simp only [Prod.mk.injEq] at h3
    obtain ⟨h3, h4⟩ := h3
    obtain ⟨e1, e2⟩ := itD_inj h3
    subst e1; subst e2; subst h4
    cases d1 with
    | ref n =>
      simp only [itOfL, Option.map_eq_some_iff, Prod.mk.injEq] at h2
      obtain ⟨ys, hl, e1, e2⟩ := h2
      subst e1; subst e2
      refine st1 sm en h1 fun ρ1 H1 v p1 g1 s1 e1 r1 => ?_
      obtain ⟨A, ev1, hA⟩ := rep_ref r1
      obtain ⟨vs, hq, hr⟩ := s1.list hl hA
      subst ev1
      exact ⟨A, vs, rfl, hq, q ρ1 H1 _ p1 g1 s1 (it_enum hA)⟩
    | _ => simp [itOfL] at h2
  | _ => simp [isTup] at ht
theorem k_izip (M : Mat X p c k) {px : Pos} (ht : isTup tg = true) (hg : bltB c ("zip" : Str) = true) (hs : notStar a = true) (hs2 : notStar b = true) (ha : PE X a (tE p X.K ca)) (hb : PE X b (tE p X.K cb)) :
    PI X tg (.Call (.Name "zip" px) [a, b] [] pos) (tI p X.K (.izip ca cb)) := by
  obtain ⟨g1, g2, g3⟩ := M.bl hg
  cases tg with
  | Tuple elts kk tpos =>
    refine ⟨fun pins s0 σ H R I h => ?_⟩
    obtain ⟨ρ, S, e, items, cks, S', sm, en, h, q⟩ := h
    simp only [ev, Option.bind_eq_some_iff] at h
    obtain ⟨⟨d1, S1⟩, h1, ⟨d2, S2⟩, h2, h⟩ := h
    split at h
    · rename_i xs ys e1 e2
      simp only at e1 e2
      subst e1; subst e2
      simp only [Option.some.injEq, Prod.mk.injEq] at h
      obtain ⟨h3, h4⟩ := h
      obtain ⟨e1, e2⟩ := itD_inj h3
      subst e1; subst e2; subst h4
      refine (RZ.pi_zipA (tpos := tpos) (elts := elts) (kk := kk) g1 g2 (pa_cons ha (pa_cons hb pa_nil (star1 hs2 _ _)) (star1 hs _ _)) (star1 hs _ _) (by rw [star1 hs2]; rfl)).run pins s0 σ H R I ?_
      refine st1 sm en h1 fun ρ1 H1 v p1 g1 s1 en1 r1 => st1 s1 en1 h2 fun ρ2 H2 w p2 g2 s2 en2 r2 => ?_
      obtain ⟨A, vs, ev1, hq, hr⟩ := rep_tup r1
      obtain ⟨B, ws, ev2, hq2, hr2⟩ := rep_tup r2
      subst ev1; subst ev2
      exact ⟨A, B, vs, ws, rfl, .inr ⟨g2.sqt hq, hq2, q ρ2 H2 _ (p1.trans p2) (g1.trans g2) s2 (it_zipT (g2.sqt hq) (hr.mono g2 p2) hq2 hr2)⟩⟩
    · rename_i xs z e1 e2
      simp only at e1 e2
      subst e1; subst e2
      simp only [Option.some.injEq, Prod.mk.injEq] at h
      obtain ⟨h3, h4⟩ := h
      obtain ⟨e1, e2⟩ := itD_inj h3
      subst e1; subst e2; subst h4
      refine (pi_zipTS (tpos := tpos) (elts := elts) (kk := kk) g1 g2 (pa_cons ha (pa_cons hb pa_nil (star1 hs2 _ _)) (star1 hs _ _)) (star1 hs _ _) (by rw [star1 hs2]; rfl)).run pins s0 σ H R I ?_
      refine st1 sm en h1 fun ρ1 H1 v p1 g1 s1 en1 r1 => st1 s1 en1 h2 fun ρ2 H2 w p2 g2 s2 en2 r2 => ?_
      obtain ⟨A, vs, ev1, hq, hr⟩ := rep_tup r1
      subst ev1
      cases r2
      exact ⟨A, vs, _, rfl, g2.sqt hq, q ρ2 H2 _ (p1.trans p2) (g1.trans g2) s2 (it_zipTS (g2.sqt hq) (hr.mono g2 p2))⟩
    · rename_i m n e1 e2
      simp only at e1 e2
      subst e1; subst e2
      simp only [Option.bind_eq_some_iff, Option.map_eq_some_iff, Prod.mk.injEq] at h
      obtain ⟨xs, hx, ys, hy, h3, h4⟩ := h
      obtain ⟨e1, e2⟩ := itD_inj h3
      subst e1; subst e2; subst h4
      refine (RZ.pi_zipA (tpos := tpos) (elts := elts) (kk := kk) g1 g2 (pa_cons ha (pa_cons hb pa_nil (star1 hs2 _ _)) (star1 hs _ _)) (star1 hs _ _) (by rw [star1 hs2]; rfl)).run pins s0 σ H R I ?_
      refine st1 sm en h1 fun ρ1 H1 v p1 g1 s1 en1 r1 => st1 s1 en1 h2 fun ρ2 H2 w p2 g2 s2 en2 r2 => ?_
      obtain ⟨A, ev1, hA⟩ := rep_ref r1
      obtain ⟨B, ev2, hB⟩ := rep_ref r2
      subst ev1; subst ev2
      obtain ⟨vs, hq, hr⟩ := s2.list hx (p2 _ _ hA)
      obtain ⟨ws, hq2, hr2⟩ := s2.list hy hB
      exact ⟨A, B, vs, ws, rfl, .inl ⟨hq, hq2, q ρ2 H2 _ (p1.trans p2) (g1.trans g2) s2 (it_zipL (p2 _ _ hA) hB)⟩⟩
    · cases h
  | _ => simp [isTup] at ht
end
end Tm

set_option Elab.async false
set_option linter.all false
set_option maxRecDepth 100000
set_option maxHeartbeats 4000000
namespace Tm
open PySem PySem.Spec PyProof.Rows L2
section
variable {X : Cx} {p : Pm} {c : Cc} {k : Nat} {tg e a b d it : Expr} {es : List Expr} {ca cb cd ci : C} {pos : Pos}
/-! ## the comprehension -/
/-- the tests of a clause as one -/
def tCond (p : Pm) (K : PySem.W.Frag) (c : C) : TT := tTs p K c
theorem k_ifs0 : PTs X [] (tTs p X.K (.lit (.bl true))) := ⟨fun pins s σ H Q I h => by
  obtain ⟨ρ, S, e, b, S', sm, en, h, q⟩ := h
  simp only [ev, isScal, if_true, Option.some.injEq, Prod.mk.injEq, D.bl.injEq] at h
  obtain ⟨h1, h2⟩ := h
  subst h1; subst h2
  exact pts_nil.run pins s σ H Q I (q ρ H (Pre.refl ρ) (Gro.refl H) sm)⟩
theorem k_ifs1 (h : PT X e (tTs p X.K ca)) : PTs X [e] (tTs p X.K ca) := pts_one h
theorem drop_cons {α : Type} {l : List α} {i : Nat} {x : α} {r : List α} (h : l.drop i = x :: r) : l[i]? = some x ∧ l.drop (i + 1) = r ∧ i < l.length := by
  have hi : i < l.length := by
    by_cases q : i < l.length
    · exact q
    · rw [List.drop_eq_nil_of_le (by omega)] at h; cases h
  rw [List.drop_eq_getElem_cons hi] at h
  injection h with h1 h2
  exact ⟨by rw [List.getElem?_eq_getElem hi, h1], h2, hi⟩
theorem drop_nil {α : Type} {l : List α} {i : Nat} (h : l.drop i = []) (hi : i ≤ l.length) : i = l.length := by
  have := congrArg List.length h
  rw [List.length_drop, List.length_nil] at this
  omega
theorem wipe_at {v : Nat} : ∀ {l : List Nat} (σ : L2.St), v ∈ l → (wipe σ l).set v none = wipe σ l
  | u :: us, σ, h => by
    show ((wipe σ us).set u none).set v none = (wipe σ us).set u none
    by_cases q : u = v
    · rw [q, List.set_set]
    · rw [List.set_comm _ _ q, wipe_at σ ((List.mem_cons.mp h).resolve_left fun z => q z.symm)]
theorem wipe_sub : ∀ (m l : List Nat) (σ : L2.St), (∀ v ∈ m, v ∈ l) → wipe (wipe σ l) m = wipe σ l
  | [], l, σ, _ => rfl
  | v :: vs, l, σ, h => by
    show (wipe (wipe σ l) vs).set v none = wipe σ l
    rw [wipe_sub vs l σ fun u hu => h u (List.mem_cons_of_mem _ hu), wipe_at σ (h v List.mem_cons_self)]
theorem wipe_wipe (l : List Nat) (σ : L2.St) : wipe (wipe σ l) l = wipe σ l := wipe_sub l l σ fun _ h => h
theorem lc_read {K : PySem.W.Frag} {t : Tg} {own : List Nat} (ht : tgIn own t = true) {σ : L2.St} {H : Hp} {Q : VK} (h : tE p K (.lc ci t cb ca own) σ H Q) : tLc (tI p K ci) (tG K t) (tTs p K cb) (tE p K ca) own σ H Q := by
  obtain ⟨ρ, S, e, y, sm, en, h, kq⟩ := h
  simp only [ev, Option.bind_eq_some_iff] at h
  obtain ⟨⟨d1, S1⟩, h1, h2⟩ := h
  split at h2
  · rename_i items cks hd
    simp only at hd
    subst hd
    simp only [Option.map_eq_some_iff] at h2
    obtain ⟨S9, h3, h4⟩ := h2
    subst h4
    refine ⟨ρ, S, e, items, cks, S1, sm, en, h1, fun ρ1 H1 J p1 g1 s1 ok => fun D hD => ?_⟩
    have gD : Gro H1 (upd H1 D (.lst [])) := Gro.new hD
    have sD : Sim K (ρ1 ++ [D]) (S1 ++ [.lst []]) (upd H1 D (.lst [])) := s1.new hD .nil
    have pD : Pre ρ1 (ρ1 ++ [D]) := Pre.app ρ1 D
    have hnD : (ρ1 ++ [D])[S1.length]? = some D := by rw [← s1.len, List.getElem?_append_right (Nat.le_refl _)]; simp
    have enw : ∀ {ρ2 : List Addr} {H2 : Hp}, Pre (ρ1 ++ [D]) ρ2 → Gro (upd H1 D (.lst [])) H2 → EnvR K ρ2 H2 (wipeE e own) (wipe σ own) := fun p2 g2 => ((en.mono (p1.trans (pD.trans p2)) (g1.trans (gD.trans g2))).wipe own)
    refine ⟨fun i m H2 => m = items.length - i ∧ i ≤ items.length ∧ ∃ (ρ2 : List Addr) (S2 : Store), Pre (ρ1 ++ [D]) ρ2 ∧ Gro (upd H1 D (.lst [])) H2 ∧ Sim K ρ2 S2 H2 ∧ lcL (ev p cb) (ev p ca) t cks (wipeE e own) S1.length (items.drop i) S2 = some S9,
      ⟨items.length, by simp, Nat.zero_le _, ρ1 ++ [D], S1 ++ [.lst []], Pre.refl _, Gro.refl _, sD, by simpa using h3⟩, ?_⟩
    rintro i m H2 ⟨rfl, hi, ρ2, S2, p2, g2, s2, h5⟩
    cases hdr : items.drop i with
    | nil =>
      rw [hdr] at h5
      simp only [lcL] at h5
      split at h5
      · rename_i hc
        cases h5
        exact .inl ⟨((ok ρ2 S9 H2 (pD.trans p2) (gD.trans g2) s2 hc) i).1 (drop_nil hdr hi), kq ρ2 H2 _ (p1.trans (pD.trans p2)) (g1.trans (gD.trans g2)) s2 (.ref (p2 _ _ hnD))⟩
      · cases h5
    | cons d r =>
      obtain ⟨hdi, hdr2, hlt⟩ := drop_cons hdr
      rw [hdr] at h5
      simp only [lcL] at h5
      split at h5
      · rename_i hc
        obtain ⟨go, yl⟩ := ((ok ρ2 S2 H2 (pD.trans p2) (gD.trans g2) s2 hc) i).2 d hdi
        simp only [Option.bind_eq_some_iff] at h5
        obtain ⟨e1, hb, ⟨bv, S3⟩, hcnd, h6⟩ := h5
        refine .inr ⟨go, fun H3 => (items.length - (i + 1)) = items.length - (i + 1) ∧ i + 1 ≤ items.length ∧ ∃ (ρ3 : List Addr) (S3 : Store), Pre (ρ1 ++ [D]) ρ3 ∧ Gro (upd H1 D (.lst [])) H3 ∧ Sim K ρ3 S3 H3 ∧ lcL (ev p cb) (ev p ca) t cks (wipeE e own) S1.length r S3 = some S9,
          fun H3 q => ⟨items.length - (i + 1), by omega, rfl, q.2.1, by rw [hdr2]; exact q.2.2⟩, fun x H3 hy => ?_⟩
        obtain ⟨g3, s3, r3⟩ := yl x H3 hy
        have g3' := g2.trans g3
        refine ⟨ρ2, S2, wipeE e own, d, e1, s3, enw p2 g3', r3, hb, fun σ2 en2 hw => ⟨?_, ?_⟩⟩
        · have := hw own ht
          rw [this]
          exact wipe_wipe own σ
        · split at h6
          · rename_i hbv
            simp only at hbv
            subst hbv
            simp only [Option.bind_eq_some_iff] at h6
            obtain ⟨⟨yv, S4⟩, hel, S5, hpu, h7⟩ := h6
            refine stT s3 en2 hcnd fun ρ4 H4 p4 g4 s4 en4 => ?_
            rw [if_pos rfl]
            refine st1 s4 en4 hel fun ρ5 H5 w p5 g5 s5 en5 r5 => ?_
            unfold push at hpu
            split at hpu
            · rename_i xs hx
              split at hpu
              · rename_i hz
                cases hpu
                have hA := p5 _ _ (p4 _ _ (p2 _ _ hnD))
                obtain ⟨vs, q1, q2⟩ := s5.obj _ _ D hx hA
                have rr := q2.append (.cons r5 .nil)
                refine ⟨vs, q1, by rw [q2.length]; exact hz, rfl, hlt, ρ5, _, p2.trans (p4.trans p5), (g3'.trans (g4.trans g5)).trans (Gro.mut q1), s5.put hx hA q1 rr, h7⟩
              · cases hpu
            · cases hpu
          · rename_i hbv
            simp only at hbv
            subst hbv
            refine stT s3 en2 hcnd fun ρ4 H4 p4 g4 s4 en4 => ?_
            rw [if_neg (by decide)]
            exact ⟨rfl, hlt, ρ4, S3, p2.trans p4, g3'.trans g4, s4, h6⟩
          · cases h6
      · cases h5
  · cases h2
end
end Tm

set_option Elab.async false
set_option linter.all false
set_option maxRecDepth 100000
set_option maxHeartbeats 4000000
namespace Tm
open PySem PySem.Spec PyProof.Rows L2
section
variable {X : Cx} {p : Pm} {c : Cc} {k : Nat} {tg e a b d it elt : Expr} {es : List Expr} {ca cb cd ci : C} {pos : Pos}
theorem foldNo (h : notSet it = true) (env : Env) : ∀ x, foldedSetIterable it env x = pure x := by
  intro x
  cases it <;> first | rfl | (simp [notSet] at h; done)
theorem Mat.blk (M : Mat X p c k) {scope : Scope} (hk : scope.kind = .function) (s : Shared) (H : Hp) (C : Addr) (cl : List (Str × Addr)) (fp : List Addr) : Mat (X.blk s H scope (compEnvC scope cl C X.env) fp) p (blkCc c scope.names) k where
  hN := M.hN
  nd := M.nd
  sc := by
    show scope.names.map _ = relN c.names scope.names
    unfold relN
    congr 1
    funext ⟨n, kd⟩
    show (if (kd == NameKind.free && X.env.scope.kind == .function && X.env.kindOf n == some .cell) = true then _ else _) = _
    unfold Env.kindOf
    rw [M.kind, M.sc]
    simp
  kind := hk
  calm := M.calm
  gd := M.gd
  room := M.room
  xe := rfl
  fn := fun x h => by
    have h2 : (scope.names.lookup x == some .cell || (relN c.names scope.names).lookup x == some .local) = true := h
    rw [Bool.or_eq_true] at h2
    rcases h2 with q | q
    · exact .inl q
    · refine .inr ?_
      have e : (compEnvC scope cl C X.env).scope.names = relN c.names scope.names := by
        show scope.names.map _ = relN c.names scope.names
        unfold relN
        congr 1
        funext ⟨n, kd⟩
        show (if (kd == NameKind.free && X.env.scope.kind == .function && X.env.kindOf n == some .cell) = true then _ else _) = _
        unfold Env.kindOf
        rw [M.kind, M.sc]
        simp
      show (compEnvC scope cl C X.env).scope.names.lookup x = some .local
      rw [e]
      exact eq_of_beq q
  glob := M.glob
theorem k_lc (M : Mat X p c k) {scope : Scope} {ifs : List Expr} {t : Tg} {cif : C} (hb : blkC c.N { kind := .function, names := c.names, isGenerator := false, isCoroutine := false } scope (ownOf c.N scope.names) = true)
    (ht : tgIn ((ownOf c.N scope.names).map (·.2)) t = true) (hs : notSet it = true) (hi : PI X tg it (tI p X.K ci))
    (hg : ∀ X', Mat X' p (blkCc c scope.names) k → PG X' tg (tG X'.K t)) (hif : ∀ X', Mat X' p (blkCc c scope.names) k → PTs X' ifs (tTs p X'.K cif))
    (he : ∀ X', Mat X' p (blkCc c scope.names) k → PE X' elt (tE p X'.K ca)) : PE X (.ListComp elt [⟨tg, it, ifs, 0⟩] scope pos) (tE p X.K (.lc ci t cif ca ((ownOf c.N scope.names).map (·.2)))) := by
  have ok1 := blkOk_by hb
  have hk : scope.kind = .function := ok1.kind
  have ok : BlkOk X.N X.env.scope scope (ownOf c.N scope.names) := ⟨ok1.kind, ok1.uniq, by rw [M.hN]; exact ok1.ix, by rw [M.sc]; exact ok1.free, by rw [M.hN]; exact ok1.own⟩
  exact PE.imp (pe_lc M.calm (by rw [M.hN]; exact M.nd) hi ok (fun s H C cl fp => hg _ (M.blk hk s H C cl fp)) (fun s H C cl fp => hif _ (M.blk hk s H C cl fp)) (fun s H C cl fp => he _ (M.blk hk s H C cl fp)) (foldNo hs _)) fun σ H Q h => lc_read ht h
end
/-! ## the text and its core -/
section
variable {p : Pm} {k : Nat}
theorem cEs_len : ∀ (n : Nat) (c : Cc) (es : List Expr) (e : Env') (S : Store) (ds : List D) (S' : Store), ev p (cEs n c es) e S = some (.tup ds, S') → ds.length = es.length
  | 0, c, es, e, S, ds, S', h => by unfold cEs at h; exact (none_bad h).elim
  | n + 1, c, [], e, S, ds, S', h => by
    simp only [cEs, ev, Option.some.injEq, Prod.mk.injEq, D.tup.injEq] at h
    rw [← h.1]; rfl
  | n + 1, c, a :: r, e, S, ds, S', h => by
    simp only [cEs] at h
    split at h
    · simp only [ev, Option.bind_eq_some_iff] at h
      obtain ⟨x1, h1, ⟨y, S2⟩, h2, h3⟩ := h
      split at h3
      · rename_i fs hf
        simp only at hf
        subst hf
        cases h3
        rw [List.length_cons, List.length_cons, cEs_len n c r _ _ _ _ h2]
      · cases h3
    · exact (none_bad h).elim
theorem cKs_len : ∀ (n : Nat) (c : Cc) (kws : List Keyword) (e : Env') (S : Store) (ds : List D) (S' : Store), ev p (cKs n c kws) e S = some (.tup ds, S') → ds.length = kws.length
  | 0, c, es, e, S, ds, S', h => by unfold cKs at h; exact (none_bad h).elim
  | n + 1, c, [], e, S, ds, S', h => by
    simp only [cKs, ev, Option.some.injEq, Prod.mk.injEq, D.tup.injEq] at h
    rw [← h.1]; rfl
  | n + 1, c, ⟨nm, a, kp⟩ :: r, e, S, ds, S', h => by
    simp only [cKs, ev, Option.bind_eq_some_iff] at h
    obtain ⟨x1, h1, ⟨y, S2⟩, h2, h3⟩ := h
    split at h3
    · rename_i fs hf
      simp only at hf
      subst hf
      cases h3
      rw [List.length_cons, List.length_cons, cKs_len n c r _ _ _ _ h2]
    · cases h3
theorem kwNames_len : ∀ {kws : List Keyword} {ks : List Str}, kwNames kws = some ks → kws.length = ks.length
  | [], ks, h => by simp [kwNames] at h; subst h; rfl
  | ⟨some x, _, _⟩ :: r, ks, h => by
    simp only [kwNames, Option.map_eq_some_iff] at h
    obtain ⟨s, h1, rfl⟩ := h
    rw [List.length_cons, List.length_cons, kwNames_len h1]
  | ⟨none, _, _⟩ :: _, ks, h => by simp [kwNames] at h
theorem cEs_nil (n : Nat) (c : Cc) (e : Env') (S : Store) (x : D × Store) (h : ev p (cEs n c []) e S = some x) : x.2 = S := by
  cases n with
  | zero => unfold cEs at h; exact (none_bad h).elim
  | succ n => simp only [cEs, ev, Option.some.injEq] at h; rw [← h]
/-- the machine's words about all texts, to a depth -/
structure Snd (p : Pm) (k n : Nat) : Prop where
  e : ∀ (X : Cx) (c : Cc), Mat X p c k → ∀ e, PE X e (tE p X.K (cE n c e))
  es : ∀ (X : Cx) (c : Cc), Mat X p c k → ∀ es, PA X es (tA p X.K (cEs n c es))
  ks : ∀ (X : Cx) (c : Cc), Mat X p c k → ∀ kws, PK X kws (tA p X.K (cKs n c kws))
  and : ∀ (X : Cx) (c : Cc), Mat X p c k → ∀ a r pos, PE X (.BoolOp .And (a :: r) pos) (tE p X.K (cAnd n c a r))
  or : ∀ (X : Cx) (c : Cc), Mat X p c k → ∀ a r pos, PE X (.BoolOp .Or (a :: r) pos) (tE p X.K (cOr n c a r))
  t : ∀ (X : Cx) (c : Cc), Mat X p c k → ∀ e, PT X e (tTs p X.K (cT n c e))
  tand : ∀ (X : Cx) (c : Cc), Mat X p c k → ∀ a r pos, PW X (.BoolOp .And (a :: r) pos) (tTs p X.K (cTAnd n c a r))
  tor : ∀ (X : Cx) (c : Cc), Mat X p c k → ∀ a r pos, PW X (.BoolOp .Or (a :: r) pos) (tTs p X.K (cTOr n c a r))
  o : ∀ (X : Cx) (c : Cc), Mat X p c k → ∀ o, PO X o (tO' p X.K (cO n c o))
  i : ∀ (X : Cx) (c : Cc), Mat X p c k → ∀ tg e, PI X tg e (tI p X.K (cI n c (isTup tg) e))
theorem k_obad {X : Cx} {o : Option Expr} : PO X o (tO' p X.K .bad) := ⟨fun _ _ _ _ _ _ h => by
  obtain ⟨_, _, _, _, _, _, h, _⟩ := h
  simp [part, isAbs, ev] at h⟩
theorem snd_zero : Snd p k 0 where
  e := fun X c M e => by unfold cE; exact k_bad
  es := fun X c M e => by unfold cEs; exact k_abad
  ks := fun X c M e => by unfold cKs; exact k_kbad
  and := fun X c M a r pos => by unfold cAnd; exact k_bad
  or := fun X c M a r pos => by unfold cOr; exact k_bad
  t := fun X c M e => by unfold cT; exact k_badT
  tand := fun X c M a r pos => by unfold cTAnd; exact k_badW
  tor := fun X c M a r pos => by unfold cTOr; exact k_badW
  o := fun X c M o => by unfold cO; exact k_obad
  i := fun X c M tg e => by unfold cI; exact k_ibad
theorem tgs_star : ∀ (n : Nat) (c : Cc) (es : List Expr) (ds : List D) (S : Store) (e e1 : Env'), bindTs (cTgs n c es) ds S e = some e1 → es.all notStar = true
  | n, c, [], ds, S, e, e1, h => rfl
  | 0, c, a :: r, ds, S, e, e1, h => by unfold cTgs at h; cases ds <;> simp [bindTs] at h
  | n + 1, c, a :: r, ds, S, e, e1, h => by
    unfold cTgs at h
    simp only at h
    split at h
    · rename_i hs
      cases ds with
      | nil => simp [bindTs] at h
      | cons d ds =>
        simp only [bindTs, Option.bind_eq_some_iff] at h
        obtain ⟨e2, _, h2⟩ := h
        rw [List.all_cons, hs, tgs_star n c r _ _ _ _ h2]; rfl
    · cases ds <;> simp [bindTs] at h
theorem k_gtup' {X : Cx} {c : Cc} {kk n : Nat} {pos : Pos} {es : List Expr} (M : Mat X p c k) (h : es.all notStar = true → PGs X es (tGs X.K (cTgs n c es))) : PG X (.Tuple es kk pos) (tG X.K (.tp es.length (cTgs n c es))) := by
  by_cases hst : es.all notStar = true
  · exact k_gtup M hst (h hst)
  · refine ⟨fun pins s σ H v u Q I r h => ?_⟩
    obtain ⟨ρ, S, e, d, e1, _, _, _, h, _⟩ := h
    exfalso
    cases d with
    | tup ds =>
      simp only [bindT] at h
      split at h
      · exact hst (tgs_star _ _ _ _ _ _ _ h)
      · cases h
    | ref m =>
      simp only [bindT, Option.bind_eq_some_iff] at h
      obtain ⟨ys, _, h⟩ := h
      split at h
      · exact hst (tgs_star _ _ _ _ _ _ _ h)
      · cases h
    | _ => simp [bindT] at h
theorem k_tg_all {X : Cx} {c : Cc} (M : Mat X p c k) : ∀ n : Nat, (∀ e : Expr, PG X e (tG X.K (cTg n c e))) ∧ ∀ es : List Expr, es.all notStar = true → PGs X es (tGs X.K (cTgs n c es)) := by
  intro n
  induction n with
  | zero =>
    constructor
    · intro e
      unfold cTg
      split
      · split
        · rename_i hl
          split
          · rename_i i hi; exact k_gname M hl hi
          · exact k_gbad
        · exact k_gbad
      · exact k_gbad
      · exact k_gbad
    · intro es hst
      cases es with
      | nil => unfold cTgs; exact k_gsnil
      | cons a r => unfold cTgs; exact k_gsbad
  | succ n ih =>
    constructor
    · intro e
      unfold cTg
      split
      · split
        · rename_i hl
          split
          · rename_i i hi; exact k_gname M hl hi
          · exact k_gbad
        · exact k_gbad
      · exact k_gtup' M fun h => ih.2 _ h
      · exact k_gbad
    · intro es hst
      cases es with
      | nil => unfold cTgs; exact k_gsnil
      | cons a r =>
        unfold cTgs
        simp only
        rw [List.all_cons, Bool.and_eq_true] at hst
        rw [if_pos hst.1]
        exact k_gscons hst.1 (ih.1 a) (ih.2 r hst.2) hst.2
theorem cEs_star : ∀ (n : Nat) (c : Cc) (es : List Expr) (e : Env') (S : Store) (x : D × Store), ev p (cEs n c es) e S = some x → ∀ a ∈ es, notStar a = true
  | 0, c, es, e, S, x, h => by unfold cEs at h; exact (none_bad h).elim
  | n + 1, c, [], e, S, x, h => by intro a ha; cases ha
  | n + 1, c, b :: r, e, S, x, h => by
    intro a ha
    simp only [cEs] at h
    split at h
    · rename_i hs
      simp only [ev, Option.bind_eq_some_iff] at h
      obtain ⟨x1, h1, x2, h2, h3⟩ := h
      rcases List.mem_cons.mp ha with z | z
      · rw [z]; exact hs
      · exact cEs_star n c r _ _ _ h2 a z
    · exact (none_bad h).elim
theorem k_irngbad {X : Cx} {tg e : Expr} {ca : C} (h : ∀ e S x, ¬ ev p ca e S = some x) : PI X tg e (tI p X.K (.irng ca)) := ⟨fun _ _ _ _ _ _ q => by
  obtain ⟨ρ, S, e, items, cks, S', _, _, q, _⟩ := q
  simp only [ev, Option.bind_eq_some_iff] at q
  obtain ⟨x, h1, _⟩ := q
  exact (h _ _ _ h1).elim⟩
theorem k_ifsbad {X : Cx} {ifs : List Expr} : PTs X ifs (tTs p X.K .bad) := ⟨fun _ _ _ _ _ _ q => by obtain ⟨_, _, _, _, _, _, _, q, _⟩ := q; exact (none_bad q).elim⟩
theorem k_callbad {X : Cx} {e : Expr} {f : Nat} {pm : List Nat} {ca cb : C} (h : ∀ e S x, ¬ ev p ca e S = some x) : PE X e (tE p X.K (.call f pm ca cb)) := ⟨fun _ _ _ _ _ _ q => by
  obtain ⟨ρ, S, e, y, _, _, q, _⟩ := q
  simp only [ev, Option.bind_eq_some_iff] at q
  obtain ⟨x, h1, _⟩ := q
  exact (h _ _ _ h1).elim⟩
theorem k_bibad {X : Cx} {e : Expr} {b : Bi} {ca : C} (h : ∀ e S x, ¬ ev p ca e S = some x) : PE X e (tE p X.K (.bi b ca)) := ⟨fun _ _ _ _ _ _ q => by
  obtain ⟨ρ, S, e, y, _, _, q, _⟩ := q
  simp only [ev, Option.bind_eq_some_iff] at q
  obtain ⟨x, h1, _⟩ := q
  exact (h _ _ _ h1).elim⟩
theorem k_ccall {X : Cx} {c : Cc} (M : Mat X p c k) {n : Nat} {x : Str} {px pos : Pos} {es : List Expr} (h0 : ¬ es.length = 0) (ha : PA X es (tA p X.K (cEs n c es))) : PE X (.Call (.Name x px) es [] pos) (tE p X.K (cCall c x es.length (cEs n c es))) := by
  cases es with
  | nil => exact (h0 rfl).elim
  | cons a r =>
    have star : (a :: r).all notStar = true ∨ ∀ e S x, ¬ ev p (cEs n c (a :: r)) e S = some x := by
      by_cases q : (a :: r).all notStar = true
      · exact .inl q
      · exact .inr fun e S x z => q (List.all_eq_true.mpr (cEs_star n c _ e S x z))
    unfold cCall
    split
    · rename_i hg
      split
      · rename_i f ps hf
        split
        · rename_i hn
          rcases star with hs | hs
          · rw [hn]
            exact k_call M hg hf (M.glob.ar x f ps hf) hs hn ha (fun e S ds S' q => cEs_len n c _ e S ds S' q)
          · exact k_callbad hs
        · exact k_bad
      · split
        · rename_i hb
          split
          · rename_i b hq
            rcases star with hs | hs
            · exact k_bi M (by unfold bltB; rw [Bool.and_eq_true]; exact ⟨hg, hb⟩) hq hs ha
            · exact k_bibad hs
          · exact k_bad
        · exact k_bad
    · exact k_bad
theorem k_callvbad {X : Cx} {e : Expr} {ca cf : C} (h : ∀ e S x, ¬ ev p ca e S = some x) : PE X e (tE p X.K (.callv cf ca)) := ⟨fun _ _ _ _ _ _ q => by
  obtain ⟨ρ, S, e, y, _, _, q, _⟩ := q
  simp only [ev, Option.bind_eq_some_iff] at q
  obtain ⟨x, h1, y', h2, _⟩ := q
  exact (h _ _ _ h2).elim⟩
theorem k_cvcall {X : Cx} {c : Cc} (M : Mat X p c k) {n : Nat} {x : Str} {px pos : Pos} {es : List Expr} (h0 : ¬ es.length = 0) (ha : PA X es (tA p X.K (cEs n c es))) : PE X (.Call (.Name x px) es [] pos) (tE p X.K (.callv (cName c x) (cEs n c es))) := by
  cases es with
  | nil => exact (h0 rfl).elim
  | cons a r =>
    by_cases hs : (a :: r).all notStar = true
    · exact k_callv M hs (k_name M) ha
    · exact k_callvbad fun e S x z => hs (List.all_eq_true.mpr (cEs_star n c _ e S x z))
theorem snd_succ {n : Nat} (h : Snd p k n) : Snd p k (n + 1) where
  es := fun X c M es => by
    cases es with
    | nil => unfold cEs; exact k_anil
    | cons a r =>
      unfold cEs
      simp only
      split
      · rename_i hs; exact k_acons hs (h.e X c M a) (h.es X c M r)
      · exact k_abad
  ks := fun X c M kws => by
    cases kws with
    | nil => unfold cKs; exact k_knil
    | cons a r => obtain ⟨nm, v, kp⟩ := a; unfold cKs; exact k_kcons (h.e X c M v) (h.ks X c M r)
  and := fun X c M a r pos => by
    cases r with
    | nil => unfold cAnd; exact k_and1 (h.e X c M a)
    | cons b s => unfold cAnd; exact k_and (h.e X c M a) (h.and X c M b s pos)
  or := fun X c M a r pos => by
    cases r with
    | nil => unfold cOr; exact k_and1 (h.e X c M a)
    | cons b s => unfold cOr; exact k_or (h.e X c M a) (h.or X c M b s pos)
  tand := fun X c M a r pos => by
    cases r with
    | nil => unfold cTAnd; exact k_tand1 (h.t X c M a)
    | cons b s => unfold cTAnd; exact k_tand (h.t X c M a) (h.tand X c M b s pos)
  tor := fun X c M a r pos => by
    cases r with
    | nil => unfold cTOr; exact k_tor1 (h.t X c M a)
    | cons b s => unfold cTOr; exact k_tor (h.t X c M a) (h.tor X c M b s pos)
  o := fun X c M o => by
    cases o with
    | none => unfold cO; exact k_onone
    | some e =>
      unfold cO
      simp only
      split
      · exact k_obad
      · rename_i q; exact k_osome (by simpa using q) (h.e X c M e)
  t := fun X c M e => by
    have val : (∀ whole, isTrue e X.env whole = (do let v ← whole; standAt e.pos; holding [v] (truthy v))) → PT X e (tTs p X.K (cE n c e)) := fun he => k_tval (h.e X c M e) he
    cases e with
    | BoolOp op es pos =>
      cases es with
      | nil => unfold cT; cases op <;> exact k_badT
      | cons a r =>
        unfold cT
        cases op with
        | And => exact (h.tand X c M a r pos).pt
        | Or => exact (h.tor X c M a r pos).pt
    | UnaryOp op a pos =>
      unfold cT
      cases op <;> first | exact k_badT | exact k_tnot (h.t X c M a)
    | IfExp t a b pos => unfold cT; exact k_badT
    | Compare a ops bs pos =>
      unfold cT
      simp only
      split
      · rename_i op b
        split
        · rename_i hs
          split
          · rename_i g hg
            split
            · exact k_tkin M hg (h.e X c M a)
            · exact k_tknin M hg (h.e X c M a)
            · exact k_badT
          · exact k_tcmp M hs (h.e X c M a) (h.e X c M b)
        · exact k_badT
      · rename_i o1 o2 b d
        split
        · exact k_badT
        · rename_i hs
          exact k_tchain M (by simpa using hs) (h.e X c M a) (h.e X c M b) (h.e X c M d)
      · exact k_badT
    | _ => exact val (fun _ => rfl)
  i := fun X c M tg e => by
    cases e with
    | Call f es kws pos =>
      unfold cI
      simp only
      split
      · rename_i x px
        split
        · rename_i hx
          subst hx
          split
          · rename_i hb
            rw [Bool.and_eq_true, Bool.or_eq_true] at hb
            obtain ⟨hb, hn⟩ := hb
            rcases hn with hn | hn
            · match es, hn with
              | [a], _ =>
                by_cases hs : notStar a = true
                · exact k_irng1 M hb hs (h.es X c M [a]) (fun e S ds S' q => cEs_len n c [a] e S ds S' q)
                · exact k_irngbad (fun e S x => by
                    intro q
                    exact hs (cEs_star n c [a] e S x q a List.mem_cons_self))
            · match es, hn with
              | [a, b], _ =>
                by_cases hs : notStar a = true
                · by_cases hs2 : notStar b = true
                  · exact k_irng2 M hb hs hs2 (h.es X c M [a, b]) (fun e S ds S' q => cEs_len n c [a, b] e S ds S' q)
                  · exact k_irngbad (fun e S x => by
                      intro q
                      exact hs2 (cEs_star n c [a, b] e S x q b (List.mem_cons_of_mem _ List.mem_cons_self)))
                · exact k_irngbad (fun e S x => by
                    intro q
                    exact hs (cEs_star n c [a, b] e S x q a List.mem_cons_self))
          · exact k_ibad
        · split
          · rename_i hx
            subst hx
            split
            · split
              · rename_i hb
                rw [Bool.and_eq_true] at hb
                exact k_irev M hb.1 hb.2 (h.e X c M _)
              · exact k_ibad
            · exact k_ibad
          · split
            · rename_i hx
              subst hx
              split
              · split
                · rename_i hb
                  rw [Bool.and_eq_true, Bool.and_eq_true] at hb
                  exact k_ienum M hb.1.1 hb.1.2 hb.2 (h.e X c M _)
                · exact k_ibad
              · exact k_ibad
            · split
              · rename_i hx
                subst hx
                split
                · split
                  · rename_i hb
                    rw [Bool.and_eq_true, Bool.and_eq_true, Bool.and_eq_true] at hb
                    exact k_izip M hb.1.1.1 hb.1.1.2 hb.1.2 hb.2 (h.e X c M _) (h.e X c M _)
                  · exact k_ibad
                · exact k_ibad
              · exact k_ival (h.e X c M _)
      · exact k_ival (h.e X c M _)
    | _ => exact k_ival (h.e X c M _)
  e := fun X c M e => by
    cases e with
    | Name x pos => exact k_name M
    | Constant kc j pos => exact k_const
    | BinOp a op b pos =>
      unfold cE
      simp only
      split
      · rename_i o ho; exact k_bin ho (h.e X c M a) (h.e X c M b)
      · exact k_bad
    | UnaryOp op a pos =>
      unfold cE
      cases op <;> first | exact k_bad | exact k_neg (h.e X c M a) | exact k_notE (h.e X c M a)
    | Compare a ops bs pos =>
      unfold cE
      simp only
      split
      · rename_i op b
        split
        · rename_i hs
          split
          · rename_i g hg
            split
            · exact k_kin M hg hs (h.e X c M a)
            · exact k_knin M hg hs (h.e X c M a)
            · exact k_bad
          · exact k_cmp M hs (h.e X c M a) (h.e X c M b)
        · exact k_bad
      · rename_i o1 o2 b d
        split
        · exact k_bad
        · rename_i hs
          exact k_chain M (by simpa using hs) (h.e X c M a) (h.e X c M b) (h.e X c M d)
      · exact k_bad
    | BoolOp op es pos =>
      unfold cE
      cases es with
      | nil => cases op <;> exact k_bad
      | cons a r =>
        cases op with
        | And => exact h.and X c M a r pos
        | Or => exact h.or X c M a r pos
    | IfExp t a b pos => exact k_ife (h.t X c M t) (h.e X c M a) (h.e X c M b)
    | Tuple es kk pos => exact k_tup (h.es X c M es)
    | List es pos => exact k_lst (h.es X c M es)
    | Subscript a b pos =>
      by_cases hs : isSlice b = true
      · cases b with
        | Slice lo hi st p2 =>
          unfold cE
          simp only
          split
          · exact k_slc (h.e X c M a) (h.o X c M lo) (h.o X c M hi)
          · exact k_bad
        | _ => simp [isSlice] at hs
      · have hs' : isSlice b = false := by simpa using hs
        have ee : cE (n + 1) c (.Subscript a b pos) = (match dicOf c a with
            | some g => .kget g (cE n c b)
            | none => .idx (cE n c a) (cE n c b)) := by
          cases b <;> first | rfl | (simp [isSlice] at hs; done)
        rw [ee]
        split
        · rename_i g hg; exact k_kget M hg hs' (h.e X c M b)
        · exact k_idx hs' (h.e X c M a) (h.e X c M b)
    | Call f es kws pos =>
      cases kws with
      | nil =>
        unfold cE
        simp only
        split
        · rename_i x px
          split
          · rename_i hx
            subst hx
            split
            · rename_i hb
              split
              · rename_i a t
                split
                · rename_i hs
                  unfold cIsTy
                  split
                  · rename_i t' ht; exact k_isty M hb hs ht (h.e X c M a)
                  · exact k_bad
                · exact k_bad
              · exact k_bad
            · exact k_bad
          · split
            · exact k_bad
            · rename_i h0
              split
              · exact k_cvcall M h0 (h.es X c M es)
              · exact k_ccall M h0 (h.es X c M es)
        · rename_i o m ap
          split
          · exact k_bad
          · rename_i hap
            have hap' : (ap.endLine == pos.line) = true := by simpa using hap
            split
            · rename_i hm
              subst hm
              split
              · rename_i v
                split
                · rename_i hs
                  rw [Bool.and_eq_true] at hs
                  exact k_app hap' hs.1 hs.2 (h.e X c M o) (h.e X c M v)
                · exact k_bad
              · exact k_bad
            · split
              · rename_i hm
                subst hm
                split
                · rename_i g a b hg
                  split
                  · rename_i hs
                    rw [Bool.and_eq_true] at hs
                    exact k_kgetd M hg hap' hs.1 hs.2 (h.e X c M a) (h.e X c M b)
                  · exact k_bad
                · exact k_bad
              · exact k_bad
        · exact k_bad
      | cons kw kr =>
        unfold cE
        simp only
        split
        · rename_i x px
          split
          · rename_i hg
            rw [Bool.and_eq_true] at hg
            split
            · rename_i f ps ks hf hks
              split
              · rename_i q hq
                have hm := List.mem_of_find?_eq_some hq
                have hp := List.find?_some hq
                simp only [Bool.and_eq_true, decide_eq_true_eq] at hp
                exact k_callK M hg.1 hf (M.glob.ar x f ps hf) hg.2 hks hm hp.1.1 hp.1.2 hp.2 (h.es X c M es) (h.ks X c M _) (fun e S ds S' z => cEs_len n c _ e S ds S' z)
                  (fun e S ds S' z => by rw [cKs_len n c _ e S ds S' z, kwNames_len hks]) (fun he e S x z => by subst he; exact cEs_nil n c e S x z)
              · exact k_bad
            · exact k_bad
          · exact k_bad
        · exact k_bad
    | ListComp elt gs scope pos =>
      unfold cE
      simp only
      split
      · rename_i tg it ifs
        split
        · rename_i hb
          rw [Bool.and_eq_true, Bool.and_eq_true] at hb
          refine k_lc M hb.1.1 hb.1.2 hb.2 (h.i X c M tg it) (fun X' M' => (k_tg_all M' n).1 tg) (fun X' M' => ?_) (fun X' M' => h.e X' _ M' elt)
          split
          · exact k_ifs0
          · exact k_ifs1 (h.t X' _ M' _)
          · exact k_ifsbad
        · exact k_bad
      · exact k_bad
    | _ => exact k_bad
end
end Tm

set_option Elab.async false
set_option linter.all false
set_option maxRecDepth 100000
set_option maxHeartbeats 4000000
namespace Tm
open PySem PySem.Spec PyProof.Rows L2
theorem snd_all (p : Pm) (k : Nat) : ∀ n, Snd p k n
  | 0 => snd_zero
  | n + 1 => snd_succ (snd_all p k n)
/-! ## statements -/
def isComp : Expr → Bool
  | .ListComp .. | .SetComp .. | .DictComp .. => true
  | _ => false
def onlyLc : Expr → Bool
  | .ListComp .. => true
  | _ => false
def isTupE : Expr → Bool
  | .Tuple .. | .List .. => true
  | _ => false
/-- y = [..] on one line, y a plain local -/
def swapC (c : Cc) (y : Str) (py : Pos) : Expr → Bool
  | .ListComp _ _ scope pos => (c.names.lookup y == some .local) && (py.line == pos.line) && !(scope.names.any fun (n, k) => n == y && (k == .local || k == .cell))
  | _ => false
/-- a, b = x, y with plain local names of one line -/
def parN (c : Cc) : Expr → Expr → Option (List Str)
  | .Tuple ts _ _, .Tuple vs _ _ =>
    if !(ts.length == 2 || ts.length == 3) || vs.length != ts.length then none
    else if vs.any fun | .Starred .. => true | _ => false then none
    else
      let line := (ts.head?.map (·.pos.line)).getD 0
      let names := ts.filterMap fun
        | .Name id pos => if c.names.lookup id == some .local && pos.line == line then some id else none
        | _ => none
      if names.length != ts.length || names.eraseDups.length != names.length then none
      else if vs.all (foldedForSure 8) then none
      else if vs.all (constantsAlone 8) then none
      else some names
  | _, _ => none
/-- is it stored one by one, from the left? none: not known -/
def noPar (c : Cc) (t v : Expr) : Bool := match t, v with
  | .Tuple ts _ _, .Tuple vs _ _ =>
    if !(ts.length == 2 || ts.length == 3) || vs.length != ts.length then true
    else if vs.any fun | .Starred .. => true | _ => false then true
    else
      let line := (ts.head?.map (·.pos.line)).getD 0
      let names := ts.filterMap fun
        | .Name id pos => if c.names.lookup id == some .local && pos.line == line then some id else none
        | _ => none
      if names.length != ts.length || names.eraseDups.length != names.length then true
      else if vs.all (foldedForSure 8) then true
      else false
  | .List .., _ => false
  | _, _ => true
def cPar (n : Nat) (c : Cc) (t v : Expr) (names : List Str) : St := match t, v with
  | .Tuple [.Name x _, .Name y _] _ _, .Tuple [a, b] _ _ => (match ixOf c.N x, ixOf c.N y with
    | some i, some j => if decide (names = [x, y]) && (c.names.lookup x == some .local) && (c.names.lookup y == some .local) && !(i == j) && notStar a && notStar b then .asg (.tp 2 (.cons (.nm i) (.cons (.nm j) .nil))) (.tup (.cons (cE n c a) (.cons (cE n c b) .nil))) else .bad
    | _, _ => .bad)
  | .Tuple [.Name x _, .Name y _, .Name z _] _ _, .Tuple [a, b, d] _ _ => (match ixOf c.N x, ixOf c.N y, ixOf c.N z with
    | some i, some j, some l => if decide (names = [x, y, z]) && (c.names.lookup x == some .local) && (c.names.lookup y == some .local) && (c.names.lookup z == some .local) && !(i == j) && !(i == l) && !(j == l) && notStar a && notStar b && notStar d then
        .asg (.tp 3 (.cons (.nm i) (.cons (.nm j) (.cons (.nm l) .nil)))) (.tup (.cons (cE n c a) (.cons (cE n c b) (.cons (cE n c d) .nil)))) else .bad
    | _, _, _ => .bad)
  | _, _ => .bad
mutual
def cS (n : Nat) (c : Cc) (s : Stmt) : St := match n with
  | 0 => .bad
  | n + 1 => match s with
    | .Expr e _ => if isComp e then .bad else .drop (cE n c e)
    | .Return e _ => (match e with
      | none => .ret (.lit .non)
      | some e => .ret (cE n c e))
    | .Assign ts e _ => (match ts with
      | [t] => (match t with
        | .Name y py => if isComp e && !onlyLc e then .bad else .asg (cTg n c t) (cE n c e)
        | .Tuple .. => if isComp e then .bad else if noPar c t e then .asg (cTg n c t) (cE n c e) else (match parN c t e with
          | some names => cPar n c t e names
          | none => .bad)
        | .Subscript o i _ => if isSlice i || isComp e then .bad else .seti (cE n c e) (cE n c o) (cE n c i)
        | _ => .bad)
      | _ => .bad)
    | .If t a b _ => .ifs (cT n c t) (cSs n c a) (cSs n c b)
    | .For t it b o _ => (match o with
      | [] => if notSet it then .for_ (cI n c (isTup t) it) (cTg n c t) (cSs n c b) else .bad
      | _ => .bad)
    | .While t b o _ => (match o with
      | [] => .whl (cT n c t) (cSs n c b)
      | _ => .bad)
    | .Pass _ => .skip
    | .Break _ => .brk
    | .Continue _ => .cont
    | _ => .bad
def cSs (n : Nat) (c : Cc) (s : List Stmt) : St := match n with
  | 0 => .bad
  | n + 1 => match s with
    | [] => .skip
    | s :: r => .seq (cS n c s) (cSs n c r)
end
def AftS (K : PySem.W.Frag) (ρ : List Addr) (H : Hp) (r : Fl × Env' × Store) (D : Ends) : Prop := ∀ (ρ' : List Addr) (H' : Hp), Pre ρ ρ' → Gro H H' → Sim K ρ' r.2.2 H' → match r.1 with
  | .nx => ∀ σ', EnvR K ρ' H' r.2.1 σ' → D.nx σ' H'
  | .bk => ∀ σ', EnvR K ρ' H' r.2.1 σ' → D.bk σ' H'
  | .ct => ∀ σ', EnvR K ρ' H' r.2.1 σ' → D.ct σ' H'
  | .rt d => ∀ v, Rep K ρ' H' v d → D.rt v H'
theorem AftS.mono {K : PySem.W.Frag} {ρ ρ' : List Addr} {H H' : Hp} {r : Fl × Env' × Store} {D : Ends} (k : AftS K ρ H r D) (p : Pre ρ ρ') (g : Gro H H') : AftS K ρ' H' r D := fun _ _ p' g' s => k _ _ (p.trans p') (g.trans g') s
def tS (p : Pm) (K : PySem.W.Frag) (s : St) : TS := fun D σ H => ∃ (ρ : List Addr) (S : Store) (e : Env') (r : Fl × Env' × Store), Sim K ρ S H ∧ EnvR K ρ H e σ ∧ ex p s e S = some r ∧ AftS K ρ H r D
theorem PS.imp {X : Cx} {e : Stmt} {t t' : TS} (h : PS X e t) (f : ∀ D σ H, t' D σ H → t D σ H) : PS X e t' := ⟨fun pins s σ H D I q => h.run pins s σ H D I (f D σ H q)⟩
theorem PSs.imp {X : Cx} {e : List Stmt} {t t' : TS} (h : PSs X e t) (f : ∀ D σ H, t' D σ H → t D σ H) : PSs X e t' := ⟨fun pins s σ H D I q => h.run pins s σ H D I (f D σ H q)⟩
section
variable {X : Cx} {p : Pm} {c : Cc} {k : Nat} {e a b d it : Expr} {st : Stmt} {sts : List Stmt} {ca cb cd : C} {sa sb : St} {pos : Pos}
theorem k_sbad : PS X st (tS p X.K .bad) := ⟨fun _ _ _ _ _ _ h => by obtain ⟨_, _, _, _, _, _, h, _⟩ := h; simp [ex] at h⟩
theorem k_ssbad : PSs X sts (tS p X.K .bad) := ⟨fun _ _ _ _ _ _ h => by obtain ⟨_, _, _, _, _, _, h, _⟩ := h; simp [ex] at h⟩
theorem k_sskip : PSs X [] (tS p X.K .skip) := PSs.imp pss_nil fun D σ H h => by
  obtain ⟨ρ, S, e, r, sm, en, h, q⟩ := h
  simp only [ex, Option.some.injEq] at h
  subst h
  exact q ρ H (Pre.refl ρ) (Gro.refl H) sm σ en
theorem k_pass : PS X (.Pass pos) (tS p X.K .skip) := PS.imp ps_pass fun D σ H h => by
  obtain ⟨ρ, S, e, r, sm, en, h, q⟩ := h
  simp only [ex, Option.some.injEq] at h
  subst h
  exact q ρ H (Pre.refl ρ) (Gro.refl H) sm σ en
theorem k_brk : PS X (.Break pos) (tS p X.K .brk) := PS.imp ps_break fun D σ H h => by
  obtain ⟨ρ, S, e, r, sm, en, h, q⟩ := h
  simp only [ex, Option.some.injEq] at h
  subst h
  exact q ρ H (Pre.refl ρ) (Gro.refl H) sm σ en
theorem k_cont : PS X (.Continue pos) (tS p X.K .cont) := PS.imp ps_continue fun D σ H h => by
  obtain ⟨ρ, S, e, r, sm, en, h, q⟩ := h
  simp only [ex, Option.some.injEq] at h
  subst h
  exact q ρ H (Pre.refl ρ) (Gro.refl H) sm σ en
theorem k_seq (ha : PS X st (tS p X.K sa)) (hb : PSs X sts (tS p X.K sb)) : PSs X (st :: sts) (tS p X.K (.seq sa sb)) := by
  refine PSs.imp (pss_cons ha hb) fun D σ H h => ?_
  obtain ⟨ρ, S, e, r, sm, en, h, q⟩ := h
  simp only [ex, Option.bind_eq_some_iff] at h
  obtain ⟨⟨f1, e1, S1⟩, h1, h2⟩ := h
  refine ⟨ρ, S, e, _, sm, en, h1, fun ρ1 H1 p1 g1 s1 => ?_⟩
  cases f1 with
  | nx => exact fun σ1 en1 => ⟨ρ1, S1, e1, r, s1, en1, h2, q.mono p1 g1⟩
  | bk => simp only [Option.some.injEq] at h2; subst h2; exact q ρ1 H1 p1 g1 s1
  | ct => simp only [Option.some.injEq] at h2; subst h2; exact q ρ1 H1 p1 g1 s1
  | rt v => simp only [Option.some.injEq] at h2; subst h2; exact q ρ1 H1 p1 g1 s1
theorem k_drop (hs : isComp e = false) (ha : PE X e (tE p X.K ca)) : PS X (.Expr e pos) (tS p X.K (.drop ca)) := by
  refine PS.imp (ps_expr ha (by cases e <;> first | rfl | (simp [isComp] at hs; done))) fun D σ H h => ?_
  obtain ⟨ρ, S, e, r, sm, en, h, q⟩ := h
  simp only [ex, Option.map_eq_some_iff] at h
  obtain ⟨x, h1, h2⟩ := h
  subst h2
  exact st1 sm en h1 fun ρ1 H1 v p1 g1 s1 e1 r1 => q ρ1 H1 p1 g1 s1 σ e1
theorem k_ret (ha : PE X e (tE p X.K ca)) : PS X (.Return (some e) pos) (tS p X.K (.ret ca)) := by
  refine PS.imp (ps_ret ha) fun D σ H h => ?_
  obtain ⟨ρ, S, e, r, sm, en, h, q⟩ := h
  simp only [ex, Option.map_eq_some_iff] at h
  obtain ⟨x, h1, h2⟩ := h
  subst h2
  exact st1 sm en h1 fun ρ1 H1 v p1 g1 s1 e1 r1 => q ρ1 H1 p1 g1 s1 v r1
theorem k_retN : PS X (.Return none pos) (tS p X.K (.ret (.lit .non))) := by
  refine PS.imp ps_retN fun D σ H h => ?_
  obtain ⟨ρ, S, e, r, sm, en, h, q⟩ := h
  simp only [ex, ev, isScal, if_true, Option.map_some, Option.some.injEq] at h
  subst h
  exact q ρ H (Pre.refl ρ) (Gro.refl H) sm .non .non
theorem k_if (ht : PT X e (tTs p X.K ca)) (ha : PSs X sts (tS p X.K sa)) {sts2 : List Stmt} (hb : PSs X sts2 (tS p X.K sb)) : PS X (.If e sts sts2 pos) (tS p X.K (.ifs ca sa sb)) := by
  refine PS.imp (ps_if ht ha hb) fun D σ H h => ?_
  obtain ⟨ρ, S, e, r, sm, en, h, q⟩ := h
  simp only [ex, Option.bind_eq_some_iff] at h
  obtain ⟨⟨d1, S1⟩, h1, h2⟩ := h
  split at h2
  · rename_i hi
    simp only at hi
    subst hi
    refine stT sm en h1 fun ρ' H' p1 g1 s1 e1 => ?_
    rw [if_pos rfl]
    exact ⟨ρ', S1, e, r, s1, e1, h2, q.mono p1 g1⟩
  · rename_i hi
    simp only at hi
    subst hi
    refine stT sm en h1 fun ρ' H' p1 g1 s1 e1 => ?_
    rw [if_neg (by decide)]
    exact ⟨ρ', S1, e, r, s1, e1, h2, q.mono p1 g1⟩
  · cases h2
theorem asg_read {K : PySem.W.Frag} {t : Tg} {D : Ends} {σ : L2.St} {H : Hp} (h : tS p K (.asg t ca) D σ H) : tAsg (tE p K ca) (tG K t) D σ H := by
  obtain ⟨ρ, S, e, r, sm, en, h, q⟩ := h
  simp only [ex, Option.bind_eq_some_iff, Option.map_eq_some_iff] at h
  obtain ⟨x, h1, e1, h2, h3⟩ := h
  subst h3
  exact st1 sm en h1 fun ρ1 H1 v p1 g1 s1 en1 r1 => ⟨ρ1, x.2, e, x.1, e1, s1, en1, r1, h2, fun σ' en2 _ => q ρ1 H1 p1 g1 s1 σ' en2⟩
end
end Tm

set_option Elab.async false
set_option linter.all false
set_option maxRecDepth 100000
set_option maxHeartbeats 4000000
namespace Tm
open PySem PySem.Spec PyProof.Rows L2
section
variable {X : Cx} {p : Pm} {c : Cc} {k : Nat} {e a b d it : Expr} {st : Stmt} {sts : List Stmt} {ca cb cd ci : C} {sa sb : St} {pos : Pos}
theorem Mat.block (M : Mat X p c k) : X.env.blockKind = .function := by
  unfold Env.blockKind
  rw [M.kind]; rfl
theorem Mat.kindOf (M : Mat X p c k) (y : Str) : X.env.kindOf y = c.names.lookup y := by
  unfold Env.kindOf
  rw [M.sc]
theorem noPar_ok (M : Mat X p c k) {ts : List Expr} {k1 : Nat} {p1 : Pos} {v : Expr} (h : noPar c (.Tuple ts k1 p1) v = true) : swappedStores [.Tuple ts k1 p1] v X.env = pure none := by
  cases v with
  | Tuple vs k2 p2 =>
    unfold swappedStores
    unfold noPar at h
    simp only [M.block, M.kindOf, bne_self_eq_false, Bool.or_false] at h ⊢
    split
    · rfl
    · rename_i c1
      split
      · rfl
      · rename_i c2
        split
        · rfl
        · rename_i c3
          split
          · rfl
          · rename_i c4
            have z := ((if_neg c1).trans ((if_neg c2).trans ((if_neg c3).trans (if_neg c4)))).symm.trans h
            exact Bool.noConfusion z
  | _ => rfl
theorem parN_ok (M : Mat X p c k) {ts vs names : List Expr} {k1 k2 : Nat} {p1 p2 : Pos} {nm : List Str} (h : parN c (.Tuple ts k1 p1) (.Tuple vs k2 p2) = some nm) : swappedStores [.Tuple ts k1 p1] (.Tuple vs k2 p2) X.env = pure (some nm) := by
  unfold swappedStores
  unfold parN at h
  simp only [M.block, M.kindOf, bne_self_eq_false, Bool.or_false] at h ⊢
  split
  · rename_i c1
    have z := ((if_pos c1).symm.trans h)
    cases z
  · rename_i c1
    split
    · rename_i c2
      have z := (((if_neg c1).trans (if_pos c2)).symm.trans h)
      cases z
    · rename_i c2
      split
      · rename_i c3
        have z := (((if_neg c1).trans ((if_neg c2).trans (if_pos c3))).symm.trans h)
        cases z
      · rename_i c3
        split
        · rename_i c4
          have z := (((if_neg c1).trans ((if_neg c2).trans ((if_neg c3).trans (if_pos c4)))).symm.trans h)
          cases z
        · rename_i c4
          split
          · rename_i c5
            have z := (((if_neg c1).trans ((if_neg c2).trans ((if_neg c3).trans ((if_neg c4).trans (if_pos c5))))).symm.trans h)
            cases z
          · rename_i c5
            have z := Option.some.inj (((if_neg c1).trans ((if_neg c2).trans ((if_neg c3).trans ((if_neg c4).trans (if_neg c5))))).symm.trans h)
            rw [← z]
            rfl
theorem swaps_lc (M : Mat X p c k) {elt : Expr} {gs : List Comprehension} {scope : Scope} {ps py : Pos} {y : Str} (l : Nat) :
    swapsWith (.ListComp elt gs scope ps) (some (.Name y py)) l X.env = pure (swapC c y py (.ListComp elt gs scope ps)) := by
  unfold swapsWith swapC
  simp only [M.block, M.kindOf]
  rfl
theorem k_asgN (M : Mat X p c k) {x : Str} {i : Nat} {px : Pos} (hl : locB c x = true) (hi : ixOf c.N x = some i) (hs : swapsWith e (some (.Name x px)) pos.line X.env = pure false) (ha : PE X e (tE p X.K ca)) : PS X (.Assign [.Name x px] e pos) (tS p X.K (.asg (.nm i) ca)) := by
  obtain ⟨h1, h2⟩ := M.loc hl
  refine PS.imp (ps_set (i := i) (by rw [M.hN]; exact M.nd) (by rw [M.hN]; exact ixOf_get hi) h1 ha hs h2) fun D σ H h => ?_
  obtain ⟨ρ, S, e, r, sm, en, h, q⟩ := h
  simp only [ex, Option.bind_eq_some_iff, Option.map_eq_some_iff] at h
  obtain ⟨x, h1, e1, h2, h3⟩ := h
  subst h3
  refine st1 sm en h1 fun ρ1 H1 v p1 g1 s1 en1 r1 => ?_
  simp only [bindT] at h2
  split at h2
  · cases h2
    exact q ρ1 H1 p1 g1 s1 _ (en1.set r1 i)
  · cases h2
theorem k_asgLc (M : Mat X p c k) {x : Str} {i : Nat} {px : Pos} {elt tg it : Expr} {scope : Scope} {ps : Pos} {ifs : List Expr} {t : Tg} {cif : C} (hl : locB c x = true) (hi : ixOf c.N x = some i)
    (hb : blkC c.N { kind := .function, names := c.names, isGenerator := false, isCoroutine := false } scope (ownOf c.N scope.names) = true)
    (ht : tgIn ((ownOf c.N scope.names).map (·.2)) t = true) (hs : notSet it = true) (hi2 : PI X tg it (tI p X.K ci))
    (hg : ∀ X', Mat X' p (blkCc c scope.names) k → PG X' tg (tG X'.K t)) (hif : ∀ X', Mat X' p (blkCc c scope.names) k → PTs X' ifs (tTs p X'.K cif))
    (he : ∀ X', Mat X' p (blkCc c scope.names) k → PE X' elt (tE p X'.K ca)) : PS X (.Assign [.Name x px] (.ListComp elt [⟨tg, it, ifs, 0⟩] scope ps) pos) (tS p X.K (.asg (.nm i) (.lc ci t cif ca ((ownOf c.N scope.names).map (·.2))))) := by
  by_cases sw : swapC c x px (.ListComp elt [⟨tg, it, ifs, 0⟩] scope ps) = true
  · have ok1 := blkOk_by hb
    have hk : scope.kind = .function := ok1.kind
    have ok : BlkOk X.N X.env.scope scope (ownOf c.N scope.names) := ⟨ok1.kind, ok1.uniq, by rw [M.hN]; exact ok1.ix, by rw [M.sc]; exact ok1.free, by rw [M.hN]; exact ok1.own⟩
    have hloc : X.env.scope.names.lookup x = some .local := by
      simp only [swapC, Bool.and_eq_true] at sw
      rw [M.sc]
      exact eq_of_beq sw.1.1
    refine PS.imp (ps_setLc (i := i) (te := tE p X.K ca) (tt := tTs p X.K cif) (g := tG X.K t) (wi := tI p X.K ci) M.calm (by rw [M.hN]; exact M.nd) (by rw [M.hN]; exact ixOf_get hi) hloc (by rw [swaps_lc M, sw]) hi2 ok (fun s H C cl fp => hg _ (M.blk hk s H C cl fp)) (fun s H C cl fp => hif _ (M.blk hk s H C cl fp)) (fun s H C cl fp => he _ (M.blk hk s H C cl fp)) (foldNo hs _)) fun D σ H h => ?_
    obtain ⟨ρ, S, e, r, sm, en, h, q⟩ := h
    simp only [ex, Option.bind_eq_some_iff, Option.map_eq_some_iff] at h
    obtain ⟨x, h1, e1, h2, h3⟩ := h
    subst h3
    refine lc_read ht (st1 sm en h1 fun ρ1 H1 v p1 g1 s1 en1 r1 => ?_)
    simp only [bindT] at h2
    split at h2
    · cases h2
      exact q ρ1 H1 p1 g1 s1 _ (en1.set r1 i)
    · cases h2
  · exact k_asgN M hl hi (by rw [swaps_lc M]; simp [sw]) (k_lc M hb ht hs hi2 hg hif he)
theorem k_asgT (M : Mat X p c k) {ts : List Expr} {k1 : Nat} {p1 : Pos} {t : Tg} (hn : noPar c (.Tuple ts k1 p1) e = true) (hc : isComp e = false) (hg : PG X (.Tuple ts k1 p1) (tG X.K t)) (ha : PE X e (tE p X.K ca)) :
    PS X (.Assign [.Tuple ts k1 p1] e pos) (tS p X.K (.asg t ca)) :=
  PS.imp (ps_asg ha hg (by cases e <;> first | rfl | (simp [isComp] at hc; done)) (noPar_ok M hn) rfl) fun D σ H h => asg_read h
theorem k_seti {o i : Expr} {p1 : Pos} (hs : isSlice i = false) (hc : isComp e = false) (ho : PE X o (tE p X.K ca)) (hi : PE X i (tE p X.K cb)) (hv : PE X e (tE p X.K cd)) :
    PS X (.Assign [.Subscript o i p1] e pos) (tS p X.K (.seti cd ca cb)) := by
  refine PS.imp (ps_asg hv (pg_sub ho hi set_list (by intro v; cases i <;> first | rfl | (simp [isSlice] at hs; done))) (by cases e <;> first | rfl | (simp [isComp] at hc; done)) (by cases e <;> rfl) rfl) fun D σ H h => ?_
  obtain ⟨ρ, S, e, r, sm, en, h, q⟩ := h
  simp only [ex, Option.bind_eq_some_iff, Option.map_eq_some_iff] at h
  obtain ⟨x1, h1, x2, h2, x3, h3, S', h4, h5⟩ := h
  subst h5
  refine st1 sm en h1 fun ρ1 H1 v p1 g1 s1 e1 r1 => st1 s1 e1 h2 fun ρ2 H2 w p2 g2 s2 e2 r2 => st1 s2 e2 h3 fun ρ3 H3 z p3 g3 s3 e3 r3 => ?_
  obtain ⟨d2, S2⟩ := x2
  obtain ⟨d3, S3⟩ := x3
  unfold setS at h4
  split at h4
  · rename_i n kk hn hk
    simp only at hn hk
    subst hn; subst hk
    split at h4
    · rename_i xs hx
      simp only [Option.map_eq_some_iff] at h4
      obtain ⟨j, hj, h6⟩ := h4
      subst h6
      obtain ⟨A, ev1, hA⟩ := rep_ref r2
      have hA3 := p3 _ _ hA
      obtain ⟨vs, q1, q2⟩ := s3.obj n _ A hx hA3
      refine ⟨A, vs, kk, j, ev1, rep_int r3, q1, by rw [q2.length]; exact hj, ?_⟩
      have rr := Reps.set ((r1.mono g2 p2).mono g3 p3) j q2
      have gm : Gro H3 (upd H3 A (.lst (vs.set j v))) := Gro.mut q1
      exact q ρ3 _ (p1.trans (p2.trans p3)) ((g1.trans (g2.trans g3)).trans gm) (s3.put hx hA3 q1 rr) σ (e3.mono (Pre.refl _) gm)
    · cases h4
  · cases h4
theorem k_for (M : Mat X p c k) {tg it : Expr} {t : Tg} (hs : notSet it = true) (hi : PI X tg it (tI p X.K ci)) (hg : PG X tg (tG X.K t)) (hb : PSs X sts (tS p X.K sb)) : PS X (.For tg it sts [] pos) (tS p X.K (.for_ ci t sb)) := by
  refine PS.imp (ps_for (by rw [M.xe]; exact PassesOwn.never) M.calm hi hg hb (foldNo hs _)) fun D σ H h => ?_
  obtain ⟨ρ, S, e, r, sm, en, h, q⟩ := h
  simp only [ex, Option.bind_eq_some_iff] at h
  obtain ⟨⟨d1, S1⟩, h1, h2⟩ := h
  split at h2
  · rename_i items cks hd
    simp only at hd
    subst hd
    refine ⟨ρ, S, e, items, cks, S1, sm, en, h1, fun ρ1 H1 J p1 g1 s1 ok => ?_⟩
    refine ⟨fun i m σ2 H2 => m = items.length - i ∧ i ≤ items.length ∧ ∃ (ρ2 : List Addr) (S2 : Store) (e2 : Env'), Pre ρ1 ρ2 ∧ Gro H1 H2 ∧ Sim X.K ρ2 S2 H2 ∧ EnvR X.K ρ2 H2 e2 σ2 ∧ forL (ex p sb) t cks (items.drop i) e2 S2 = some r,
      ⟨items.length, by simp, Nat.zero_le _, ρ1, S1, e, Pre.refl _, Gro.refl _, s1, en.mono p1 g1, by simpa using h2⟩, ?_⟩
    rintro i m σ2 H2 ⟨rfl, hle, ρ2, S2, e2, p2, g2, s2, en2, h5⟩
    cases hdr : items.drop i with
    | nil =>
      rw [hdr] at h5
      simp only [forL] at h5
      split at h5
      · rename_i hc
        cases h5
        exact .inl ⟨((ok ρ2 S2 H2 p2 g2 s2 hc) i).1 (drop_nil hdr hle), q ρ2 H2 (p1.trans p2) (g1.trans g2) s2 σ2 en2⟩
      · cases h5
    | cons d rr =>
      obtain ⟨hdi, hdr2, hlt⟩ := drop_cons hdr
      rw [hdr] at h5
      simp only [forL] at h5
      split at h5
      · rename_i hc
        obtain ⟨go, yl⟩ := ((ok ρ2 S2 H2 p2 g2 s2 hc) i).2 d hdi
        simp only [Option.bind_eq_some_iff] at h5
        obtain ⟨e3, hbd, ⟨f4, e4, S4⟩, hbo, h6⟩ := h5
        refine .inr ⟨go, fun σ' H' => ∃ m', m' < items.length - i ∧ (m' = items.length - (i + 1) ∧ i + 1 ≤ items.length ∧ ∃ (ρ2 : List Addr) (S2 : Store) (e2 : Env'), Pre ρ1 ρ2 ∧ Gro H1 H' ∧ Sim X.K ρ2 S2 H' ∧ EnvR X.K ρ2 H' e2 σ' ∧ forL (ex p sb) t cks (items.drop (i + 1)) e2 S2 = some r), fun σ' H' z => z, fun x H3 hy => ?_⟩
        obtain ⟨g3, s3, r3⟩ := yl x H3 hy
        refine ⟨ρ2, S2, e2, d, e3, s3, en2.mono (Pre.refl _) g3, r3, hbd, fun σ4 en4 _ => ⟨ρ2, S2, e3, _, s3, en4, hbo, fun ρ5 H5 p5 g5 s5 => ?_⟩⟩
        cases f4 with
        | nx => exact fun σ6 en6 => ⟨items.length - (i + 1), by omega, rfl, hlt, ρ5, S4, e4, p2.trans p5, (g2.trans g3).trans g5, s5, en6, by rw [hdr2]; exact h6⟩
        | ct => exact fun σ6 en6 => ⟨items.length - (i + 1), by omega, rfl, hlt, ρ5, S4, e4, p2.trans p5, (g2.trans g3).trans g5, s5, en6, by rw [hdr2]; exact h6⟩
        | bk =>
          simp only [Option.some.injEq] at h6
          subst h6
          exact fun σ6 en6 => q ρ5 H5 (p1.trans (p2.trans p5)) (g1.trans ((g2.trans g3).trans g5)) s5 σ6 en6
        | rt v =>
          simp only [Option.some.injEq] at h6
          subst h6
          exact fun w rw' => q ρ5 H5 (p1.trans (p2.trans p5)) (g1.trans ((g2.trans g3).trans g5)) s5 w rw'
      · cases h5
  · cases h2
theorem k_while (M : Mat X p c k) (ht : PT X e (tTs p X.K ca)) (hb : PSs X sts (tS p X.K sb)) : PS X (.While e sts [] pos) (tS p X.K (.whl ca sb)) := by
  refine PS.imp (ps_while (by rw [M.xe]; exact PassesOwn.never) ht hb) fun D σ H h => ?_
  obtain ⟨ρ, S, e, r, sm, en, h, q⟩ := h
  simp only [ex] at h
  refine ⟨fun m σ2 H2 => ∃ (ρ2 : List Addr) (S2 : Store) (e2 : Env'), Pre ρ ρ2 ∧ Gro H H2 ∧ Sim X.K ρ2 S2 H2 ∧ EnvR X.K ρ2 H2 e2 σ2 ∧ whL (ev p ca) (ex p sb) m e2 S2 = some r, ⟨p.W, ρ, S, e, Pre.refl _, Gro.refl _, sm, en, h⟩, ?_⟩
  rintro m σ2 H2 ⟨ρ2, S2, e2, p2, g2, s2, en2, h5⟩
  cases m with
  | zero => simp [whL] at h5
  | succ m =>
    simp only [whL, Option.bind_eq_some_iff] at h5
    obtain ⟨⟨bv, S3⟩, hcnd, h6⟩ := h5
    split at h6
    · rename_i hbv
      simp only at hbv
      subst hbv
      simp only [Option.bind_eq_some_iff] at h6
      obtain ⟨⟨f4, e4, S4⟩, hbo, h7⟩ := h6
      refine stT s2 en2 hcnd fun ρ3 H3 p3 g3 s3 en3 => ?_
      rw [if_pos rfl]
      refine ⟨fun σ' H' => ∃ m', m' < m + 1 ∧ ∃ (ρ2 : List Addr) (S2 : Store) (e2 : Env'), Pre ρ ρ2 ∧ Gro H H' ∧ Sim X.K ρ2 S2 H' ∧ EnvR X.K ρ2 H' e2 σ' ∧ whL (ev p ca) (ex p sb) m' e2 S2 = some r, fun σ' H' z => z, ρ3, S3, e2, _, s3, en3, hbo, fun ρ5 H5 p5 g5 s5 => ?_⟩
      cases f4 with
      | nx => exact fun σ6 en6 => ⟨m, by omega, ρ5, S4, e4, p2.trans (p3.trans p5), (g2.trans g3).trans g5, s5, en6, h7⟩
      | ct => exact fun σ6 en6 => ⟨m, by omega, ρ5, S4, e4, p2.trans (p3.trans p5), (g2.trans g3).trans g5, s5, en6, h7⟩
      | bk =>
        simp only [Option.some.injEq] at h7
        subst h7
        exact fun σ6 en6 => q ρ5 H5 (p2.trans (p3.trans p5)) ((g2.trans g3).trans g5) s5 σ6 en6
      | rt v =>
        simp only [Option.some.injEq] at h7
        subst h7
        exact fun w rw' => q ρ5 H5 (p2.trans (p3.trans p5)) ((g2.trans g3).trans g5) s5 w rw'
    · rename_i hbv
      simp only at hbv
      subst hbv
      simp only [Option.some.injEq] at h6
      subst h6
      refine stT s2 en2 hcnd fun ρ3 H3 p3 g3 s3 en3 => ?_
      rw [if_neg (by decide)]
      exact q ρ3 H3 (p2.trans p3) (g2.trans g3) s3 σ2 en3
    · cases h6
theorem k_par2 (M : Mat X p c k) {x y : Str} {i j : Nat} {px py pt p2 : Pos} {kt k2 : Nat} (hp : parN c (.Tuple [.Name x px, .Name y py] kt pt) (.Tuple [a, b] k2 p2) = some [x, y]) (hi : ixOf c.N x = some i) (hj : ixOf c.N y = some j) (hij : i ≠ j)
    (h1 : notStar a = true) (h2 : notStar b = true) (hx : c.names.lookup x = some .local) (hy : c.names.lookup y = some .local) (ha : PE X a (tE p X.K ca)) (hb : PE X b (tE p X.K cb)) :
    PS X (.Assign [.Tuple [.Name x px, .Name y py] kt pt] (.Tuple [a, b] k2 p2) pos) (tS p X.K (.asg (.tp 2 (.cons (.nm i) (.cons (.nm j) .nil))) (.tup (.cons ca (.cons cb .nil))))) := by
  have hA : PA X [a, b] (tA p X.K (.cons ca (.cons cb .nil))) := k_acons h1 ha (k_acons h2 hb k_anil)
  refine PS.imp (ps_par (i := i) (j := j) M.calm (by rw [M.hN]; exact M.nd) (by rw [M.hN]; exact ixOf_get hi) (by rw [M.hN]; exact ixOf_get hj) hij (by rw [M.sc]; exact hx) (by rw [M.sc]; exact hy) hA (parN_ok (names := []) M hp)) fun D σ H h => ?_
  obtain ⟨ρ, S, e, r, sm, en, h, q⟩ := h
  simp only [ex, Option.bind_eq_some_iff, Option.map_eq_some_iff] at h
  obtain ⟨⟨d0, S0⟩, h1, e1, h2, h3⟩ := h
  subst h3
  rw [ev] at h1
  simp only [Option.bind_eq_some_iff] at h1
  obtain ⟨⟨dd, S1⟩, h4, h5⟩ := h1
  split at h5
  · rename_i ds hd
    simp only at hd
    subst hd
    obtain ⟨hz, h6⟩ := okI_some h5
    cases h6
    refine stA sm en h4 fun ρ1 H1 vs p1 g1 s1 en1 r1 => ?_
    simp only [bindT] at h2
    split at h2
    · rename_i hn
      match ds, hn, r1 with
      | [d1, d2], _, .cons r1 (.cons r2 .nil) =>
        simp only [bindTs, bindT, Option.bind_eq_some_iff] at h2
        obtain ⟨e2, h6, e3, h7, h8⟩ := h2
        split at h6
        · cases h6
          split at h7
          · cases h7
            cases h8
            exact ⟨_, _, rfl, q ρ1 H1 p1 g1 s1 _ ((en1.set r1 i).set r2 j)⟩
          · cases h7
        · cases h6
    · cases h2
  · cases h5
theorem k_par3 (M : Mat X p c k) {x y z : Str} {i j l : Nat} {px py pz pt p2 : Pos} {kt k2 : Nat} (hp : parN c (.Tuple [.Name x px, .Name y py, .Name z pz] kt pt) (.Tuple [a, b, d] k2 p2) = some [x, y, z])
    (hi : ixOf c.N x = some i) (hj : ixOf c.N y = some j) (hl : ixOf c.N z = some l) (hij : i ≠ j) (hil : i ≠ l) (hjl : j ≠ l)
    (h1 : notStar a = true) (h2 : notStar b = true) (h3 : notStar d = true) (hx : c.names.lookup x = some .local) (hy : c.names.lookup y = some .local) (hz : c.names.lookup z = some .local) (ha : PE X a (tE p X.K ca)) (hb : PE X b (tE p X.K cb)) (hd : PE X d (tE p X.K cd)) :
    PS X (.Assign [.Tuple [.Name x px, .Name y py, .Name z pz] kt pt] (.Tuple [a, b, d] k2 p2) pos) (tS p X.K (.asg (.tp 3 (.cons (.nm i) (.cons (.nm j) (.cons (.nm l) .nil)))) (.tup (.cons ca (.cons cb (.cons cd .nil)))))) := by
  have hA : PA X [a, b, d] (tA p X.K (.cons ca (.cons cb (.cons cd .nil)))) := k_acons h1 ha (k_acons h2 hb (k_acons h3 hd k_anil))
  refine PS.imp (ps_par3 (i := i) (j := j) (l := l) M.calm (by rw [M.hN]; exact M.nd) (by rw [M.hN]; exact ixOf_get hi) (by rw [M.hN]; exact ixOf_get hj) (by rw [M.hN]; exact ixOf_get hl) hij hil hjl (by rw [M.sc]; exact hx) (by rw [M.sc]; exact hy) (by rw [M.sc]; exact hz) hA (parN_ok (names := []) M hp)) fun D σ H h => ?_
  obtain ⟨ρ, S, e, r, sm, en, h, q⟩ := h
  simp only [ex, Option.bind_eq_some_iff, Option.map_eq_some_iff] at h
  obtain ⟨⟨d0, S0⟩, h1, e1, h2, h3⟩ := h
  subst h3
  rw [ev] at h1
  simp only [Option.bind_eq_some_iff] at h1
  obtain ⟨⟨dd, S1⟩, h4, h5⟩ := h1
  split at h5
  · rename_i ds hd
    simp only at hd
    subst hd
    obtain ⟨hz, h6⟩ := okI_some h5
    cases h6
    refine stA sm en h4 fun ρ1 H1 vs p1 g1 s1 en1 r1 => ?_
    simp only [bindT] at h2
    split at h2
    · rename_i hn
      match ds, hn, r1 with
      | [d1, d2, d3], _, .cons r1 (.cons r2 (.cons r3 .nil)) =>
        simp only [bindTs, bindT, Option.bind_eq_some_iff] at h2
        obtain ⟨e2, h6, e3, h7, e4, h8, h9⟩ := h2
        split at h6
        · cases h6
          split at h7
          · cases h7
            split at h8
            · cases h8
              cases h9
              exact ⟨_, _, _, rfl, q ρ1 H1 p1 g1 s1 _ (((en1.set r1 i).set r2 j).set r3 l)⟩
            · cases h8
          · cases h7
        · cases h6
    · cases h2
  · cases h5
end
end Tm

set_option Elab.async false
set_option linter.all false
set_option maxRecDepth 100000
set_option maxHeartbeats 4000000
namespace Tm
open PySem PySem.Spec PyProof.Rows L2
section
variable {X : Cx} {p : Pm} {c : Cc} {k : Nat}
theorem k_cPar (M : Mat X p c k) (n : Nat) {t v : Expr} {nm : List Str} {pos : Pos} (hp : parN c t v = some nm) : PS X (.Assign [t] v pos) (tS p X.K (cPar n c t v nm)) := by
  have sn := snd_all p k n
  unfold cPar
  split
  · rename_i x px y py kt pt a b k2 p2
    split
    · rename_i i j hi hj
      split
      · rename_i hc
        simp only [Bool.and_eq_true, decide_eq_true_eq, Bool.not_eq_true', beq_eq_false_iff_ne, beq_iff_eq] at hc
        obtain ⟨⟨⟨⟨⟨h1, h2⟩, h3⟩, h4⟩, h5⟩, h6⟩ := hc
        exact k_par2 M (by rw [← h1]; exact hp) hi hj h4 h5 h6 h2 h3 (sn.e X c M a) (sn.e X c M b)
      · exact k_sbad
    · exact k_sbad
  · rename_i x px y py z pz kt pt a b d k2 p2
    split
    · rename_i i j l hi hj hl
      split
      · rename_i hc
        simp only [Bool.and_eq_true, decide_eq_true_eq, Bool.not_eq_true', beq_eq_false_iff_ne, beq_iff_eq] at hc
        obtain ⟨⟨⟨⟨⟨⟨⟨⟨⟨h1, h2⟩, h3⟩, h4⟩, h5⟩, h6⟩, h7⟩, h8⟩, h9⟩, h10⟩ := hc
        exact k_par3 M (by rw [← h1]; exact hp) hi hj hl h5 h6 h7 h8 h9 h10 h2 h3 h4 (sn.e X c M a) (sn.e X c M b) (sn.e X c M d)
      · exact k_sbad
    · exact k_sbad
  · exact k_sbad
theorem k_asgName (M : Mat X p c k) (n m : Nat) {x : Str} {px pos : Pos} {e : Expr} : PS X (.Assign [.Name x px] e pos) (tS p X.K (if (isComp e && !onlyLc e) = true then .bad else .asg (cTg m c (.Name x px)) (cE n c e))) := by
  have sn := snd_all p k n
  split
  · exact k_sbad
  · rename_i hc
    have gb : ∀ {ca : C}, PS X (.Assign [.Name x px] e pos) (tS p X.K (.asg .bad ca)) := fun {ca} => ⟨fun _ _ _ _ _ _ h => by
      obtain ⟨_, _, _, _, _, _, h, _⟩ := h
      simp only [ex, Option.bind_eq_some_iff, Option.map_eq_some_iff] at h
      obtain ⟨x, _, e1, h2, _⟩ := h
      simp [bindT] at h2⟩
    have cb : ∀ {t : Tg}, PS X (.Assign [.Name x px] e pos) (tS p X.K (.asg t .bad)) := fun {t} => ⟨fun _ _ _ _ _ _ h => by
      obtain ⟨_, _, _, _, _, _, h, _⟩ := h
      simp only [ex, ev, Option.bind_eq_some_iff] at h
      obtain ⟨x, h1, _⟩ := h
      cases h1⟩
    unfold cTg
    split
    · rename_i hl
      split
      · rename_i i hi
        by_cases hcp : isComp e = true
        · cases e with
          | ListComp elt gs scope ps =>
            cases n with
            | zero => unfold cE; exact cb
            | succ n =>
              have sm := snd_all p k n
              unfold cE
              simp only
              split
              · rename_i tg it ifs
                split
                · rename_i hb
                  rw [Bool.and_eq_true, Bool.and_eq_true] at hb
                  refine k_asgLc M hl hi hb.1.1 hb.1.2 hb.2 (sm.i X c M tg it) (fun X' M' => (k_tg_all M' n).1 tg) (fun X' M' => ?_) (fun X' M' => sm.e X' _ M' elt)
                  split
                  · exact k_ifs0
                  · exact k_ifs1 (sm.t X' _ M' _)
                  · exact k_ifsbad
                · exact cb
              · exact cb
          | SetComp => simp [isComp, onlyLc] at hc
          | DictComp => simp [isComp, onlyLc] at hc
          | _ => simp [isComp] at hcp
        · exact k_asgN M hl hi (by cases e <;> first | rfl | (simp [isComp] at hcp; done)) (sn.e X c M e)
      · exact gb
    · exact gb
structure SndS (p : Pm) (k n : Nat) : Prop where
  s : ∀ (X : Cx) (c : Cc), Mat X p c k → ∀ s, PS X s (tS p X.K (cS n c s))
  ss : ∀ (X : Cx) (c : Cc), Mat X p c k → ∀ s, PSs X s (tS p X.K (cSs n c s))
theorem snds_all (p : Pm) (k : Nat) : ∀ n, SndS p k n
  | 0 => ⟨fun X c M s => by unfold cS; exact k_sbad, fun X c M s => by unfold cSs; exact k_ssbad⟩
  | n + 1 => by
    have ih := snds_all p k n
    have sn := snd_all p k n
    refine ⟨fun X c M s => ?_, fun X c M ss => ?_⟩
    · cases s with
      | Expr e pos =>
        unfold cS
        simp only
        split
        · exact k_sbad
        · rename_i h; exact k_drop (by simpa using h) (sn.e X c M e)
      | Return e pos =>
        cases e with
        | none => exact k_retN
        | some e => exact k_ret (sn.e X c M e)
      | Assign ts e pos =>
        unfold cS
        simp only
        split
        · rename_i t
          split
          · exact k_asgName M n n
          · rename_i ts k1 p1
            split
            · exact k_sbad
            · rename_i hc
              have hc' : isComp e = false := by simpa using hc
              split
              · rename_i hn
                exact k_asgT M hn hc' ((k_tg_all M n).1 _) (sn.e X c M e)
              · split
                · rename_i nm hp; exact k_cPar M n hp
                · exact k_sbad
          · rename_i o i p1
            split
            · exact k_sbad
            · rename_i hc
              rw [Bool.or_eq_true, not_or] at hc
              exact k_seti (by simpa using hc.1) (by simpa using hc.2) (sn.e X c M o) (sn.e X c M i) (sn.e X c M e)
          · exact k_sbad
        · exact k_sbad
      | If t a b pos => exact k_if (sn.t X c M t) (ih.ss X c M a) (ih.ss X c M b)
      | For t it b o pos =>
        unfold cS
        simp only
        split
        · split
          · rename_i hs; exact k_for M hs (sn.i X c M t it) ((k_tg_all M n).1 t) (ih.ss X c M b)
          · exact k_sbad
        · exact k_sbad
      | While t b o pos =>
        unfold cS
        simp only
        split
        · exact k_while M (sn.t X c M t) (ih.ss X c M b)
        · exact k_sbad
      | Pass pos => exact k_pass
      | Break pos => exact k_brk
      | Continue pos => exact k_cont
      | _ => exact k_sbad
    · cases ss with
      | nil => exact k_sskip
      | cons s r => exact k_seq (ih.s X c M s) (ih.ss X c M r)
end
end Tm

set_option Elab.async false
set_option linter.all false
set_option maxRecDepth 100000
set_option maxHeartbeats 4000000
namespace Tm
open PySem PySem.Spec PyProof.Rows L2
/-! ## whole programs -/
/-- a program: parameters, slots, body of each def; the constants; the module's dicts -/
structure Pr where
  fs : Nat → Option (Nat × Nat × St)
  gl : Nat → D
  kd : Nat → List (Str × D)
  fx : Str → Option Nat
def fin : Option (Fl × Env' × Store) → Option (D × Store)
  | some (.rt d, _, S) => some (d, S)
  | some (.nx, _, S) => some (.non, S)
  | _ => none
def env0 (np ns : Nat) (ds : List D) : Env' := ds.map some ++ List.replicate (ns - np) none
def run (q : Pr) (W : Nat) : Nat → Nat → List D → Store → Option (D × Store)
  | 0, _, _, _ => none
  | k + 1, f, ds, S => match q.fs f with
    | some (np, ns, body) => if ds.length = np then fin (ex ⟨run q W k, q.gl, q.kd, W, q.fx⟩ body (env0 np ns ds) S) else none
    | none => none
abbrev pm (q : Pr) (W k : Nat) : Pm := ⟨run q W k, q.gl, q.kd, W, q.fx⟩
theorem run_arity {q : Pr} {W k f np ns : Nat} {body : St} (h : q.fs f = some (np, ns, body)) : Arity (run q W k) f np := by
  intro ds S x e
  cases k with
  | zero => cases e
  | succ k =>
    simp only [run, h] at e
    split at e
    · assumption
    · cases e
/-- how the text's defs stand in the heap behind the top -/
structure Stands (K : PySem.W.Frag) (mg : Str → Option Value) (w : World) (q : Pr) (G : Gx) (n : Nat) : Prop where
  funs : ∀ (x : Str) (f : Nat) (ps : List Str), G.funs.lookup x = some (f, ps) → ∃ (a : Addr) (fd : FuncData) (qual : Str) (st : Stmt) (N : List Str), mg x = some (.ref a) ∧ Fun K x qual st a fd ∧ FnScope N ps (defScope st) ∧ Binds K fd ps [] ∧
    (∀ r ∈ G.kws, r.1 = x → ∀ (t : Shared) (us ws : List Value), us.length = r.2.1 → ws.length = r.2.2.1.length → BindsTo t fd ⟨us, r.2.2.1.zip ws⟩ (ps.zip (pick r.2.2.2 (us ++ ws)))) ∧
    q.fs f = some (ps.length, N.length, cSs n ⟨N, (defScope st).names, none, G⟩ (defBody st))
  cons : ∀ (x : Str) (g : Nat), G.cons.lookup x = some g → ∃ (u : Value) (v : V), mg x = some u ∧ RelV v u ∧ ∀ ρ H, Rep K ρ H v (q.gl g)
  dics : ∀ (x : Str) (g : Nat), G.dics.lookup x = some g → ∃ (a : Addr) (es : Array DictEntry) (n : Nat), mg x = some (.ref a) ∧ KDict K w a es n ∧
    ∀ z : Str, match lookK (q.kd g) z with
      | none => PySem.W.nsIn K a z = some none
      | some d => ∃ (u : Value) (v : V), PySem.W.nsIn K a z = some (some u) ∧ RelV v u ∧ ∀ ρ H, Rep K ρ H v d
  blt : ∀ x : Str, G.blt.contains x = true → mg x = none
  fnv : ∀ (x : Str) (a : Addr), PySem.W.nsIn K mainGlobals x = some (some (.ref a)) → mg x = some (.ref a)
  fxs : ∀ (x : Str) (i : Nat), q.fx x = some i → ∃ ps, G.funs.lookup x = some (i, ps)
theorem start_env {K : PySem.W.Frag} {ρ : List Addr} {H : Hp} {vs : List V} {ds : List D} {N : List Str} {np : Nat} (r : Reps K ρ H vs ds) (hn : ds.length = np) : EnvR K ρ H (env0 np N.length ds) (L2.start N vs) := by
  subst hn
  unfold env0 L2.start
  rw [r.length]
  refine ⟨by simp [r.length], fun i d h => ?_⟩
  by_cases hi : i < ds.length
  · rw [List.getElem?_append_left (by simpa using hi), List.getElem?_map] at h
    cases e : ds[i]? with
    | none => rw [e] at h; cases h
    | some f =>
      rw [e] at h
      cases h
      obtain ⟨v, h1, h2⟩ := r.get e
      refine ⟨v, ?_, h2⟩
      rw [List.getElem?_append_left (by rw [List.length_map, r.length]; exact hi), List.getElem?_map, h1]
      rfl
  · rw [List.getElem?_append_right (by simpa using hi), List.getElem?_replicate] at h
    split at h <;> cases h
theorem gmat_all {P : Program} {w : World} {K : PySem.W.Frag} {mg : Str → Option Value} {base : Heap} {q : Pr} {G : Gx} {n : Nat} (T : Stands K mg w q G n) (W : Nat) : ∀ k : Nat, GMat P w K mg base (pm q W k) G k := by
  intro k
  induction k with
  | zero =>
    refine ⟨fun x f ps h => ?_, T.cons, T.dics, T.blt, fun x f ps h => ?_, T.fnv, T.fxs⟩
    · obtain ⟨a, fd, qual, st, N, h1, F, S, hb, hk, hq⟩ := T.funs x f ps h
      refine ⟨a, fd, h1, F.kp, ⟨fun vs H Q h => h.1, fun B out t H as us vs Q _ _ _ _ _ h => ?_⟩, hb, hk⟩
      obtain ⟨_, ρ, S, ds, d, S', _, _, e, _⟩ := h
      cases e
    · obtain ⟨a, fd, qual, st, N, h1, F, S, hb, hk, hq⟩ := T.funs x f ps h
      exact run_arity hq
  | succ k ih =>
    refine ⟨fun x f ps h => ?_, T.cons, T.dics, T.blt, fun x f ps h => ?_, T.fnv, T.fxs⟩
    · obtain ⟨a, fd, qual, st, N, h1, F, S, hb, hk, hq⟩ := T.funs x f ps h
      refine ⟨a, fd, h1, F.kp, fnG_of F S (fun vs H Q h => h.1) fun cdv B out t H vs Q room gd h => ?_, hb, hk⟩
      have M : Mat (cxOf CX0 P w K mg base N qual (defScope st) a cdv B out t H E0).nox (pm q W k) ⟨N, (defScope st).names, none, G⟩ k :=
        ⟨rfl, S.nd, rfl, S.kind, rfl, gd, room, rfl, fun x _ => .inl rfl, ih⟩
      refine ⟨_, (snds_all (pm q W k) k n).ss _ _ M (defBody st), ?_⟩
      obtain ⟨hl, ρ, S0, ds, d, S', sm, rs, e, kq⟩ := h
      simp only [run, hq] at e
      split at e
      · rename_i hn
        unfold fin at e
        split at e
        · rename_i d' e' S'' he
          cases e
          exact ⟨ρ, S0, _, _, sm, start_env rs hn, he, fun ρ' H' p1 g1 s1 v rv => kq ρ' H' v p1 g1 s1 rv⟩
        · rename_i e' S'' he
          cases e
          exact ⟨ρ, S0, _, _, sm, start_env rs hn, he, fun ρ' H' p1 g1 s1 σ' en => kq ρ' H' .non p1 g1 s1 .non⟩
        · cases e
      · cases e
    · obtain ⟨a, fd, qual, st, N, h1, F, S, hb, hk, hq⟩ := T.funs x f ps h
      exact run_arity hq
end Tm

set_option Elab.async false
set_option linter.all false
set_option maxRecDepth 100000
set_option maxHeartbeats 4000000
namespace Tm
open PySem PySem.Spec PyProof.Rows L2
/-! ## the law's own call -/
theorem room_caller {k : Nat} (h : k ≤ 200) : Room k callerA := ⟨rfl, by
  have e : callerA.depth = 1 + claimMargin := rfl
  rw [e]
  have : 1 + claimMargin + 3 * 200 + 5 < recursionLimit := by decide
  omega, by
  have e : callerA.units = 4 := rfl
  rw [e]
  have : 4 + 16 * 200 + 200 < cLine := by decide
  omega⟩
/-- what the law's def does, asked of the machine: at the script's ints it hands back True -/
def Says (q : Pr) (f : Nat) (ns : List Int) : Prop := ∃ (W k : Nat) (S : Store), k ≤ 200 ∧ run q W k f [.ref 0] [.ro (ns.map D.int)] = some (.bl true, S)
section
variable {P : Program} {w : World} {K : PySem.W.Frag} {mg mb : Str → Option Value} {fa a : Addr} {fd : FuncData} {t : Shared} {vs : List Value} {ns : List Int} {q : Pr} {f : Nat}
/-- from an abstract heap that knows the script at most -/
theorem law_from {k W : Nat} {S : Store} (H : Hp) (only : ∀ b u, H b = some u → b = a ∧ ∃ o xs, u = .frz o (.lst xs)) (apart : ∀ u, H a = some u → K.lookup a = none) (fx : Fix K H a (ns.map V.int)) (hok : HOk P w H t.heap)
    (KX : K.In t.heap) (hns : t.heap.Ns mainGlobals mg) (hb : t.heap.Ns builtinsNs mb) (hbb : ∀ x : Str, x ≠ "__name__" → mb x = bootBuiltins x) (hlim : t.heap.NoLimit) (hg : t.gens = #[]) (ha : t.heap.get? a = some { cls := .type "list", data := .seq vs.toArray })
    (hk : k ≤ 200) (F : ∀ base : Heap, K.In base → base.Ns mainGlobals mg → FnG P w K mg base k fa fd ["script"] (spR K 1 (run q W k f))) (hbind : ∀ (s : Shared) (u : Value), BindsTo s fd ⟨[u], []⟩ [(("script" : Str), u)])
    (hrun : run q W k f [.ref 0] [.ro (ns.map D.int)] = some (.bl true, S)) :
    codeAny (model P w) callerA (.call (.ref fa) ⟨[.ref a], []⟩) (fun r s' => r = .ok (.ret (.bool true)) ∧ OldK t.heap s'.heap ∧ s'.os = t.os ∧ AllBare s'.gens) t := by
  have keepD : ∀ {b : Addr} {m : Str → Option Value}, t.heap.Ns b m → (hidT t.heap H).Ns b m := by
    intro b m h
    obtain ⟨o, es, ep, h1, h2, h3⟩ := h
    refine ⟨o, es, ep, hidT_get h1 ?_, h2, h3⟩
    cases z : H b with
    | none => rfl
    | some u =>
      obtain ⟨e, _⟩ := only b u z
      subst e
      rw [ha] at h1
      cases h1
      cases h2
  have inB : K.In (hidT t.heap H) := by
    intro b o hb'
    refine hidT_get (KX b o hb') ?_
    cases z : H b with
    | none => rfl
    | some u =>
      obtain ⟨e, _⟩ := only b u z
      subst e
      rw [apart u z] at hb'
      cases hb'
  have modB : Mod K mg (hidT t.heap H) := by
    obtain ⟨mc, l1, l2⟩ := hlim
    exact ⟨inB, keepD hns, ⟨mb, keepD hb, hbb⟩, ⟨mc, keepD l1, l2⟩⟩
  have e0 : Env0 P w K mg (hidT t.heap H) callerA [] t H := by
    refine ⟨rfl, modB, fun b o e => of_hidT e, ?_, trivial, fun b hb' => ?_, hok, .of_eq hg⟩
    · rw [hidT_size]; exact Nat.le_refl _
    · cases hb'
  have sim : Sim K [a] [.ro (ns.map D.int)] H := by
    refine ⟨rfl, fun n o A e ea => ?_, fun m n A _ _ m1 _ => ?_⟩
    · match n, e, ea with
      | 0, e, ea =>
        cases e
        cases ea
        exact ⟨_, fx, reps_ints ns⟩
    · obtain ⟨xs, m1⟩ := m1
      match m, m1 with
      | 0, m1 => cases m1
  have sp : spR K 1 (run q W k f) [.ref a] H (fun v _ => v = .bl true) E0 :=
    ⟨rfl, [a], _, [.ref 0], .bl true, S, sim, .cons (.ref rfl) .nil, hrun, fun ρ' H' v _ _ _ r => rep_bl r⟩
  apply codeAny_mono ((F _ inB (keepD hns)).go callerA [] t H ⟨[.ref a], []⟩ [.ref a] [.ref a] _ (room_caller hk) rfl e0 (hbind t (.ref a)) (.cons rfl .nil) sp)
  intro r s' h
  match r, h with
  | .ok (.ret u), ⟨v, H', os, bare, un, hok', r', ev⟩ =>
    subst ev
    have eu : u = Value.bool true := r'
    subst eu
    refine ⟨rfl, OldK.of_keep fun b o e => ?_, os, bare⟩
    cases z : H b with
    | none => exact un.keep b o e z (fun x => by cases x) (fun x => by cases x)
    | some u =>
      obtain ⟨_, ob, xs, eu⟩ := only b u z
      subst eu
      have z2 := un.frzs b ob _ z
      have h1 := (hok b _ z).1
      have h2 := (hok' b _ z2).1
      rw [e] at h1
      cases h1
      exact h2
/-- the law's call, from the machine's word -/
theorem law_holds (KX : K.In t.heap) (hns : t.heap.Ns mainGlobals mg) (hb : t.heap.Ns builtinsNs mb) (hbb : ∀ x : Str, x ≠ "__name__" → mb x = bootBuiltins x) (hlim : t.heap.NoLimit) (hg : t.gens = #[]) (ha : t.heap.get? a = some { cls := .type "list", data := .seq vs.toArray })
    (hi : IntsAre vs ns) (hl : ns.length ≤ sizeLine) (F : ∀ (W k : Nat) (base : Heap), K.In base → base.Ns mainGlobals mg → FnG P w K mg base k fa fd ["script"] (spR K 1 (run q W k f))) (hbind : ∀ (s : Shared) (u : Value), BindsTo s fd ⟨[u], []⟩ [(("script" : Str), u)])
    (says : Says q f ns) : codeAny (model P w) callerA (.call (.ref fa) ⟨[.ref a], []⟩) (fun r s' => r = .ok (.ret (.bool true)) ∧ OldK t.heap s'.heap ∧ s'.os = t.os ∧ AllBare s'.gens) t := by
  obtain ⟨W, k, S, hk, hrun⟩ := says
  have rv := vals_ints hi
  have lv := hi.length
  cases hka : K.lookup a with
  | some o =>
    have e := KX a o hka
    rw [ha] at e
    cases e
    refine law_from (fun _ => none) (fun b u z => by cases z) (fun u z => by cases z) (.inr (.inr ⟨_, vs.toArray, _, hka, rfl, rfl, rfl, ?_, by simpa using rv⟩)) (fun b u z => by cases z) KX hns hb hbb hlim hg ha hk (F W k) hbind hrun
    rw [List.size_toArray, lv]; exact hl
  | none =>
    have at_ : ∀ b u, (fun b => if b = a then some (HO.frz { cls := .type "list", data := .seq vs.toArray } (.lst (ns.map V.int))) else none : Hp) b = some u → b = a ∧ u = HO.frz { cls := .type "list", data := .seq vs.toArray } (.lst (ns.map V.int)) := by
      intro b u z
      by_cases hba : b = a
      · subst hba
        simp only [if_pos] at z
        exact ⟨rfl, (Option.some.inj z).symm⟩
      · simp only [if_neg hba] at z
        cases z
    refine law_from (fun b => if b = a then some (.frz { cls := .type "list", data := .seq vs.toArray } (.lst (ns.map V.int))) else none) (fun b u z => ⟨(at_ b u z).1, _, _, (at_ b u z).2⟩) (fun _ _ => hka) (.inl ⟨_, if_pos rfl⟩) (fun b u z => ?_) KX hns hb hbb hlim hg ha hk (F W k) hbind hrun
    obtain ⟨e1, e2⟩ := at_ b u z
    subst e1; subst e2
    exact ⟨ha, by rw [List.length_map]; exact hl, vs, _, rv, ha⟩
end
/-- the goal that the head leaves -/
theorem walk_M {l : PySem.W.OpenLaw} {q0 : Program} {loose : List Str} {XP : (Str → Option Value) → Heap → Prop} {YP : World → Heap → Prop} {d : DefRec} {K : Params → PySem.W.Frag} {q : Pr} {f : Nat}
    (hn : l.most = some 63) (hdf : d.params.defaults = []) (hY : ∀ (w : World) (h : Heap), YP w h → (K w.params).In h)
    (F : ∀ (w : World) (mg : Str → Option Value) (fa : Addr) (h : Heap), (K w.params).In h → h.Ns mainGlobals mg → mg d.name = some (.ref fa) →
      ∃ fd : FuncData, (∀ (s : Shared) (u : Value), BindsTo s fd ⟨[u], []⟩ [(("script" : Str), u)]) ∧ ∀ (W k : Nat) (base : Heap), (K w.params).In base → base.Ns mainGlobals mg → FnG l.prog w (K w.params) mg base k fa fd ["script"] (spR (K w.params) 1 (run q W k f)))
    (says : ∀ ns : List Int, ns.length ≤ 63 → Says q f ns) : PySem.W.WalkO q0 loose XP YP l.row.toRowW d [] (fun g vs => PySem.call g vs) := by
  apply Att.attach_call hn hdf
  intro w s0 s1 mg mb fa o pm cd doc a vs ns G Y ho hd hcd hmg hobj hints hlen hg
  obtain ⟨fd, hbd, hF⟩ := F w mg fa _ (hY w _ Y) G.T.g hmg
  exact law_holds (hY w _ Y) G.T.g G.T.b G.T.builtins G.T.nolimit hg hobj hints (Nat.le_trans hlen (by decide)) hF hbd (says ns hlen)
end Tm

set_option Elab.async false
set_option maxRecDepth 100000
namespace Tm
open PySem L2
def b_4 : St := (.seq (.asg (.nm 2) (.bin .add (.bin .mul (.lit (.int 13)) (.var 1)) (.lit (.int 5))))
  (.seq (.ifs (.cmp .lt (.var 1) (.bi .len (.cons (.var 0) .nil))) (.seq (.asg (.nm 2) (.idx (.var 0) (.var 1)))
  .skip) .skip)
  (.seq (.asg (.nm 3) (.bin .add (.bin .add (.lit (.int 977)) (.bin .mul (.lit (.int 3)) (.var 1))) (.bin .mod (.bi .abs (.cons (.bi .int (.cons (.var 2) .nil)) .nil)) (.bin .add (.bin .pow (.lit (.int 10)) (.lit (.int 9))) (.lit (.int 7))))))
  (.seq (.for_ (.itv (.var 0)) (.nm 4) (.seq (.asg (.nm 3) (.bin .mod (.bi .int (.cons (.bin .add (.bin .mul (.var 3) (.lit (.int 524287))) (.bin .mod (.bi .int (.cons (.var 4) .nil)) (.bin .add (.bin .pow (.lit (.int 10)) (.lit (.int 18))) (.lit (.int 9))))) .nil)) (.bin .sub (.bin .pow (.lit (.int 2)) (.lit (.int 61))) (.lit (.int 1)))))
  .skip))
  (.seq (.ret (.lst (.cons (.bi .max (.cons (.lit (.int 0)) (.cons (.bin .sub (.var 2) (.bin .pow (.lit (.int 10)) (.lit (.int 18)))) .nil))) (.cons (.var 3) (.cons (.lit (.int 0)) .nil)))))
  .skip)))))
def b_5 : St := (.seq (.ifs (.cmp .gt (.idx (.var 0) (.lit (.int 0))) (.lit (.int 0))) (.seq (.asg (.nm 2) (.bin .mod (.bi .int (.cons (.idx (.var 0) (.lit (.int 0))) .nil)) (.var 1)))
  (.seq (.seti (.bin .fdiv (.idx (.var 0) (.lit (.int 0))) (.var 1)) (.var 0) (.lit (.int 0)))
  (.seq (.ret (.var 2))
  .skip))) .skip)
  (.seq (.seti (.bin .add (.idx (.var 0) (.lit (.int 2))) (.lit (.int 1))) (.var 0) (.lit (.int 2)))
  (.seq (.asg (.nm 3) (.bin .mod (.bi .int (.cons (.bin .add (.bin .pow (.bin .add (.idx (.var 0) (.lit (.int 1))) (.bin .mul (.lit (.int 1000003)) (.idx (.var 0) (.lit (.int 2))))) (.lit (.int 3))) (.bin .mul (.lit (.int 754974721)) (.idx (.var 0) (.lit (.int 2))))) .nil)) (.bin .add (.bin .pow (.lit (.int 10)) (.lit (.int 18))) (.lit (.int 9)))))
  (.seq (.ret (.bin .mod (.bin .fdiv (.bin .mod (.bi .int (.cons (.bin .mul (.var 3) (.bin .add (.var 3) (.lit (.int 40961)))) .nil)) (.bin .sub (.bin .pow (.lit (.int 2)) (.lit (.int 61))) (.lit (.int 1)))) (.lit (.int 4099))) (.var 1)))
  .skip))))
def b_6 : St := (.seq (.asg (.nm 1) (.call 5 [0, 1] (.cons (.var 0) (.cons (.lit (.int 4)) .nil)) .nil))
  (.seq (.ifs (.cmp .eq (.var 1) (.lit (.int 0))) (.seq (.ret (.call 5 [0, 1] (.cons (.var 0) (.cons (.lit (.int 4)) .nil)) .nil))
  .skip) .skip)
  (.seq (.ifs (.cmp .eq (.var 1) (.lit (.int 1))) (.seq (.ret (.bin .sub (.lit (.int 65535)) (.call 5 [0, 1] (.cons (.var 0) (.cons (.lit (.int 4)) .nil)) .nil)))
  .skip) .skip)
  (.seq (.ifs (.cmp .eq (.var 1) (.lit (.int 2))) (.seq (.ret (.bin .add (.lit (.int 32766)) (.call 5 [0, 1] (.cons (.var 0) (.cons (.lit (.int 4)) .nil)) .nil)))
  .skip) .skip)
  (.seq (.ret (.call 5 [0, 1] (.cons (.var 0) (.cons (.lit (.int 65536)) .nil)) .nil))
  .skip)))))
def b_7 : St := (.seq (.asg (.tp 3 (.cons (.nm 4) (.cons (.nm 5) (.cons (.nm 6) .nil)))) (.tup (.cons (.call 5 [0, 1] (.cons (.var 0) (.cons (.var 2) .nil)) .nil) (.cons (.call 5 [0, 1] (.cons (.var 0) (.cons (.var 2) .nil)) .nil) (.cons (.call 5 [0, 1] (.cons (.var 0) (.cons (.var 2) .nil)) .nil) .nil)))))
  (.seq (.asg (.tp 2 (.cons (.nm 7) (.cons (.nm 8) .nil))) (.tup (.cons (.call 6 [0] (.cons (.var 0) .nil) .nil) (.cons (.idx (.lst (.cons (.lit (.int 0)) (.cons (.var 3) (.cons (.call 5 [0, 1] (.cons (.var 0) (.cons (.bin .add (.var 3) (.lit (.int 1))) .nil)) .nil) .nil)))) (.call 5 [0, 1] (.cons (.var 0) (.cons (.lit (.int 3)) .nil)) .nil)) .nil))))
  (.seq (.ifs (.cmp .eq (.var 1) (.lit (.str "set"))) (.seq (.ret (.tup (.cons (.var 1) (.cons (.var 4) (.cons (.var 7) .nil)))))
  .skip) .skip)
  (.seq (.ifs (.cmp .in_ (.var 1) (.lst (.cons (.lit (.str "add")) (.cons (.lit (.str "sub")) (.cons (.lit (.str "and")) (.cons (.lit (.str "xor")) (.cons (.lit (.str "below")) .nil))))))) (.seq (.ret (.tup (.cons (.var 1) (.cons (.var 4) (.cons (.var 5) (.cons (.var 6) .nil))))))
  .skip) .skip)
  (.seq (.ifs (.cmp .in_ (.var 1) (.lst (.cons (.lit (.str "load")) (.cons (.lit (.str "store")) .nil)))) (.seq (.ret (.tup (.cons (.var 1) (.cons (.var 4) (.cons (.var 5) (.cons (.var 7) .nil))))))
  .skip) .skip)
  (.seq (.ifs (.cmp .in_ (.var 1) (.lst (.cons (.lit (.str "swap")) (.cons (.lit (.str "addto")) .nil)))) (.seq (.ret (.tup (.cons (.var 1) (.cons (.var 4) (.cons (.var 5) (.cons (.var 6) (.cons (.var 7) .nil)))))))
  .skip) .skip)
  (.seq (.ifs (.cmp .eq (.var 1) (.lit (.str "ifzero"))) (.seq (.ret (.tup (.cons (.var 1) (.cons (.var 4) (.cons (.var 8) .nil)))))
  .skip) .skip)
  (.seq (.ifs (.cmp .eq (.var 1) (.lit (.str "jump"))) (.seq (.ret (.tup (.cons (.var 1) (.cons (.var 8) .nil))))
  .skip) .skip)
  (.seq (.ret (.tup (.cons (.var 1) .nil)))
  .skip)))))))))
end Tm

set_option Elab.async false
set_option linter.all false
set_option maxRecDepth 100000
namespace Tm
open PySem L2
/-! ## the machine alone: its runs by rules -/
theorem run_at (q : Pr) (W k f : Nat) (ds : List D) (S : Store) {np ns : Nat} {b : St} (h : q.fs f = some (np, ns, b)) (hn : ds.length = np) : run q W (k + 1) f ds S = fin (ex (pm q W k) b (env0 np ns ds) S) := by
  simp only [run, h, hn, if_true]
theorem run_rt {q : Pr} {W k f : Nat} {ds : List D} {S : Store} {np ns : Nat} {b : St} (h : q.fs f = some (np, ns, b)) (hn : ds.length = np) {d : D} {e' : Env'} {S' : Store} {e0 : Env'} (he : env0 np ns ds = e0) (hx : ex (pm q W k) b e0 S = some (.rt d, e', S')) :
    run q W (k + 1) f ds S = some (d, S') := by
  rw [run_at q W k f ds S h hn, he, hx]; rfl
section
variable {q : Pr} {W k : Nat} {e e1 : Env'} {S S1 S2 S3 : Store} {a b c r : C} {d x y z : D} {ds fs es : List D} {op o2 : Cmp}
theorem er_var {i : Nat} (h : e[i]? = some (some d)) : ev (pm q W k) (.var i) e S = some (d, S) := by simp only [ev, h]
theorem er_lit (h : isScal d = true) : ev (pm q W k) (.lit d) e S = some (d, S) := by simp only [ev, h, if_true]
theorem er_glob {g : Nat} (h : q.gl g = d) : ev (pm q W k) (.glob g) e S = some (d, S) := by subst h; rfl
theorem er_nil : ev (pm q W k) .nil e S = some (.tup [], S) := rfl
theorem er_cons (h1 : ev (pm q W k) a e S = some (x, S1)) (h2 : ev (pm q W k) r e S1 = some (.tup ds, S2)) : ev (pm q W k) (.cons a r) e S = some (.tup (x :: ds), S2) := by
  simp only [ev, h1, h2, Option.bind_some]
theorem er_tup (h1 : ev (pm q W k) a e S = some (.tup ds, S1)) (hz : ds.length ≤ sizeLine) : ev (pm q W k) (.tup a) e S = some (.tup ds, S1) := by
  simp only [ev, h1, Option.bind_some, okI, decide_eq_true hz, if_true]
theorem er_lst (h1 : ev (pm q W k) a e S = some (.tup ds, S1)) (hz : ds.length ≤ sizeLine) : ev (pm q W k) (.lst a) e S = some (.ref S1.length, S1 ++ [.lst ds]) := by
  simp only [ev, h1, Option.bind_some, if_pos hz, new]
theorem er_bin {o : Bin} {w : D × Store} (h1 : ev (pm q W k) a e S = some (x, S1)) (h2 : ev (pm q W k) b e S1 = some (y, S2)) (h3 : binop o x y S2 = some w) : ev (pm q W k) (.bin o a b) e S = some w := by
  simp only [ev, h1, h2, h3, Option.bind_some]
theorem er_neg {i : Int} (h1 : ev (pm q W k) a e S = some (.int i, S1)) : ev (pm q W k) (.neg a) e S = some (.int (-i), S1) := by
  simp only [ev, h1, Option.bind_some]
theorem er_cmp {t : Bool} (h1 : ev (pm q W k) a e S = some (x, S1)) (h2 : ev (pm q W k) b e S1 = some (y, S2)) (h3 : cmpop op x y S2 = some t) : ev (pm q W k) (.cmp op a b) e S = some (.bl t, S2) := by
  simp only [ev, h1, h2, h3, Option.bind_some, Option.map_some]
theorem er_chain_t {t : Bool} (h1 : ev (pm q W k) a e S = some (x, S1)) (h2 : ev (pm q W k) b e S1 = some (y, S2)) (h3 : cmpop op x y S2 = some true) (h4 : ev (pm q W k) c e S2 = some (z, S3)) (h5 : cmpop o2 y z S3 = some t) :
    ev (pm q W k) (.chain op o2 a b c) e S = some (.bl t, S3) := by
  simp only [ev, h1, h2, h3, h4, h5, Option.bind_some, Option.map_some, if_true]
theorem er_chain_f (h1 : ev (pm q W k) a e S = some (x, S1)) (h2 : ev (pm q W k) b e S1 = some (y, S2)) (h3 : cmpop op x y S2 = some false) :
    ev (pm q W k) (.chain op o2 a b c) e S = some (.bl false, S2) := by
  simp only [ev, h1, h2, h3, Option.bind_some, Bool.false_eq_true, if_false]
theorem er_and_t {w : D × Store} (h1 : ev (pm q W k) a e S = some (.bl true, S1)) (h2 : ev (pm q W k) b e S1 = some w) : ev (pm q W k) (.and_ a b) e S = some w := by
  simp only [ev, h1, h2, Option.bind_some]
theorem er_and_f (h1 : ev (pm q W k) a e S = some (.bl false, S1)) : ev (pm q W k) (.and_ a b) e S = some (.bl false, S1) := by
  simp only [ev, h1, Option.bind_some]
theorem er_or_f {w : D × Store} (h1 : ev (pm q W k) a e S = some (.bl false, S1)) (h2 : ev (pm q W k) b e S1 = some w) : ev (pm q W k) (.or_ a b) e S = some w := by
  simp only [ev, h1, h2, Option.bind_some]
theorem er_or_t (h1 : ev (pm q W k) a e S = some (.bl true, S1)) : ev (pm q W k) (.or_ a b) e S = some (.bl true, S1) := by
  simp only [ev, h1, Option.bind_some]
theorem er_not {t : Bool} (h1 : ev (pm q W k) a e S = some (.bl t, S1)) : ev (pm q W k) (.not_ a) e S = some (.bl (!t), S1) := by
  simp only [ev, h1, Option.bind_some]
theorem er_not_f (h1 : ev (pm q W k) a e S = some (.bl true, S1)) : ev (pm q W k) (.not_ a) e S = some (.bl false, S1) := er_not h1
theorem er_not_t (h1 : ev (pm q W k) a e S = some (.bl false, S1)) : ev (pm q W k) (.not_ a) e S = some (.bl true, S1) := er_not h1
theorem er_ife_t {w : D × Store} (h1 : ev (pm q W k) c e S = some (.bl true, S1)) (h2 : ev (pm q W k) a e S1 = some w) : ev (pm q W k) (.ife c a b) e S = some w := by
  simp only [ev, h1, h2, Option.bind_some]
theorem er_ife_f {w : D × Store} (h1 : ev (pm q W k) c e S = some (.bl false, S1)) (h2 : ev (pm q W k) b e S1 = some w) : ev (pm q W k) (.ife c a b) e S = some w := by
  simp only [ev, h1, h2, Option.bind_some]
theorem er_idx (h1 : ev (pm q W k) a e S = some (x, S1)) (h2 : ev (pm q W k) b e S1 = some (y, S2)) (h3 : idxop x y S2 = some d) : ev (pm q W k) (.idx a b) e S = some (d, S2) := by
  simp only [ev, h1, h2, h3, Option.bind_some, Option.map_some]
theorem er_kgetd {g : Nat} {w : Str} (h1 : ev (pm q W k) a e S = some (.str w, S1)) (h2 : ev (pm q W k) b e S1 = some (y, S2)) (h3 : (lookK (q.kd g) w).getD y = d) : ev (pm q W k) (.kgetd g a b) e S = some (d, S2) := by
  subst h3
  simp only [ev, h1, h2, Option.bind_some]
theorem er_kget {g : Nat} {w : Str} (h1 : ev (pm q W k) a e S = some (.str w, S1)) (h3 : lookK (q.kd g) w = some d) : ev (pm q W k) (.kget g a) e S = some (d, S1) := by
  simp only [ev, h1, h3, Option.bind_some, Option.map_some]
theorem er_kin {g : Nat} {w : Str} {neg t : Bool} (h1 : ev (pm q W k) a e S = some (.str w, S1)) (h3 : (if neg then !(lookK (q.kd g) w).isSome else (lookK (q.kd g) w).isSome) = t) : ev (pm q W k) (.kin g neg a) e S = some (.bl t, S1) := by
  simp only [ev, h1, h3, Option.bind_some]
theorem er_call {f : Nat} {perm : List Nat} {w : D × Store} (h1 : ev (pm q W k) a e S = some (.tup ds, S1)) (h2 : ev (pm q W k) b e S1 = some (.tup fs, S2)) (he : pick perm (ds ++ fs) = es) (h3 : run q W k f es S2 = some w) : ev (pm q W k) (.call f perm a b) e S = some w := by
  subst he
  simp only [ev, h1, h2, Option.bind_some]
  exact h3
theorem er_bi {o : Bi} {w : D × Store} (h1 : ev (pm q W k) a e S = some (.tup ds, S1)) (h3 : biop o ds S1 = some w) : ev (pm q W k) (.bi o a) e S = some w := by
  simp only [ev, h1, h3, Option.bind_some]
theorem er_isty {t : Ty} {u : Bool} (h1 : ev (pm q W k) a e S = some (x, S1)) (h3 : tyop x t S1 = some u) : ev (pm q W k) (.isty a t) e S = some (.bl u, S1) := by
  simp only [ev, h1, h3, Option.bind_some, Option.map_some]
theorem er_app {n : Nat} (h1 : ev (pm q W k) a e S = some (.ref n, S1)) (h2 : ev (pm q W k) b e S1 = some (y, S2)) (h3 : push n y S2 = some S3) : ev (pm q W k) (.app a b) e S = some (.non, S3) := by
  simp only [ev, h1, h2, h3, Option.bind_some, Option.map_some]
theorem er_itv (h1 : ev (pm q W k) a e S = some (x, S1)) (h3 : itOf S1 x = some (ds, fs)) : ev (pm q W k) (.itv a) e S = some (itD ds fs, S1) := by
  simp only [ev, h1, h3, Option.bind_some, Option.map_some]
theorem er_irng (h1 : ev (pm q W k) a e S = some (.tup es, S1)) (h3 : rngs es = some ds) : ev (pm q W k) (.irng a) e S = some (itD ds [], S1) := by
  simp only [ev, h1, h3, Option.bind_some, Option.map_some]
theorem er_lc {i : C} {t : Tg} {own : List Nat} (h1 : ev (pm q W k) i e S = some (itD ds fs, S1)) (h2 : lcL (ev (pm q W k) b) (ev (pm q W k) a) t fs (wipeE e own) S1.length ds (S1 ++ [.lst []]) = some S2) :
    ev (pm q W k) (.lc i t b a own) e S = some (.ref S1.length, S2) := by
  simp only [ev, h1, Option.bind_some, itD, h2, Option.map_some]
/-! statements -/
variable {s u : St} {f : Fl}
theorem es_nx {w : Fl × Env' × Store} (h1 : ex (pm q W k) s e S = some (.nx, e1, S1)) (h2 : ex (pm q W k) u e1 S1 = some w) : ex (pm q W k) (.seq s u) e S = some w := by
  simp only [ex, h1, h2, Option.bind_some]
theorem es_rt (h1 : ex (pm q W k) s e S = some (.rt d, e1, S1)) : ex (pm q W k) (.seq s u) e S = some (.rt d, e1, S1) := by
  simp only [ex, h1, Option.bind_some]
theorem es_bk (h1 : ex (pm q W k) s e S = some (.bk, e1, S1)) : ex (pm q W k) (.seq s u) e S = some (.bk, e1, S1) := by
  simp only [ex, h1, Option.bind_some]
theorem es_ct (h1 : ex (pm q W k) s e S = some (.ct, e1, S1)) : ex (pm q W k) (.seq s u) e S = some (.ct, e1, S1) := by
  simp only [ex, h1, Option.bind_some]
theorem es_skip : ex (pm q W k) .skip e S = some (.nx, e, S) := rfl
theorem es_asg {t : Tg} (h1 : ev (pm q W k) c e S = some (x, S1)) (h2 : bindT t x S1 e = some e1) : ex (pm q W k) (.asg t c) e S = some (.nx, e1, S1) := by
  simp only [ex, h1, h2, Option.bind_some, Option.map_some]
theorem es_seti (h1 : ev (pm q W k) c e S = some (x, S1)) (h2 : ev (pm q W k) a e S1 = some (y, S2)) (h3 : ev (pm q W k) b e S2 = some (z, S3)) {S' : Store} (h4 : setS y z x S3 = some S') : ex (pm q W k) (.seti c a b) e S = some (.nx, e, S') := by
  simp only [ex, h1, h2, h3, h4, Option.bind_some, Option.map_some]
theorem es_drop (h1 : ev (pm q W k) c e S = some (x, S1)) : ex (pm q W k) (.drop c) e S = some (.nx, e, S1) := by
  simp only [ex, h1, Option.map_some]
theorem es_ret (h1 : ev (pm q W k) c e S = some (x, S1)) : ex (pm q W k) (.ret c) e S = some (.rt x, e, S1) := by
  simp only [ex, h1, Option.map_some]
theorem es_if_t {w : Fl × Env' × Store} (h1 : ev (pm q W k) c e S = some (.bl true, S1)) (h2 : ex (pm q W k) s e S1 = some w) : ex (pm q W k) (.ifs c s u) e S = some w := by
  simp only [ex, h1, h2, Option.bind_some]
theorem es_if_f {w : Fl × Env' × Store} (h1 : ev (pm q W k) c e S = some (.bl false, S1)) (h2 : ex (pm q W k) u e S1 = some w) : ex (pm q W k) (.ifs c s u) e S = some w := by
  simp only [ex, h1, h2, Option.bind_some]
theorem es_for {t : Tg} {w : Fl × Env' × Store} (h1 : ev (pm q W k) c e S = some (itD ds fs, S1)) (h2 : forL (ex (pm q W k) s) t fs ds e S1 = some w) : ex (pm q W k) (.for_ c t s) e S = some w := by
  simp only [ex, h1, Option.bind_some, itD, h2]
end
/-! ## operators at known values -/
/-- small: below 2 ^ 200 -/
def Sm (i : Int) : Prop := i.natAbs < 2 ^ 200
theorem log_sm {i : Int} (h : Sm i) : i.natAbs.log2 < 200 := by
  by_cases z : i.natAbs = 0
  · rw [z]; decide
  · exact (Nat.log2_lt z).mpr h
section
variable {i j : Int} {S S' : Store} {x y : D} {xs : List D}
theorem o_add : binop .add (.int i) (.int j) S = some (.int (i + j), S) := rfl
theorem o_sub : binop .sub (.int i) (.int j) S = some (.int (i - j), S) := rfl
theorem o_mul (hi : Sm i) (hj : Sm j) : binop .mul (.int i) (.int j) S = some (.int (i * j), S) := by
  have h1 := log_sm hi
  have h2 := log_sm hj
  show okI (decide (i.natAbs.log2 + j.natAbs.log2 < 1000000)) _ _ = _
  rw [decide_eq_true (by omega)]; rfl
theorem o_pow (hi : i.natAbs < 2 ^ 64) (hj : 0 ≤ j ∧ j ≤ 1000000) : binop .pow (.int i) (.int j) S = some (.int (i ^ j.toNat), S) := by
  show okI (decide (0 ≤ j) && decide (j ≤ 1000000) && decide (i.natAbs < 2 ^ 64)) _ _ = _
  rw [decide_eq_true hj.1, decide_eq_true hj.2, decide_eq_true hi]; rfl
theorem o_mod (h : 0 < j) : binop .mod (.int i) (.int j) S = some (.int (i % j), S) := by
  show okI (decide (0 < j)) _ _ = _
  rw [decide_eq_true h]; rfl
theorem o_div (h : 0 < j) (hj : Sm j) : binop .fdiv (.int i) (.int j) S = some (.int (i / j), S) := by
  have h2 := log_sm hj
  show okI (decide (0 < j) && decide (j.natAbs.log2 < 9000)) _ _ = _
  rw [decide_eq_true h, decide_eq_true (by omega)]; rfl
theorem c_eq_t (h : i = j) : cmpop .eq (.int i) (.int j) S = some true := by show some (decide (i = j)) = _; rw [decide_eq_true h]
theorem c_eq_f (h : ¬ i = j) : cmpop .eq (.int i) (.int j) S = some false := by show some (decide (i = j)) = _; rw [decide_eq_false h]
theorem c_ne_f (h : i = j) : cmpop .ne (.int i) (.int j) S = some false := by show some (!decide (i = j)) = _; rw [decide_eq_true h]; rfl
theorem c_ne_t (h : ¬ i = j) : cmpop .ne (.int i) (.int j) S = some true := by show some (!decide (i = j)) = _; rw [decide_eq_false h]; rfl
theorem c_lt_t (h : i < j) : cmpop .lt (.int i) (.int j) S = some true := by show some (decide (i < j)) = _; rw [decide_eq_true h]
theorem c_lt_f (h : ¬ i < j) : cmpop .lt (.int i) (.int j) S = some false := by show some (decide (i < j)) = _; rw [decide_eq_false h]
theorem c_le_t (h : i ≤ j) : cmpop .le (.int i) (.int j) S = some true := by show some (decide (i ≤ j)) = _; rw [decide_eq_true h]
theorem c_le_f (h : ¬ i ≤ j) : cmpop .le (.int i) (.int j) S = some false := by show some (decide (i ≤ j)) = _; rw [decide_eq_false h]
theorem c_gt_t (h : j < i) : cmpop .gt (.int i) (.int j) S = some true := by show some (decide (j < i)) = _; rw [decide_eq_true h]
theorem c_gt_f (h : ¬ j < i) : cmpop .gt (.int i) (.int j) S = some false := by show some (decide (j < i)) = _; rw [decide_eq_false h]
theorem c_ge_t (h : j ≤ i) : cmpop .ge (.int i) (.int j) S = some true := by show some (decide (j ≤ i)) = _; rw [decide_eq_true h]
theorem c_ge_f (h : ¬ j ≤ i) : cmpop .ge (.int i) (.int j) S = some false := by show some (decide (j ≤ i)) = _; rw [decide_eq_false h]
theorem c_str_t {x y : Str} (h : x = y) : cmpop .eq (.str x) (.str y) S = some true := by show some (decide (x = y)) = _; rw [decide_eq_true h]
theorem c_str_f {x y : Str} (h : ¬ x = y) : cmpop .eq (.str x) (.str y) S = some false := by show some (decide (x = y)) = _; rw [decide_eq_false h]
theorem c_strn_t {x y : Str} (h : ¬ x = y) : cmpop .ne (.str x) (.str y) S = some true := by show some (!decide (x = y)) = _; rw [decide_eq_false h]; rfl
theorem c_strn_f {x y : Str} (h : x = y) : cmpop .ne (.str x) (.str y) S = some false := by show some (!decide (x = y)) = _; rw [decide_eq_true h]; rfl
theorem i_tup {d : D} (h : atI xs i = some d) : idxop (.tup xs) (.int i) S = some d := h
theorem i_lst {d : D} {n : Nat} (hn : listAt S n = some xs) (h : atI xs i = some d) : idxop (.ref n) (.int i) S = some d := by
  show (listAt S n).bind (fun xs => atI xs i) = _
  rw [hn]; exact h
theorem l_lst {n : Nat} (h : S[n]? = some (.lst xs)) : listAt S n = some xs := by unfold listAt; rw [h]
theorem l_ro {n : Nat} (h : S[n]? = some (.ro xs)) : listAt S n = some xs := by unfold listAt; rw [h]
theorem l_last : listAt (S ++ [.lst xs]) S.length = some xs := l_lst (by simp)
theorem g_last {o : O} : (S ++ [o])[S.length]? = some o := by simp
theorem c_in {t : Bool} {n : Nat} (hn : listAt S n = some xs) (hx : isScal x = true) (hs : xs.all isScal = true) (ht : (xs.any fun y => scEq y x) = t) : cmpop .in_ x (.ref n) S = some t := by
  show inD S x (.ref n) = some t
  simp only [inD, hn, hx, hs, ht, Option.bind_some, Bool.and_self, if_true]
theorem c_inT {t : Bool} (hx : isScal x = true) (hs : xs.all isScal = true) (ht : (xs.any fun y => scEq y x) = t) : cmpop .in_ x (.tup xs) S = some t := by
  show inD S x (.tup xs) = some t
  simp only [inD, hx, hs, ht, Bool.and_self, if_true]
theorem c_nin {t : Bool} {n : Nat} (hn : listAt S n = some xs) (hx : isScal x = true) (hs : xs.all isScal = true) (ht : (xs.any fun y => scEq y x) = t) : cmpop .nin x (.ref n) S = some (!t) := by
  show (inD S x (.ref n)).map (!·) = some (!t)
  simp only [inD, hn, hx, hs, ht, Option.bind_some, Bool.and_self, if_true, Option.map_some]
theorem set_get {a : Nat} {o o' : O} (h : S[a]? = some o) : (S.set a o')[a]? = some o' := by
  have := (List.getElem?_eq_some_iff.mp h).1
  rw [List.getElem?_set_self this]
theorem s_set {a j : Nat} {v : D} (h : S[a]? = some (.lst xs)) (hj : ixN xs.length i = some j) : setS (.ref a) (.int i) v S = some (S.set a (.lst (xs.set j v))) := by
  simp only [setS, h, hj, Option.map_some]
end
/-! ## what stays -/
/-- all objects but those at A stand as they stood -/
def Kp (A : List Nat) (S S' : Store) : Prop := ∀ (i : Nat) (o : O), i ∉ A → S[i]? = some o → S'[i]? = some o
theorem Kp.refl (A : List Nat) (S : Store) : Kp A S S := fun _ _ _ h => h
theorem Kp.trans {A : List Nat} {S S1 S2 : Store} (h : Kp A S S1) (k : Kp A S1 S2) : Kp A S S2 := fun i o n e => k i o n (h i o n e)
theorem Kp.more {A B : List Nat} {S S1 : Store} (h : Kp A S S1) (s : ∀ i ∈ A, i ∈ B) : Kp B S S1 := fun i o n e => h i o (fun z => n (s i z)) e
theorem Kp.set {S : Store} {a : Nat} {o : O} : Kp [a] S (S.set a o) := fun i u n e => by
  rw [List.getElem?_set_ne (fun z => n (by simp [z]))]; exact e
theorem Kp.push {A : List Nat} {S : Store} {o : O} : Kp A S (S ++ [o]) := fun i u n e => by
  have := (List.getElem?_eq_some_iff.mp e).1
  rw [List.getElem?_append_left this]; exact e
theorem Kp.len {A : List Nat} {S S' : Store} (h : Kp A S S') {n : Nat} (hn : n ∉ A) (hl : n < S.length) : n < S'.length := by
  have e := h n S[n] hn (by simp [hl])
  exact (List.getElem?_eq_some_iff.mp e).1

/-! ## rules that decide nothing -/
section
variable {q : Pr} {W k : Nat} {e e1 : Env'} {S S1 S2 S3 : Store} {a b c r : C} {d x y z : D} {s u : St} {f : Fl}
/-- what follows a flow -/
structure Nxt (q : Pr) (W k : Nat) (u : St) (f : Fl) (e : Env') (S : Store) (w : Fl × Env' × Store) : Prop where
  h : (match f with | .nx => ex (pm q W k) u e S | f => some (f, e, S)) = some w
theorem nxt_nx {w : Fl × Env' × Store} (h : ex (pm q W k) u e S = some w) : Nxt q W k u .nx e S w := ⟨h⟩
theorem nxt_rt : Nxt q W k u (.rt d) e S (.rt d, e, S) := ⟨rfl⟩
theorem nxt_bk : Nxt q W k u .bk e S (.bk, e, S) := ⟨rfl⟩
theorem nxt_ct : Nxt q W k u .ct e S (.ct, e, S) := ⟨rfl⟩
theorem es_sq {w : Fl × Env' × Store} (h1 : ex (pm q W k) s e S = some (f, e1, S1)) (h2 : Nxt q W k u f e1 S1 w) : ex (pm q W k) (.seq s u) e S = some w := by
  have h3 := h2.h
  cases f <;> simp only [ex, h1, Option.bind_some] at h3 ⊢ <;> exact h3
structure Brs (q : Pr) (W k : Nat) (t : Bool) (s u : St) (e : Env') (S : Store) (w : Fl × Env' × Store) : Prop where
  h : (if t = true then ex (pm q W k) s e S else ex (pm q W k) u e S) = some w
theorem brs_t {w : Fl × Env' × Store} (h : ex (pm q W k) s e S = some w) : Brs q W k true s u e S w := ⟨h⟩
theorem brs_f {w : Fl × Env' × Store} (h : ex (pm q W k) u e S = some w) : Brs q W k false s u e S w := ⟨h⟩
theorem es_br {t : Bool} {w : Fl × Env' × Store} (h1 : ev (pm q W k) c e S = some (.bl t, S1)) (h2 : Brs q W k t s u e S1 w) : ex (pm q W k) (.ifs c s u) e S = some w := by
  cases t
  · exact es_if_f h1 h2.h
  · exact es_if_t h1 h2.h
structure Bre (q : Pr) (W k : Nat) (t : Bool) (a b : C) (e : Env') (S : Store) (w : D × Store) : Prop where
  h : (if t = true then ev (pm q W k) a e S else ev (pm q W k) b e S) = some w
theorem bre_t {w : D × Store} (h : ev (pm q W k) a e S = some w) : Bre q W k true a b e S w := ⟨h⟩
theorem bre_f {w : D × Store} (h : ev (pm q W k) b e S = some w) : Bre q W k false a b e S w := ⟨h⟩
theorem er_br {t : Bool} {w : D × Store} (h1 : ev (pm q W k) c e S = some (.bl t, S1)) (h2 : Bre q W k t a b e S1 w) : ev (pm q W k) (.ife c a b) e S = some w := by
  cases t
  · exact er_ife_f h1 h2.h
  · exact er_ife_t h1 h2.h
structure Ands (q : Pr) (W k : Nat) (t : Bool) (b : C) (e : Env') (S : Store) (w : D × Store) : Prop where
  h : (if t = true then ev (pm q W k) b e S else some (.bl false, S)) = some w
theorem ands_t {w : D × Store} (h : ev (pm q W k) b e S = some w) : Ands q W k true b e S w := ⟨h⟩
theorem ands_f : Ands q W k false b e S (.bl false, S) := ⟨rfl⟩
theorem er_ands {t : Bool} {w : D × Store} (h1 : ev (pm q W k) a e S = some (.bl t, S1)) (h2 : Ands q W k t b e S1 w) : ev (pm q W k) (.and_ a b) e S = some w := by
  cases t
  · rw [er_and_f h1]; exact h2.h
  · exact er_and_t h1 h2.h
structure Ors (q : Pr) (W k : Nat) (t : Bool) (b : C) (e : Env') (S : Store) (w : D × Store) : Prop where
  h : (if t = true then some (.bl true, S) else ev (pm q W k) b e S) = some w
theorem ors_f {w : D × Store} (h : ev (pm q W k) b e S = some w) : Ors q W k false b e S w := ⟨h⟩
theorem ors_t : Ors q W k true b e S (.bl true, S) := ⟨rfl⟩
theorem er_ors {t : Bool} {w : D × Store} (h1 : ev (pm q W k) a e S = some (.bl t, S1)) (h2 : Ors q W k t b e S1 w) : ev (pm q W k) (.or_ a b) e S = some w := by
  cases t
  · exact er_or_f h1 h2.h
  · rw [er_or_t h1]; exact h2.h
inductive Neg : Bool → Bool → Prop
  | t : Neg true false
  | f : Neg false true
theorem er_nots {t v : Bool} (h1 : ev (pm q W k) a e S = some (.bl t, S1)) (h2 : Neg t v) : ev (pm q W k) (.not_ a) e S = some (.bl v, S1) := by
  cases h2
  · exact er_not h1
  · exact er_not h1
theorem b_int {i : Int} : biop .int [.int i] S = some (.int i, S) := rfl
theorem b_bool {t : Bool} : biop .int [.bl t] S = some (.int (if t then 1 else 0), S) := by cases t <;> rfl
theorem b_abs {i : Int} : biop .abs [.int i] S = some (.int (if i < 0 then -i else i), S) := rfl
theorem b_max {i j : Int} : biop .max [.int i, .int j] S = some (.int (if j > i then j else i), S) := rfl
theorem b_min {i j : Int} : biop .min [.int i, .int j] S = some (.int (if j < i then j else i), S) := rfl
theorem b_lenT {xs : List D} : biop .len [.tup xs] S = some (.int xs.length, S) := rfl
theorem b_lenL {n : Nat} {xs : List D} (h : listAt S n = some xs) : biop .len [.ref n] S = some (.int xs.length, S) := by
  show (listAt S n).map _ = _
  rw [h]; rfl
end
end Tm

set_option Elab.async false
set_option linter.all false
set_option maxRecDepth 100000
namespace Tm
open PySem L2
/-! ## data that are like themselves -/
/-- a datum without lists whose text is known and short -/
def Nice (d : D) : Prop := ∃ x, (∀ S, pd S d = some x) ∧ x.layable0 = true ∧ PyData.intsShort 13 x = true ∧ x.showable = true
theorem Nice.rp {d : D} (h : Nice d) : ∃ z, ∀ S, biop .repr [d] S = some (.str z, S) := by
  obtain ⟨x, h1, h2, h3, h4⟩ := h
  refine ⟨x.shown, fun S => ?_⟩
  have h5 := PyData.shown_le_of_layable0 h2 h3
  have h6 := PyData.depth_of_layable h2
  show ((pd S d).bind fun x => if x.showable && decide (x.depth ≤ 64) && decide (x.shown.length ≤ sizeLine) then some (D.str x.shown, S) else none) = some (D.str x.shown, S)
  rw [h1 S]
  show (if x.showable && decide (x.depth ≤ 64) && decide (x.shown.length ≤ sizeLine) then some (D.str x.shown, S) else none) = some (D.str x.shown, S)
  rw [h4, decide_eq_true h6, decide_eq_true (show x.shown.length ≤ sizeLine from Nat.le_trans h5 (by decide))]
  rfl
theorem Nice.eq {d : D} (h : Nice d) (S : Store) : cmpop .eq d d S = some true := by
  obtain ⟨x, h1, h2, h3, h4⟩ := h
  have h6 := PyData.depth_of_layable h2
  have h7 : x.canLay0 = true := by
    rw [PyData.layable0.eq_1] at h2
    revert h2; cases x.canLay0 <;> simp
  show eqD S d d = some true
  have g : ((pd S d).bind fun x => (pd S d).bind fun y => if SeqAt.shaped x && SeqAt.shaped y then some (PyData.eqv x y) else none) = some true := by
    rw [h1 S]
    show (if SeqAt.shaped x && SeqAt.shaped x then some (PyData.eqv x x) else none) = _
    have : SeqAt.shaped x = true := by show (x.canLay0 && decide (x.depth ≤ 64)) = true; rw [h7, decide_eq_true h6]; rfl
    rw [this, SeqAt.eqv_refl x h7]; rfl
  cases d with
  | non => rfl
  | bl b => show some (decide (b = b)) = _; rw [decide_eq_true rfl]
  | int i => show some (decide (i = i)) = _; rw [decide_eq_true rfl]
  | str z => show some (decide (z = z)) = _; rw [decide_eq_true rfl]
  | tup xs => exact g
  | ref n => exact g
  | fn n => exact g
theorem weight_int {i : Int} (h : i.natAbs < 10 ^ 12) : (PyData.int i).weight ≤ 50 := by
  rw [PyData.weight.eq_def]
  show (if (i == 0) = true then 0 else i.natAbs.log2 + 1) ≤ 50
  split
  · omega
  · have : i.natAbs.log2 < 40 := Flt.log2_lt_of (by decide) (by omega)
    omega
theorem Nice.int {i : Int} (h : i.natAbs < 10 ^ 12) : Nice (.int i) := by
  refine ⟨.int i, fun _ => rfl, ?_, ?_, ?_⟩
  · have := weight_int h
    rw [PyData.layable0.eq_1, decide_eq_true (show (PyData.int i).weight ≤ 2 ^ 20 by omega)]; rfl
  · rw [PyData.intsShort.eq_5]; exact decide_eq_true (PyData.shown_int_le h)
  · rw [PyData.showable.eq_4]; exact decide_eq_true (by have : i.natAbs.log2 < 40 := Flt.log2_lt_of (by decide) (by omega); omega)
theorem Nice.non : Nice .non := ⟨.none, fun _ => rfl, by decide, by decide, by decide⟩
/-- a flat datum: an int that is small, or a short text -/
def Flat1 (d : D) : Prop := ∃ x, (∀ S, pd S d = some x) ∧ x.canLay0 = true ∧ x.depth = 0 ∧ x.weight ≤ 60 ∧ PyData.intsShort 13 x = true ∧ x.showable = true
theorem Flat1.int {i : Int} (h : i.natAbs < 10 ^ 12) : Flat1 (.int i) := by
  obtain ⟨x, h1, h2, h3, h4⟩ := Nice.int h
  cases h1 []
  exact ⟨_, h1, rfl, rfl, by have := weight_int h; omega, h3, h4⟩
theorem Flat1.str {z : Str} (h : PyData.strOk z = true) (k : z.cps.size ≤ 60) : Flat1 (.str z) :=
  ⟨.str z, fun _ => rfl, h, rfl, k, rfl, rfl⟩
theorem flats {ds : List D} (h : ∀ d ∈ ds, Flat1 d) : ∃ xs, (∀ S, pds S ds = some xs) ∧ PyData.canLayAll0 xs = true ∧ PyData.depthAll xs = 0 ∧ PyData.weightAll xs ≤ 61 * ds.length ∧ PyData.intsShortAll 13 xs = true ∧ PyData.showableAll xs = true := by
  induction ds with
  | nil => exact ⟨[], fun _ => rfl, rfl, rfl, by decide, rfl, rfl⟩
  | cons d ds ih =>
    obtain ⟨xs, h1, h2, h3, h4, h5, h6⟩ := ih (fun e he => h e (List.mem_cons_of_mem _ he))
    obtain ⟨x, k1, k2, k3, k4, k5, k6⟩ := h d List.mem_cons_self
    refine ⟨x :: xs, fun S => ?_, ?_, ?_, ?_, ?_, ?_⟩
    · show ((pd S d).bind fun x => (pds S ds).map fun xs => x :: xs) = _
      rw [k1 S, h1 S]; rfl
    · show (x.canLay0 && PyData.canLayAll0 xs) = true
      rw [k2, h2]; rfl
    · rw [PyData.depthAll.eq_def]; show max x.depth (PyData.depthAll xs) = 0; rw [k3, h3]; rfl
    · rw [PyData.weightAll.eq_2]; simp only [List.length_cons]; omega
    · rw [PyData.intsShortAll.eq_2, k5, h5]; rfl
    · rw [PyData.showableAll.eq_2, k6, h6]; rfl
theorem Nice.tup {ds : List D} (h : ∀ d ∈ ds, Flat1 d) (hl : ds.length ≤ 1000) : Nice (.tup ds) := by
  obtain ⟨xs, h1, h2, h3, h4, h5, h6⟩ := flats h
  refine ⟨.tuple xs, fun S => ?_, ?_, ?_, ?_⟩
  · show (pds S ds).map PyData.tuple = some (PyData.tuple xs)
    rw [h1 S]; rfl
  · rw [PyData.layable0.eq_1, PyData.canLay0.eq_6, h2, PyData.weight.eq_3, decide_eq_true (show PyData.weightAll xs ≤ 2 ^ 20 by omega), PyData.depth.eq_def]
    show (true && decide (PyData.depthAll xs + 1 ≤ 64) && true) = true
    rw [h3]; rfl
  · rw [PyData.intsShort.eq_7]; exact h5
  · rw [PyData.showable.eq_6]; exact h6
end Tm

set_option Elab.async false
set_option linter.all false
set_option maxRecDepth 100000
namespace Tm
open PySem L2
/-! ## nested data without lists: their depth and weight -/
def NW (dp w : Nat) (d : D) : Prop := ∃ x, (∀ g, pdG g d = some x) ∧ x.canLay0 = true ∧ x.depth ≤ dp ∧ x.weight ≤ w ∧ PyData.intsShort 13 x = true ∧ x.showable = true
theorem NW.mono {a b a' b' : Nat} {d : D} (h : NW a b d) (h1 : a ≤ a') (h2 : b ≤ b') : NW a' b' d := by
  obtain ⟨x, k1, k2, k3, k4, k5⟩ := h
  exact ⟨x, k1, k2, by omega, by omega, k5⟩
theorem NW.nice {dp w : Nat} {d : D} (h : NW dp w d) (h1 : dp ≤ 64 := by decide) (h2 : w ≤ 2 ^ 20 := by decide) : Nice d := by
  obtain ⟨x, k1, k2, k3, k4, k5, k6⟩ := h
  refine ⟨x, fun S => k1 _, ?_, k5, k6⟩
  rw [PyData.layable0.eq_1, k2, decide_eq_true (show x.weight ≤ 2 ^ 20 by omega), decide_eq_true (show x.depth ≤ 64 by omega)]
  rfl
theorem NW.int {i : Int} (h : i.natAbs < 10 ^ 12) : NW 0 50 (.int i) := by
  obtain ⟨x, h1, h2, h3, h4⟩ := Nice.int h
  cases h1 []
  exact ⟨_, fun _ => rfl, rfl, Nat.le_of_eq rfl, weight_int h, h3, h4⟩
theorem NW.non : NW 0 50 .non := ⟨.none, fun _ => rfl, rfl, by decide, by decide, rfl, rfl⟩
theorem NW.str {z : Str} (h : PyData.strOk z = true) (k : z.cps.size ≤ 50) : NW 0 50 (.str z) :=
  ⟨.str z, fun _ => rfl, h, Nat.le_of_eq rfl, k, rfl, rfl⟩
theorem nws {dp w : Nat} {ds : List D} (h : ∀ d ∈ ds, NW dp w d) : ∃ xs, (∀ g, pdsG g ds = some xs) ∧ PyData.canLayAll0 xs = true ∧ PyData.depthAll xs ≤ dp ∧ PyData.weightAll xs ≤ (w + 1) * ds.length ∧ PyData.intsShortAll 13 xs = true ∧ PyData.showableAll xs = true := by
  induction ds with
  | nil => exact ⟨[], fun _ => rfl, rfl, Nat.zero_le _, Nat.zero_le _, rfl, rfl⟩
  | cons d ds ih =>
    obtain ⟨xs, h1, h2, h3, h4, h5, h6⟩ := ih (fun e he => h e (List.mem_cons_of_mem _ he))
    obtain ⟨x, k1, k2, k3, k4, k5, k6⟩ := h d List.mem_cons_self
    refine ⟨x :: xs, fun g => ?_, ?_, ?_, ?_, ?_, ?_⟩
    · show ((pdG g d).bind fun x => (pdsG g ds).map fun xs => x :: xs) = _
      rw [k1 g, h1 g]; rfl
    · show (x.canLay0 && PyData.canLayAll0 xs) = true
      rw [k2, h2]; rfl
    · rw [PyData.depthAll.eq_def]; show max x.depth (PyData.depthAll xs) ≤ dp; omega
    · rw [PyData.weightAll.eq_2]; simp only [List.length_cons, Nat.mul_add, Nat.mul_one]; omega
    · rw [PyData.intsShortAll.eq_2, k5, h5]; rfl
    · rw [PyData.showableAll.eq_2, k6, h6]; rfl
theorem NW.tup {dp w : Nat} {ds : List D} (h : ∀ d ∈ ds, NW dp w d) : NW (dp + 1) ((w + 1) * ds.length) (.tup ds) := by
  obtain ⟨xs, h1, h2, h3, h4, h5, h6⟩ := nws h
  refine ⟨.tuple xs, fun g => ?_, ?_, ?_, ?_, ?_, ?_⟩
  · show (pdsG g ds).map PyData.tuple = some (PyData.tuple xs)
    rw [h1 g]; rfl
  · rw [PyData.canLay0.eq_6]; exact h2
  · rw [PyData.depth.eq_def]; show PyData.depthAll xs + 1 ≤ dp + 1; omega
  · rw [PyData.weight.eq_3]; exact h4
  · rw [PyData.intsShort.eq_7]; exact h5
  · rw [PyData.showable.eq_6]; exact h6
/-- a list of such data, read off the store -/
theorem pd_list {dp w n : Nat} {S : Store} {ds : List D} (hn : listAt S n = some ds) (h : ∀ d ∈ ds, NW dp w d) (h1 : dp < 64) (h2 : (w + 1) * ds.length ≤ 2 ^ 20) :
    ∃ x, pd S (.ref n) = some x ∧ x.layable0 = true ∧ PyData.intsShort 13 x = true ∧ x.showable = true := by
  obtain ⟨xs, k1, k2, k3, k4, k5, k6⟩ := nws h
  refine ⟨.list xs, ?_, ?_, ?_, ?_⟩
  · show pdN S 60 n = _
    show (listAt S n).bind (fun xs => (pdsG (pdN S 59) xs).map PyData.list) = _
    rw [hn]
    show (pdsG (pdN S 59) ds).map PyData.list = _
    rw [k1]; rfl
  · rw [PyData.layable0.eq_1, PyData.canLay0.eq_5, k2, PyData.weight.eq_2, decide_eq_true (show PyData.weightAll xs ≤ 2 ^ 20 by omega), PyData.depth.eq_def]
    show (true && decide (PyData.depthAll xs + 1 ≤ 64) && true) = true
    rw [decide_eq_true (by omega)]; rfl
  · rw [PyData.intsShort.eq_6]; exact k5
  · rw [PyData.showable.eq_5]; exact k6
theorem eq_lists {dp w m n : Nat} {S : Store} {ds : List D} (hm : listAt S m = some ds) (hn : listAt S n = some ds) (h : ∀ d ∈ ds, NW dp w d) (h1 : dp < 64) (h2 : (w + 1) * ds.length ≤ 2 ^ 20) :
    cmpop .eq (.ref m) (.ref n) S = some true ∧ ∃ z, biop .repr [.ref m] S = some (.str z, S) ∧ biop .repr [.ref n] S = some (.str z, S) := by
  obtain ⟨x, a1, a2, a3, a4⟩ := pd_list hm h h1 h2
  obtain ⟨y, b1, b2, b3, b4⟩ := pd_list hn h h1 h2
  have e : x = y := by
    obtain ⟨xs, k1, _⟩ := nws h
    have q : ∀ {n' : Nat} {x' : PyData}, listAt S n' = some ds → pd S (.ref n') = some x' → x' = .list xs := by
      intro n' x' g1 g2
      have : (listAt S n').bind (fun xs => (pdsG (pdN S 59) xs).map PyData.list) = some x' := g2
      rw [g1] at this
      have : (pdsG (pdN S 59) ds).map PyData.list = some x' := this
      rw [k1] at this
      exact (Option.some.inj this).symm
    rw [q hm a1, q hn b1]
  subst e
  have h5 := PyData.shown_le_of_layable0 a2 a3
  have h6 := PyData.depth_of_layable a2
  have h7 : x.canLay0 = true := by
    rw [PyData.layable0.eq_1] at a2
    revert a2; cases x.canLay0 <;> simp
  constructor
  · show ((pd S (.ref m)).bind fun x => (pd S (.ref n)).bind fun y => if SeqAt.shaped x && SeqAt.shaped y then some (PyData.eqv x y) else none) = some true
    rw [a1, b1]
    show (if SeqAt.shaped x && SeqAt.shaped x then some (PyData.eqv x x) else none) = _
    have : SeqAt.shaped x = true := by show (x.canLay0 && decide (x.depth ≤ 64)) = true; rw [h7, decide_eq_true h6]; rfl
    rw [this, SeqAt.eqv_refl x h7]; rfl
  · refine ⟨x.shown, ?_, ?_⟩
    · show ((pd S (.ref m)).bind fun x => if x.showable && decide (x.depth ≤ 64) && decide (x.shown.length ≤ sizeLine) then some (D.str x.shown, S) else none) = some (D.str x.shown, S)
      rw [a1]
      show (if x.showable && decide (x.depth ≤ 64) && decide (x.shown.length ≤ sizeLine) then some (D.str x.shown, S) else none) = some (D.str x.shown, S)
      rw [a4, decide_eq_true h6, decide_eq_true (show x.shown.length ≤ sizeLine from Nat.le_trans h5 (by decide))]; rfl
    · show ((pd S (.ref n)).bind fun x => if x.showable && decide (x.depth ≤ 64) && decide (x.shown.length ≤ sizeLine) then some (D.str x.shown, S) else none) = some (D.str x.shown, S)
      rw [b1]
      show (if x.showable && decide (x.depth ≤ 64) && decide (x.shown.length ≤ sizeLine) then some (D.str x.shown, S) else none) = some (D.str x.shown, S)
      rw [b4, decide_eq_true h6, decide_eq_true (show x.shown.length ≤ sizeLine from Nat.le_trans h5 (by decide))]; rfl
/-- a list against the empty one -/
theorem eq_nil {dp w m n : Nat} {S : Store} {ds : List D} (hm : listAt S m = some ds) (hn : listAt S n = some []) (h : ∀ d ∈ ds, NW dp w d) (h1 : dp < 64) (h2 : (w + 1) * ds.length ≤ 2 ^ 20) :
    cmpop .eq (.ref m) (.ref n) S = some ds.isEmpty := by
  obtain ⟨xs, k1, k2, k3, k4, _⟩ := nws h
  have a1 : pd S (.ref m) = some (.list xs) := by
    show (listAt S m).bind (fun xs => (pdsG (pdN S 59) xs).map PyData.list) = _
    rw [hm]
    show (pdsG (pdN S 59) ds).map PyData.list = _
    rw [k1]; rfl
  have b1 : pd S (.ref n) = some (.list []) := by
    show (listAt S n).bind (fun xs => (pdsG (pdN S 59) xs).map PyData.list) = _
    rw [hn]; rfl
  show ((pd S (.ref m)).bind fun x => (pd S (.ref n)).bind fun y => if SeqAt.shaped x && SeqAt.shaped y then some (PyData.eqv x y) else none) = _
  rw [a1, b1]
  have s1 : SeqAt.shaped (.list xs) = true := by
    show ((PyData.list xs).canLay0 && decide ((PyData.list xs).depth ≤ 64)) = true
    rw [PyData.canLay0.eq_5, k2, PyData.depth.eq_def]
    show (true && decide (PyData.depthAll xs + 1 ≤ 64)) = true
    rw [decide_eq_true (by omega)]; rfl
  show (if SeqAt.shaped (.list xs) && SeqAt.shaped (.list []) then some (PyData.eqv (.list xs) (.list [])) else none) = _
  rw [s1, show SeqAt.shaped (.list []) = true from by decide]
  cases ds with
  | nil =>
    have := k1 (fun _ => none)
    cases this
    rfl
  | cons d ds =>
    have := k1 (fun _ => none)
    simp only [pdsG, Option.bind_eq_some_iff, Option.map_eq_some_iff] at this
    obtain ⟨y, _, ys, _, rfl⟩ := this
    rfl
end Tm

set_option Elab.async false
set_option linter.all false
set_option maxRecDepth 100000
set_option maxHeartbeats 1000000
namespace Tm
open PySem L2
local macro_rules | `(tactic| walk_at "sm") => `(tactic| first | assumption | (unfold Sm; first | omega | decide))
local macro_rules | `(tactic| walk_at "in") => `(tactic| first | assumption | omega | decide)
local macro_rules | `(tactic| walk_at "lst") => `(tactic| first | assumption | exact l_last | exact l_lst (by assumption) | exact l_ro (by assumption) | exact l_lst (set_get (by assumption)))
local macro_rules | `(tactic| walk_at "op") => `(tactic| first
  | with_reducible exact o_add
  | with_reducible exact o_sub
  | ((with_reducible refine' o_mod ?h); (case h => walk_at "in"))
  | ((with_reducible refine' o_div ?h ?g); (case h => walk_at "in"); (case g => walk_at "sm"))
  | ((with_reducible refine' o_mul ?h ?g); (case h => walk_at "sm"); (case g => walk_at "sm"))
  | ((with_reducible refine' o_pow ?h ?g); (case h => walk_at "in"); (case g => decide)))
local macro_rules | `(tactic| walk_at "cmp") => `(tactic| first
  | ((with_reducible refine' c_eq_t ?h); (case h => walk_at "in"))
  | ((with_reducible refine' c_lt_t ?h); (case h => walk_at "in"))
  | ((with_reducible refine' c_gt_t ?h); (case h => walk_at "in"))
  | ((with_reducible refine' c_ne_t ?h); (case h => walk_at "in"))
  | ((with_reducible refine' c_le_t ?h); (case h => walk_at "in"))
  | ((with_reducible refine' c_ge_t ?h); (case h => walk_at "in"))
  | ((with_reducible refine' c_eq_f ?h); (case h => walk_at "in"))
  | ((with_reducible refine' c_lt_f ?h); (case h => walk_at "in"))
  | ((with_reducible refine' c_gt_f ?h); (case h => walk_at "in"))
  | ((with_reducible refine' c_ne_f ?h); (case h => walk_at "in"))
  | ((with_reducible refine' c_le_f ?h); (case h => walk_at "in"))
  | ((with_reducible refine' c_ge_f ?h); (case h => walk_at "in"))
  | ((with_reducible refine' c_str_t ?h); (case h => with_reducible exact rfl))
  | ((with_reducible refine' c_str_f ?h); (case h => decide))
  | ((with_reducible refine' c_strn_f ?h); (case h => with_reducible exact rfl))
  | ((with_reducible refine' c_strn_t ?h); (case h => decide))
  | ((with_reducible refine' c_in (t := true) ?h ?g ?f ?e); (case h => walk_at "lst"); (case g => exact rfl); (case f => exact rfl); (case e => decide))
  | ((with_reducible refine' c_in (t := false) ?h ?g ?f ?e); (case h => walk_at "lst"); (case g => exact rfl); (case f => exact rfl); (case e => decide))
  | ((with_reducible refine' c_inT (t := true) ?g ?f ?e); (case g => exact rfl); (case f => exact rfl); (case e => decide))
  | ((with_reducible refine' c_inT (t := false) ?g ?f ?e); (case g => exact rfl); (case f => exact rfl); (case e => decide)))
local macro_rules | `(tactic| walk_at "bi") => `(tactic| first | with_reducible exact b_int | with_reducible exact b_bool | with_reducible exact b_abs | with_reducible exact b_max | with_reducible exact b_min | with_reducible exact b_lenT | ((with_reducible refine' b_lenL ?h); (case h => walk_at "lst")))
local macro_rules | `(tactic| walk_at "call") => `(tactic| first | assumption)
local macro_rules | `(tactic| walk_at "ev") => `(tactic| first
  | (exact er_nil)
  | ((with_reducible refine' er_lit ?h); (case h => exact rfl))
  | ((with_reducible refine' er_var ?h); (case h => exact rfl))
  | ((with_reducible refine' er_cons ?h1 ?h2); (case h1 => walk_at "ev"); (case h2 => walk_at "ev"))
  | ((with_reducible refine' er_tup ?h1 ?h2); (case h1 => walk_at "ev"); (case h2 => exact Nat.le_of_ble_eq_true rfl))
  | ((with_reducible refine' er_lst ?h1 ?h2); (case h1 => walk_at "ev"); (case h2 => exact Nat.le_of_ble_eq_true rfl))
  | ((with_reducible refine' er_bin ?h1 ?h2 ?h3); (case h1 => walk_at "ev"); (case h2 => walk_at "ev"); (case h3 => walk_at "op"))
  | ((with_reducible refine' er_idx ?h1 ?h2 ?h3); (case h1 => walk_at "ev"); (case h2 => walk_at "ev"); (case h3 => first | exact i_tup (by first | assumption | rfl) | exact i_lst (by walk_at "lst") (by first | assumption | rfl)))
  | ((with_reducible refine' er_call ?h1 ?h2 ?h3 ?h4); (case h1 => walk_at "ev"); (case h2 => walk_at "ev"); (case h3 => exact rfl); (case h4 => walk_at "call"))
  | ((with_reducible refine' er_bi ?h1 ?h2); (case h1 => walk_at "ev"); (case h2 => walk_at "bi"))
  | ((with_reducible refine' er_cmp ?h1 ?h2 ?h3); (case h1 => walk_at "ev"); (case h2 => walk_at "ev"); (case h3 => walk_at "cmp"))
  | ((with_reducible refine' er_nots ?h1 ?h2); (case h1 => walk_at "ev"); (case h2 => first | exact Neg.t | exact Neg.f))
  | ((with_reducible refine' er_ors ?h1 ?h2); (case h1 => walk_at "ev"); (case h2 => first | exact ors_t | ((with_reducible refine' ors_f ?h3); (case h3 => walk_at "ev"))))
  | ((with_reducible refine' er_ands ?h1 ?h2); (case h1 => walk_at "ev"); (case h2 => first | exact ands_f | ((with_reducible refine' ands_t ?h3); (case h3 => walk_at "ev"))))
  | ((with_reducible refine' er_br ?h1 ?h2); (case h1 => walk_at "ev"); (case h2 => first | ((with_reducible refine' bre_t ?h3); (case h3 => walk_at "ev")) | ((with_reducible refine' bre_f ?h3); (case h3 => walk_at "ev")))))
local macro_rules | `(tactic| walk_at "ex") => `(tactic| first
  | (exact es_skip)
  | ((with_reducible refine' es_sq ?h1 ?h2); (case h1 => walk_at "ex"); (case h2 => first | exact nxt_rt | exact nxt_bk | exact nxt_ct | ((with_reducible refine' nxt_nx ?h3); (case h3 => walk_at "ex"))))
  | ((with_reducible refine' es_ret ?h1); (case h1 => walk_at "ev"))
  | ((with_reducible refine' es_asg ?h1 ?h2); (case h1 => walk_at "ev"); (case h2 => exact rfl))
  | ((with_reducible refine' es_seti ?h1 ?h2 ?h3 ?h4); (case h1 => walk_at "ev"); (case h2 => walk_at "ev"); (case h3 => walk_at "ev"); (case h4 => exact s_set (by first | assumption | exact set_get (by assumption)) rfl))
  | ((with_reducible refine' es_drop ?h1); (case h1 => walk_at "ev"))
  | ((with_reducible refine' es_br ?h1 ?h2); (case h1 => walk_at "ev"); (case h2 => first | ((with_reducible refine' brs_t ?h3); (case h3 => walk_at "ex")) | ((with_reducible refine' brs_f ?h3); (case h3 => walk_at "ex")))))
/-! ## the spring: numbers that are drawn -/
/-- at a stands a spring from which at most c numbers were drawn by mixing -/
def Spr (S : Store) (a : Nat) (c : Int) : Prop := ∃ x m n : Int, S[a]? = some (.lst [.int x, .int m, .int n]) ∧ 0 ≤ m ∧ m < 2 ^ 61 ∧ 0 ≤ n ∧ n ≤ c
theorem Spr.kp {S S' : Store} {a : Nat} {c : Int} {A : List Nat} (h : Spr S a c) (k : Kp A S S') (n : a ∉ A) : Spr S' a c := by
  obtain ⟨x, m, n', h1, h2⟩ := h
  exact ⟨x, m, n', k _ _ n h1, h2⟩
theorem Spr.le {S : Store} {a : Nat} {c d : Int} (h : Spr S a c) (k : c ≤ d) : Spr S a d := by
  obtain ⟨x, m, n', h1, h2, h3, h4, h5⟩ := h
  exact ⟨x, m, n', h1, h2, h3, h4, by omega⟩
theorem Spr.lt {S : Store} {a : Nat} {c : Int} (h : Spr S a c) : a < S.length := by
  obtain ⟨x, m, n', h1, _⟩ := h
  exact (List.getElem?_eq_some_iff.mp h1).1
section
variable {q : Pr} (hq : q.fs 5 = some (2, 4, b_5)) {W : Nat}
include hq
theorem pick_a (k : Nat) {S : Store} {a : Nat} {x m c many : Int} (hS : S[a]? = some (.lst [.int x, .int m, .int c])) (hx : 0 < x) (hm : 0 < many) (hl : Sm many) :
    run q W (k + 1) 5 [.ref a, .int many] S = some (.int (x % many), S.set a (.lst [.int (x / many), .int m, .int c])) := by
  refine' run_rt hq rfl rfl ?h
  case h => unfold b_5; walk_at "ex"
theorem pick_b (k : Nat) {S : Store} {a : Nat} {x m c many : Int} (hS : S[a]? = some (.lst [.int x, .int m, .int c])) (hx : ¬ 0 < x) (hm0 : 0 ≤ m) (hm : m < 2 ^ 61) (hc0 : 0 ≤ c) (hc : c < 10 ^ 12) (hn : 0 < many) (hl : Sm many) :
    ∃ r, run q W (k + 1) 5 [.ref a, .int many] S = some (.int r, S.set a (.lst [.int x, .int m, .int (c + 1)])) ∧ 0 ≤ r ∧ r < many := by
  have w0 : Sm (c + 1) := by unfold Sm; omega
  have w1 : Sm (1000003 * (c + 1)) := by unfold Sm; omega
  have w2 : (m + 1000003 * (c + 1)).natAbs < 2 ^ 64 := by omega
  have w3 : 0 < (10 : Int) ^ (18 : Int).toNat + 9 := by decide
  have w4 : 0 < (2 : Int) ^ (61 : Int).toNat - 1 := by decide
  have w5 : ((m + 1000003 * (c + 1)) ^ (3 : Int).toNat + 754974721 * (c + 1)) % ((10 : Int) ^ (18 : Int).toNat + 9) < 10 ^ 18 + 9 := Int.emod_lt_of_pos _ w3
  have w6 : 0 ≤ ((m + 1000003 * (c + 1)) ^ (3 : Int).toNat + 754974721 * (c + 1)) % ((10 : Int) ^ (18 : Int).toNat + 9) := Int.emod_nonneg _ (by decide)
  generalize hg : ((m + 1000003 * (c + 1)) ^ (3 : Int).toNat + 754974721 * (c + 1)) % ((10 : Int) ^ (18 : Int).toNat + 9) = g at w5 w6
  have w7 : Sm g := by unfold Sm; omega
  have w8 : Sm (g + 40961) := by unfold Sm; omega
  refine ⟨(g * (g + 40961)) % ((2 : Int) ^ (61 : Int).toNat - 1) / 4099 % many, ?_, Int.emod_nonneg _ (by omega), Int.emod_lt_of_pos _ hn⟩
  subst hg
  have hS' : (S.set a (.lst [.int x, .int m, .int (c + 1)]))[a]? = some (.lst [.int x, .int m, .int (c + 1)]) := set_get hS
  refine' run_rt hq rfl rfl ?h
  case h => unfold b_5; walk_at "ex"
end
theorem pick_spec {q : Pr} (hq : q.fs 5 = some (2, 4, b_5)) {W : Nat} (k : Nat) {S : Store} {a : Nat} {c many : Int} (h : Spr S a c) (hc : c < 10 ^ 12) (hn : 0 < many) (hl : Sm many) :
    ∃ r S', run q W (k + 1) 5 [.ref a, .int many] S = some (.int r, S') ∧ 0 ≤ r ∧ r < many ∧ Spr S' a (c + 1) ∧ Kp [a] S S' := by
  obtain ⟨x, m, n, h1, h2, h3, h4, h5⟩ := h
  by_cases hx : 0 < x
  · exact ⟨_, _, pick_a hq k h1 hx hn hl, Int.emod_nonneg _ (by omega), Int.emod_lt_of_pos _ hn, ⟨_, _, _, set_get h1, h2, h3, h4, by omega⟩, Kp.set⟩
  · obtain ⟨r, g1, g2, g3⟩ := pick_b hq k (W := W) h1 hx h2 h3 h4 (by omega) hn hl
    exact ⟨r, _, g1, g2, g3, ⟨_, _, _, set_get h1, h2, h3, by omega, by omega⟩, Kp.set⟩
theorem word_spec {q : Pr} (h5 : q.fs 5 = some (2, 4, b_5)) (h6 : q.fs 6 = some (1, 2, b_6)) {W : Nat} (k : Nat) {S : Store} {a : Nat} {c : Int} (h : Spr S a c) (hc : c + 1 < 10 ^ 12) :
    ∃ r S', run q W (k + 2) 6 [.ref a] S = some (.int r, S') ∧ 0 ≤ r ∧ r < 65536 ∧ Spr S' a (c + 2) ∧ Kp [a] S S' := by
  obtain ⟨r1, S1, p1, l1, u1, s1, k1⟩ := pick_spec h5 (W := W) k h (by omega) (show (0 : Int) < 4 by decide) (by unfold Sm; decide)
  obtain ⟨r2, S2, p2, l2, u2, s2, k2⟩ := pick_spec h5 (W := W) k s1 (by omega) (show (0 : Int) < 4 by decide) (by unfold Sm; decide)
  obtain ⟨r3, S3, p3, l3, u3, s3, k3⟩ := pick_spec h5 (W := W) k s1 (by omega) (show (0 : Int) < 65536 by decide) (by unfold Sm; decide)
  by_cases e0 : r1 = 0
  · exact ⟨_, _, by refine' run_rt h6 rfl rfl ?h; (case h => unfold b_6; walk_at "ex"), l2, by omega, s2.le (by omega), k1.trans k2⟩
  by_cases e1 : r1 = 1
  · exact ⟨_, _, by refine' run_rt h6 rfl rfl ?h; (case h => unfold b_6; walk_at "ex"), by omega, by omega, s2.le (by omega), k1.trans k2⟩
  by_cases e2 : r1 = 2
  · exact ⟨_, _, by refine' run_rt h6 rfl rfl ?h; (case h => unfold b_6; walk_at "ex"), by omega, by omega, s2.le (by omega), k1.trans k2⟩
  · exact ⟨_, _, by refine' run_rt h6 rfl rfl ?h; (case h => unfold b_6; walk_at "ex"), l3, u3, s3.le (by omega), k1.trans k3⟩

end Tm

set_option Elab.async false
set_option linter.all false
set_option maxRecDepth 100000
set_option maxHeartbeats 4000000
namespace Tm
open PySem L2
local macro_rules | `(tactic| walk_at "sm") => `(tactic| first | assumption | (unfold Sm; first | omega | decide))
local macro_rules | `(tactic| walk_at "in") => `(tactic| first | assumption | omega | decide)
local macro_rules | `(tactic| walk_at "lst") => `(tactic| first | assumption | exact l_last | exact l_lst (by assumption) | exact l_ro (by assumption) | exact l_lst (set_get (by assumption)))
local macro_rules | `(tactic| walk_at "op") => `(tactic| first
  | with_reducible exact o_add
  | with_reducible exact o_sub
  | ((with_reducible refine' o_mod ?h); (case h => walk_at "in"))
  | ((with_reducible refine' o_div ?h ?g); (case h => walk_at "in"); (case g => walk_at "sm"))
  | ((with_reducible refine' o_mul ?h ?g); (case h => walk_at "sm"); (case g => walk_at "sm"))
  | ((with_reducible refine' o_pow ?h ?g); (case h => walk_at "in"); (case g => decide)))
local macro_rules | `(tactic| walk_at "cmp") => `(tactic| first
  | ((with_reducible refine' c_eq_t ?h); (case h => walk_at "in"))
  | ((with_reducible refine' c_lt_t ?h); (case h => walk_at "in"))
  | ((with_reducible refine' c_gt_t ?h); (case h => walk_at "in"))
  | ((with_reducible refine' c_ne_t ?h); (case h => walk_at "in"))
  | ((with_reducible refine' c_le_t ?h); (case h => walk_at "in"))
  | ((with_reducible refine' c_ge_t ?h); (case h => walk_at "in"))
  | ((with_reducible refine' c_eq_f ?h); (case h => walk_at "in"))
  | ((with_reducible refine' c_lt_f ?h); (case h => walk_at "in"))
  | ((with_reducible refine' c_gt_f ?h); (case h => walk_at "in"))
  | ((with_reducible refine' c_ne_f ?h); (case h => walk_at "in"))
  | ((with_reducible refine' c_le_f ?h); (case h => walk_at "in"))
  | ((with_reducible refine' c_ge_f ?h); (case h => walk_at "in"))
  | ((with_reducible refine' c_str_t ?h); (case h => with_reducible exact rfl))
  | ((with_reducible refine' c_str_f ?h); (case h => decide))
  | ((with_reducible refine' c_strn_f ?h); (case h => with_reducible exact rfl))
  | ((with_reducible refine' c_strn_t ?h); (case h => decide))
  | ((with_reducible refine' c_in (t := true) ?h ?g ?f ?e); (case h => walk_at "lst"); (case g => exact rfl); (case f => exact rfl); (case e => decide))
  | ((with_reducible refine' c_in (t := false) ?h ?g ?f ?e); (case h => walk_at "lst"); (case g => exact rfl); (case f => exact rfl); (case e => decide))
  | ((with_reducible refine' c_inT (t := true) ?g ?f ?e); (case g => exact rfl); (case f => exact rfl); (case e => decide))
  | ((with_reducible refine' c_inT (t := false) ?g ?f ?e); (case g => exact rfl); (case f => exact rfl); (case e => decide)))
local macro_rules | `(tactic| walk_at "bi") => `(tactic| first | with_reducible exact b_int | with_reducible exact b_bool | with_reducible exact b_abs | with_reducible exact b_max | with_reducible exact b_min | with_reducible exact b_lenT | ((with_reducible refine' b_lenL ?h); (case h => walk_at "lst")))
local macro_rules | `(tactic| walk_at "call") => `(tactic| first | assumption)
local macro_rules | `(tactic| walk_at "ev") => `(tactic| first
  | (exact er_nil)
  | ((with_reducible refine' er_lit ?h); (case h => exact rfl))
  | ((with_reducible refine' er_var ?h); (case h => exact rfl))
  | ((with_reducible refine' er_cons ?h1 ?h2); (case h1 => walk_at "ev"); (case h2 => walk_at "ev"))
  | ((with_reducible refine' er_tup ?h1 ?h2); (case h1 => walk_at "ev"); (case h2 => exact Nat.le_of_ble_eq_true rfl))
  | ((with_reducible refine' er_lst ?h1 ?h2); (case h1 => walk_at "ev"); (case h2 => exact Nat.le_of_ble_eq_true rfl))
  | ((with_reducible refine' er_bin ?h1 ?h2 ?h3); (case h1 => walk_at "ev"); (case h2 => walk_at "ev"); (case h3 => walk_at "op"))
  | ((with_reducible refine' er_idx ?h1 ?h2 ?h3); (case h1 => walk_at "ev"); (case h2 => walk_at "ev"); (case h3 => first | exact i_tup (by first | assumption | rfl) | exact i_lst (by walk_at "lst") (by first | assumption | rfl)))
  | ((with_reducible refine' er_call ?h1 ?h2 ?h3 ?h4); (case h1 => walk_at "ev"); (case h2 => walk_at "ev"); (case h3 => exact rfl); (case h4 => walk_at "call"))
  | ((with_reducible refine' er_bi ?h1 ?h2); (case h1 => walk_at "ev"); (case h2 => walk_at "bi"))
  | ((with_reducible refine' er_cmp ?h1 ?h2 ?h3); (case h1 => walk_at "ev"); (case h2 => walk_at "ev"); (case h3 => walk_at "cmp"))
  | ((with_reducible refine' er_nots ?h1 ?h2); (case h1 => walk_at "ev"); (case h2 => first | exact Neg.t | exact Neg.f))
  | ((with_reducible refine' er_ors ?h1 ?h2); (case h1 => walk_at "ev"); (case h2 => first | exact ors_t | ((with_reducible refine' ors_f ?h3); (case h3 => walk_at "ev"))))
  | ((with_reducible refine' er_ands ?h1 ?h2); (case h1 => walk_at "ev"); (case h2 => first | exact ands_f | ((with_reducible refine' ands_t ?h3); (case h3 => walk_at "ev"))))
  | ((with_reducible refine' er_br ?h1 ?h2); (case h1 => walk_at "ev"); (case h2 => first | ((with_reducible refine' bre_t ?h3); (case h3 => walk_at "ev")) | ((with_reducible refine' bre_f ?h3); (case h3 => walk_at "ev")))))
local macro_rules | `(tactic| walk_at "ex") => `(tactic| first
  | (exact es_skip)
  | ((with_reducible refine' es_sq ?h1 ?h2); (case h1 => walk_at "ex"); (case h2 => first | exact nxt_rt | exact nxt_bk | exact nxt_ct | ((with_reducible refine' nxt_nx ?h3); (case h3 => walk_at "ex"))))
  | ((with_reducible refine' es_ret ?h1); (case h1 => walk_at "ev"))
  | ((with_reducible refine' es_asg ?h1 ?h2); (case h1 => walk_at "ev"); (case h2 => exact rfl))
  | ((with_reducible refine' es_seti ?h1 ?h2 ?h3 ?h4); (case h1 => walk_at "ev"); (case h2 => walk_at "ev"); (case h3 => walk_at "ev"); (case h4 => exact s_set (by first | assumption | exact set_get (by assumption)) rfl))
  | ((with_reducible refine' es_drop ?h1); (case h1 => walk_at "ev"))
  | ((with_reducible refine' es_br ?h1 ?h2); (case h1 => walk_at "ev"); (case h2 => first | ((with_reducible refine' brs_t ?h3); (case h3 => walk_at "ex")) | ((with_reducible refine' brs_f ?h3); (case h3 => walk_at "ex")))))
def b_7t : St := (.seq (.ifs (.cmp .eq (.var 1) (.lit (.str "set"))) (.seq (.ret (.tup (.cons (.var 1) (.cons (.var 4) (.cons (.var 7) .nil)))))
  .skip) .skip)
  (.seq (.ifs (.cmp .in_ (.var 1) (.lst (.cons (.lit (.str "add")) (.cons (.lit (.str "sub")) (.cons (.lit (.str "and")) (.cons (.lit (.str "xor")) (.cons (.lit (.str "below")) .nil))))))) (.seq (.ret (.tup (.cons (.var 1) (.cons (.var 4) (.cons (.var 5) (.cons (.var 6) .nil))))))
  .skip) .skip)
  (.seq (.ifs (.cmp .in_ (.var 1) (.lst (.cons (.lit (.str "load")) (.cons (.lit (.str "store")) .nil)))) (.seq (.ret (.tup (.cons (.var 1) (.cons (.var 4) (.cons (.var 5) (.cons (.var 7) .nil))))))
  .skip) .skip)
  (.seq (.ifs (.cmp .in_ (.var 1) (.lst (.cons (.lit (.str "swap")) (.cons (.lit (.str "addto")) .nil)))) (.seq (.ret (.tup (.cons (.var 1) (.cons (.var 4) (.cons (.var 5) (.cons (.var 6) (.cons (.var 7) .nil)))))))
  .skip) .skip)
  (.seq (.ifs (.cmp .eq (.var 1) (.lit (.str "ifzero"))) (.seq (.ret (.tup (.cons (.var 1) (.cons (.var 4) (.cons (.var 8) .nil)))))
  .skip) .skip)
  (.seq (.ifs (.cmp .eq (.var 1) (.lit (.str "jump"))) (.seq (.ret (.tup (.cons (.var 1) (.cons (.var 8) .nil))))
  .skip) .skip)
  (.seq (.ret (.tup (.cons (.var 1) .nil)))
  .skip)))))))
theorem Spr.push {S : Store} {a : Nat} {c : Int} {o : O} (h : Spr S a c) : Spr (S ++ [o]) a c := h.kp (A := []) Kp.push (by simp)
abbrev nms : List Str := ["set", "add", "sub", "and", "xor", "below", "load", "store", "swap", "addto", "fence", "ifzero", "jump", "gap", "stop"]
def shape (nm : Str) (a b c w g : Int) : List D :=
  if nm = "set" then [.int a, .int w] else if nm = "add" ∨ nm = "sub" ∨ nm = "and" ∨ nm = "xor" ∨ nm = "below" then [.int a, .int b, .int c]
  else if nm = "load" ∨ nm = "store" then [.int a, .int b, .int w] else if nm = "swap" ∨ nm = "addto" then [.int a, .int b, .int c, .int w]
  else if nm = "ifzero" then [.int a, .int g] else if nm = "jump" then [.int g] else []
theorem pick3 (x y z r : Int) (h0 : 0 ≤ r) (h3 : r < 3) : ∃ t, atI [D.int x, D.int y, D.int z] r = some (D.int t) ∧ (t = x ∨ t = y ∨ t = z) := by
  have : r = 0 ∨ r = 1 ∨ r = 2 := by omega
  rcases this with rfl | rfl | rfl
  · exact ⟨x, rfl, Or.inl rfl⟩
  · exact ⟨y, rfl, Or.inr (Or.inl rfl)⟩
  · exact ⟨z, rfl, Or.inr (Or.inr rfl)⟩
theorem instr_spec {q : Pr} (h5 : q.fs 5 = some (2, 4, b_5)) (h6 : q.fs 6 = some (1, 2, b_6)) (h7 : q.fs 7 = some (4, 9, b_7)) {W : Nat} (k : Nat) {S : Store} {a : Nat} {c few many : Int} (h : Spr S a c) (hc : c + 7 < 10 ^ 12)
    (f0 : 0 < few) (f1 : few < 100) (m0 : 0 ≤ many) (m1 : many < 100) {nm : Str} (hm : nm ∈ nms) :
    ∃ (i1 i2 i3 w g : Int) (S' : Store), run q W (k + 3) 7 [.ref a, .str nm, .int few, .int many] S = some (.tup (.str nm :: shape nm i1 i2 i3 w g), S') ∧ 0 ≤ i1 ∧ i1 < few ∧ 0 ≤ i2 ∧ i2 < few ∧ 0 ≤ i3 ∧ i3 < few ∧ 0 ≤ w ∧ w < 65536 ∧ 0 ≤ g ∧ g ≤ many
      ∧ Spr S' a (c + 7) ∧ Kp [a] S S' := by
  obtain ⟨r1, S1, p1, l1, u1, s1, k1⟩ := pick_spec h5 (W := W) (k + 1) h (by omega) f0 (by unfold Sm; omega)
  obtain ⟨r2, S2, p2, l2, u2, s2, k2⟩ := pick_spec h5 (W := W) (k + 1) s1 (by omega) f0 (by unfold Sm; omega)
  obtain ⟨r3, S3, p3, l3, u3, s3, k3⟩ := pick_spec h5 (W := W) (k + 1) s2 (by omega) f0 (by unfold Sm; omega)
  obtain ⟨w, S4, p4, l4, u4, s4, k4⟩ := word_spec h5 h6 (W := W) k s3 (by omega)
  obtain ⟨r5, S5, p5, l5, u5, s5, k5⟩ := pick_spec h5 (W := W) (k + 1) s4 (by omega) (show 0 < many + 1 by omega) (by unfold Sm; omega)
  obtain ⟨r6, S6, p6, l6, u6, s6, k6⟩ := pick_spec h5 (W := W) (k + 1) (s5.push (o := .lst [.int 0, .int many, .int r5])) (by omega) (show (0 : Int) < 3 by decide) (by unfold Sm; decide)
  obtain ⟨g, hg, hgo⟩ := pick3 0 many r5 r6 l6 u6
  have hL : listAt S6 S5.length = some [.int 0, .int many, .int r5] := l_lst (k6 _ _ (by have := s5.lt; simp; omega) g_last)
  have K : Kp [a] S S6 := k1.trans (k2.trans (k3.trans (k4.trans (k5.trans (Kp.push.trans k6)))))
  have Z : Spr S6 a (c + 7) := s6.le (by omega)
  have G : 0 ≤ g ∧ g ≤ many := by omega
  have R0 : ∀ (w' : Fl × Env' × Store), ex (pm q W (k + 2)) b_7t [some (.ref a), some (.str nm), some (.int few), some (.int many), some (.int r1), some (.int r2), some (.int r3), some (.int w), some (.int g)] S6 = some w' → ex (pm q W (k + 2)) b_7 (env0 4 9 [.ref a, .str nm, .int few, .int many]) S = some w' := by
    intro w' hw
    unfold b_7
    refine' es_nx ?x1 ?x2
    case x1 => walk_at "ex"
    case x2 =>
    refine' es_nx ?y1 ?y2
    case y1 => walk_at "ex"
    case y2 => exact hw
  simp only [nms, List.mem_cons, List.not_mem_nil, or_false] at hm
  rcases hm with rfl | rfl | rfl | rfl | rfl | rfl | rfl | rfl | rfl | rfl | rfl | rfl | rfl | rfl | rfl
  all_goals
    refine' ⟨r1, r2, r3, w, g, _, ?h, l1, u1, l2, u2, l3, u3, l4, u4, G.1, G.2, ?z, ?k⟩
    case h => refine' run_rt h7 rfl rfl ?h; (case h => refine' R0 _ ?h; (case h => unfold b_7t; walk_at "ex"))
    case z => repeat (first | exact Z | apply Spr.push)
    case k => repeat (first | exact K | refine Kp.trans ?_ Kp.push)
end Tm

set_option Elab.async false
set_option linter.all false
set_option maxRecDepth 100000
namespace Tm
open PySem L2
/-! ## and and xor, bit by bit -/
def bs (t : Nat) : Nat → Nat → Nat → Nat
  | 0, _, _ => 0
  | n + 1, x, y => (if x % 2 + y % 2 = t then 1 else 0) + 2 * bs t n (x / 2) (y / 2)
theorem and_mod2 (x y : Nat) : (x &&& y) % 2 = (x % 2) * (y % 2) := by
  have h := Nat.and_mod_two_pow (a := x) (b := y) (n := 1)
  simp only [Nat.pow_one] at h
  rw [h]
  have hx : x % 2 = 0 ∨ x % 2 = 1 := by omega
  have hy : y % 2 = 0 ∨ y % 2 = 1 := by omega
  rcases hx with hx | hx <;> rcases hy with hy | hy <;> rw [hx, hy] <;> rfl
theorem or_mod2 (x y : Nat) : (x ||| y) % 2 + (x % 2) * (y % 2) = x % 2 + y % 2 := by
  have h := Nat.or_mod_two_pow (a := x) (b := y) (n := 1)
  simp only [Nat.pow_one] at h
  rw [h]
  have hx : x % 2 = 0 ∨ x % 2 = 1 := by omega
  have hy : y % 2 = 0 ∨ y % 2 = 1 := by omega
  rcases hx with hx | hx <;> rcases hy with hy | hy <;> rw [hx, hy] <;> rfl
theorem bs_and : ∀ (n x y : Nat), x < 2 ^ n → y < 2 ^ n → bs 2 n x y = x &&& y
  | 0, x, y, hx, hy => by
    have : x = 0 := by omega
    subst this; simp [bs]
  | n + 1, x, y, hx, hy => by
    have e := bs_and n (x / 2) (y / 2) (by rw [Nat.pow_succ] at hx; omega) (by rw [Nat.pow_succ] at hy; omega)
    have d := Nat.and_div_two (a := x) (b := y)
    have m := and_mod2 x y
    have hx : x % 2 = 0 ∨ x % 2 = 1 := by omega
    have hy : y % 2 = 0 ∨ y % 2 = 1 := by omega
    simp only [bs, e]
    rcases hx with hx | hx <;> rcases hy with hy | hy <;> rw [hx, hy] at m ⊢ <;> simp <;> omega
theorem bs_xor : ∀ (n x y : Nat), x < 2 ^ n → y < 2 ^ n → bs 1 n x y + (x &&& y) = x ||| y
  | 0, x, y, hx, hy => by
    have : x = 0 := by omega
    have : y = 0 := by omega
    subst x; subst y; simp [bs]
  | n + 1, x, y, hx, hy => by
    have e := bs_xor n (x / 2) (y / 2) (by rw [Nat.pow_succ] at hx; omega) (by rw [Nat.pow_succ] at hy; omega)
    have d := Nat.and_div_two (a := x) (b := y)
    have d' := Nat.or_div_two (a := x) (b := y)
    have m := and_mod2 x y
    have m' := or_mod2 x y
    have hx : x % 2 = 0 ∨ x % 2 = 1 := by omega
    have hy : y % 2 = 0 ∨ y % 2 = 1 := by omega
    rw [← d, ← d'] at e
    simp only [bs]
    generalize bs 1 n (x / 2) (y / 2) = B at e ⊢
    generalize (x &&& y) = A at e m m' ⊢
    generalize (x ||| y) = O at e m m' ⊢
    clear d d'
    rcases hx with hx | hx <;> rcases hy with hy | hy <;> rw [hx, hy] at m m' ⊢ <;> simp at m m' ⊢ <;> omega
theorem bitAnd_nat (x y : Nat) : Builtin.bitAnd (x : Int) (y : Int) = ((x &&& y : Nat) : Int) := by
  unfold Builtin.bitAnd
  rw [decide_eq_true (show (0 : Int) ≤ x by omega), decide_eq_true (show (0 : Int) ≤ y by omega)]
  rfl
theorem bitOr_nat (x y : Nat) : Builtin.bitOr (x : Int) (y : Int) = ((x ||| y : Nat) : Int) := by
  unfold Builtin.bitOr Builtin.bitAnd Builtin.bitNot
  rw [decide_eq_false (show ¬ (0 : Int) ≤ -(x : Int) - 1 by omega), decide_eq_false (show ¬ (0 : Int) ≤ -(y : Int) - 1 by omega)]
  simp only
  have h1 : (-(-(x : Int) - 1) - 1).toNat = x := by omega
  have h2 : (-(-(y : Int) - 1) - 1).toNat = y := by omega
  rw [h1, h2]; omega
theorem bitXor_nat (x y : Nat) (hx : x < 2 ^ 16) (hy : y < 2 ^ 16) : Builtin.bitXor (x : Int) (y : Int) = ((bs 1 16 x y : Nat) : Int) := by
  unfold Builtin.bitXor
  rw [bitAnd_nat, bitOr_nat, ← bs_xor 16 x y hx hy]; omega
end Tm

set_option Elab.async false
set_option linter.all false
set_option maxRecDepth 100000
set_option maxHeartbeats 4000000
namespace Tm
open PySem L2
theorem o_band {i j : Int} {S : Store} : binop .band (.int i) (.int j) S = some (.int (Builtin.bitAnd i j), S) := rfl
theorem o_bxor {i j : Int} {S : Store} : binop .bxor (.int i) (.int j) S = some (.int (Builtin.bitXor i j), S) := rfl
theorem forL_nx {bod : Env' → Store → Option (Fl × Env' × Store)} {t : Tg} {cks ds : List D} {d : D} {e e1 e2 : Env'} {S S2 : Store} {w : Fl × Env' × Store}
    (hc : chks S cks = true) (hb : bindT t d S e = some e1) (h : bod e1 S = some (.nx, e2, S2)) (r : forL bod t cks ds e2 S2 = some w) : forL bod t cks (d :: ds) e S = some w := by
  simp only [forL, hc, hb, h, if_true, Option.bind_some]; exact r
theorem forL_nil {bod : Env' → Store → Option (Fl × Env' × Store)} {t : Tg} {cks : List D} {e : Env'} {S : Store} (hc : chks S cks = true) : forL bod t cks [] e S = some (.nx, e, S) := by
  simp only [forL, hc, if_true]
inductive LcAll (cnd elt : Env' → Store → Option (D × Store)) (t : Tg) (w : Env') : List D → List D → Prop
  | nil : LcAll cnd elt t w [] []
  | cons {d y : D} {ds ys : List D} {e1 : Env'} (hb : ∀ S, bindT t d S w = some e1) (hc : ∀ S, cnd e1 S = some (.bl true, S)) (he : ∀ S, elt e1 S = some (y, S)) (r : LcAll cnd elt t w ds ys) : LcAll cnd elt t w (d :: ds) (y :: ys)
theorem lc_pure {cnd elt : Env' → Store → Option (D × Store)} {t : Tg} {w : Env'} {n : Nat} {ds ys : List D} (h : LcAll cnd elt t w ds ys) : ∀ {S : Store} {acc : List D}, S[n]? = some (.lst acc) → acc.length + ys.length ≤ sizeLine →
    lcL cnd elt t [] w n ds S = some (S.set n (.lst (acc ++ ys))) := by
  induction h with
  | nil =>
    intro S acc hS hl
    obtain ⟨hn, hv⟩ := List.getElem?_eq_some_iff.mp hS
    have : S.set n (.lst acc) = S := by rw [← hv]; exact List.set_getElem_self hn
    simp only [lcL, chks, if_true, List.append_nil, this]
  | cons hb hc he r ih =>
    intro S acc hS hl
    simp only [List.length_cons] at hl
    have hp : ∀ z, push n z S = some (S.set n (.lst (acc ++ [z]))) := by
      intro z; simp only [push, hS]; rw [if_pos (by omega)]
    simp only [lcL, chks, if_true, hb S, hc S, he S, Option.bind_some, hp]
    rw [ih (set_get hS) (by simp; omega)]
    simp
theorem er_lcp {q : Pr} {W k : Nat} {i a b : C} {t : Tg} {own : List Nat} {e : Env'} {S S1 : Store} {ds ys : List D} (h1 : ev (pm q W k) i e S = some (itD ds [], S1))
    (h2 : LcAll (ev (pm q W k) b) (ev (pm q W k) a) t (wipeE e own) ds ys) (h3 : ys.length ≤ sizeLine) : ev (pm q W k) (.lc i t b a own) e S = some (.ref S1.length, S1 ++ [.lst ys]) := by
  refine er_lc h1 ?_
  rw [lc_pure h2 (g_last) (by simpa using h3)]
  congr 1
  rw [List.nil_append, List.set_append_right _ _ (Nat.le_refl _)]
  simp
def sumOf (nm : Str) (x y : Int) : Int :=
  if nm = "add" then (x + y) % 65536 else if nm = "sub" then (x - y) % 65536 else if nm = "and" then Builtin.bitAnd x y else if nm = "xor" then Builtin.bitXor x y
  else if x < y then 1 else 0
abbrev sms : List Str := ["add", "sub", "and", "xor", "below"]
theorem sum_le {nm : Str} (hm : nm ∈ sms) {x y : Int} (hx : 0 ≤ x ∧ x < 65536) (hy : 0 ≤ y ∧ y < 65536) : (sumOf nm x y).natAbs < 10 ^ 12 := by
  obtain ⟨x, rfl⟩ := Int.eq_ofNat_of_zero_le hx.1
  obtain ⟨y, rfl⟩ := Int.eq_ofNat_of_zero_le hy.1
  simp only [sms, List.mem_cons, List.not_mem_nil, or_false] at hm
  rcases hm with rfl | rfl | rfl | rfl | rfl
  · show ((x + y : Int) % 65536).natAbs < _; omega
  · show ((x - y : Int) % 65536).natAbs < _; omega
  · show (Builtin.bitAnd x y).natAbs < _
    rw [bitAnd_nat]
    have := Nat.and_le_left (n := x) (m := y)
    omega
  · show (Builtin.bitXor x y).natAbs < _
    rw [show Builtin.bitXor x y = Builtin.bitOr x y - Builtin.bitAnd x y from rfl, bitAnd_nat, bitOr_nat]
    have h1 := Nat.and_le_left (n := x) (m := y)
    have h2 : x ||| y < 2 ^ 16 := Nat.or_lt_two_pow (by omega) (by omega)
    omega
  · show (if (x : Int) < y then (1 : Int) else 0).natAbs < _
    split <;> decide
/-! ## loops and comprehensions, by what holds before each item -/
/-- a comprehension: Inv (items left) (made so far) (store); the list under way stands at n -/
theorem lc_inv {cnd elt : Env' → Store → Option (D × Store)} {t : Tg} {w : Env'} {n : Nat} {cks : List D} (Inv : List D → List D → Store → Prop)
    (hc : ∀ ds acc S, Inv ds acc S → chks S cks = true)
    (step : ∀ d ds acc S, Inv (d :: ds) acc S → ∃ e1 S1, bindT t d S w = some e1 ∧ ((cnd e1 S = some (.bl false, S1) ∧ Inv ds acc S1) ∨
      (∃ y S2, cnd e1 S = some (.bl true, S1) ∧ elt e1 S1 = some (y, S2) ∧ S2[n]? = some (.lst acc) ∧ acc.length < sizeLine ∧ Inv ds (acc ++ [y]) (S2.set n (.lst (acc ++ [y])))))) :
    ∀ ds acc S, Inv ds acc S → ∃ acc' S', lcL cnd elt t cks w n ds S = some S' ∧ Inv [] acc' S' := by
  intro ds
  induction ds with
  | nil => intro acc S h; exact ⟨acc, S, by simp only [lcL, hc _ _ _ h, if_true], h⟩
  | cons d ds ih =>
    intro acc S h
    obtain ⟨e1, S1, hb, h2⟩ := step d ds acc S h
    rcases h2 with ⟨h3, h4⟩ | ⟨y, S2, h3, h4, h5, h6, h7⟩
    · obtain ⟨a', S', k1, k2⟩ := ih acc S1 h4
      exact ⟨a', S', by simp only [lcL, hc _ _ _ h, if_true, hb, h3, Option.bind_some]; exact k1, k2⟩
    · obtain ⟨a', S', k1, k2⟩ := ih _ _ h7
      have hp : push n y S2 = some (S2.set n (.lst (acc ++ [y]))) := by simp only [push, h5, h6, if_true]
      exact ⟨a', S', by simp only [lcL, hc _ _ _ h, if_true, hb, h3, h4, hp, Option.bind_some]; exact k1, k2⟩
/-- a for that runs to its end -/
theorem forL_inv {bod : Env' → Store → Option (Fl × Env' × Store)} {t : Tg} {cks : List D} (Inv : List D → Env' → Store → Prop)
    (hc : ∀ ds e S, Inv ds e S → chks S cks = true)
    (step : ∀ d ds e S, Inv (d :: ds) e S → ∃ e1 e2 S2, bindT t d S e = some e1 ∧ (bod e1 S = some (.nx, e2, S2) ∨ bod e1 S = some (.ct, e2, S2)) ∧ Inv ds e2 S2) :
    ∀ ds e S, Inv ds e S → ∃ e' S', forL bod t cks ds e S = some (.nx, e', S') ∧ Inv [] e' S' := by
  intro ds
  induction ds with
  | nil => intro e S h; exact ⟨e, S, by simp only [forL, hc _ _ _ h, if_true], h⟩
  | cons d ds ih =>
    intro e S h
    obtain ⟨e1, e2, S2, hb, h2, h3⟩ := step d ds e S h
    obtain ⟨e', S', k1, k2⟩ := ih e2 S2 h3
    rcases h2 with h2 | h2
    · exact ⟨e', S', by simp only [forL, hc _ _ _ h, if_true, hb, h2, Option.bind_some]; exact k1, k2⟩
    · exact ⟨e', S', by simp only [forL, hc _ _ _ h, if_true, hb, h2, Option.bind_some]; exact k1, k2⟩
theorem forL_rt {bod : Env' → Store → Option (Fl × Env' × Store)} {t : Tg} {cks ds : List D} {d v : D} {e e1 e2 : Env'} {S S2 : Store}
    (hc : chks S cks = true) (hb : bindT t d S e = some e1) (h : bod e1 S = some (.rt v, e2, S2)) : forL bod t cks (d :: ds) e S = some (.rt v, e2, S2) := by
  simp only [forL, hc, hb, h, if_true, Option.bind_some]
theorem forL_bk {bod : Env' → Store → Option (Fl × Env' × Store)} {t : Tg} {cks ds : List D} {d : D} {e e1 e2 : Env'} {S S2 : Store}
    (hc : chks S cks = true) (hb : bindT t d S e = some e1) (h : bod e1 S = some (.bk, e2, S2)) : forL bod t cks (d :: ds) e S = some (.nx, e2, S2) := by
  simp only [forL, hc, hb, h, if_true, Option.bind_some]
theorem forL_ct {bod : Env' → Store → Option (Fl × Env' × Store)} {t : Tg} {cks ds : List D} {d : D} {e e1 e2 : Env'} {S S2 : Store} {w : Fl × Env' × Store}
    (hc : chks S cks = true) (hb : bindT t d S e = some e1) (h : bod e1 S = some (.ct, e2, S2)) (r : forL bod t cks ds e2 S2 = some w) : forL bod t cks (d :: ds) e S = some w := by
  simp only [forL, hc, hb, h, if_true, Option.bind_some]; exact r
/-! ## slices, sums of tuples and lists -/
theorem cut_to (xs : List D) {i : Int} (h : 0 ≤ i) : cutD xs none (some i) = xs.take i.toNat := by
  unfold cutD HT.sIx
  simp only [if_neg (show ¬ i < 0 by omega), List.drop_zero, Nat.sub_zero]
  rw [← List.take_take]
  simp
theorem cut_from (xs : List D) {i : Int} (h : 0 ≤ i) : cutD xs (some i) none = xs.drop i.toNat := by
  unfold cutD HT.sIx
  simp only [if_neg (show ¬ i < 0 by omega)]
  by_cases g : i.toNat ≤ xs.length
  · rw [Nat.min_eq_left g, List.take_of_length_le (by simp)]
  · rw [Nat.min_eq_right (by omega), List.drop_of_length_le (show xs.length ≤ i.toNat by omega)]; simp
section
variable {q : Pr} {W k : Nat} {e : Env'} {S S1 S2 : Store} {a b : C} {x : D} {xs ys : List D} {i j : Int}
theorem er_slc_to (h1 : ev (pm q W k) a e S = some (.tup xs, S1)) (hb : isAbs b = false) (h2 : ev (pm q W k) b e S1 = some (.int i, S2)) (hi : 0 ≤ i) : ev (pm q W k) (.slc a .absent b) e S = some (.tup (xs.take i.toNat), S2) := by
  have ha : isAbs C.absent = true := rfl
  simp only [ev, h1, Option.bind_some, part, ha, if_true, hb, Bool.false_eq_true, if_false, h2, slcop, cut_to xs hi]
theorem er_slc_from (h1 : ev (pm q W k) a e S = some (.tup xs, S1)) (hb : isAbs b = false) (h2 : ev (pm q W k) b e S1 = some (.int i, S2)) (hi : 0 ≤ i) : ev (pm q W k) (.slc a b .absent) e S = some (.tup (xs.drop i.toNat), S2) := by
  have ha : isAbs C.absent = true := rfl
  simp only [ev, h1, Option.bind_some, part, ha, if_true, hb, Bool.false_eq_true, if_false, h2, slcop, cut_from xs hi]
theorem o_addT (h : xs.length + ys.length ≤ sizeLine) : binop .add (.tup xs) (.tup ys) S = some (.tup (xs ++ ys), S) := by
  show okI (decide (xs.length + ys.length ≤ sizeLine)) _ _ = _
  rw [decide_eq_true h]; rfl
theorem o_addL {m n : Nat} (h1 : S[m]? = some (.lst xs)) (h2 : S[n]? = some (.lst ys)) (h : xs.length + ys.length ≤ sizeLine) : binop .add (.ref m) (.ref n) S = some (.ref S.length, S ++ [.lst (xs ++ ys)]) := by
  simp only [binop, h1, h2, h, if_true, new]
theorem at_nat {n : Nat} {d : D} (h : xs[n]? = some d) : atI xs (n : Int) = some d := by
  have hl := (List.getElem?_eq_some_iff.mp h).1
  unfold atI ixN
  rw [if_pos (by omega), if_pos (by omega)]
  simpa using h
theorem at_pos {d : D} (h0 : 0 ≤ i) (h : xs[i.toNat]? = some d) : atI xs i = some d := by
  have := at_nat (n := i.toNat) h
  rwa [Int.toNat_of_nonneg h0] at this
/-- what `items[:i] + (x,) + items[i + 1:]` is -/
theorem put_at {n : Nat} (h : n < xs.length) : xs.take n ++ [x] ++ xs.drop (n + 1) = xs.set n x := by
  rw [List.set_eq_take_append_cons_drop, if_pos h]; simp
end
section
variable {a b c d : D}
theorem pk1 : pick [0] ([a] ++ []) = [a] := rfl
theorem pk2 : pick [0, 1] ([a, b] ++ []) = [a, b] := rfl
theorem pk3 : pick [0, 1, 2] ([a, b, c] ++ []) = [a, b, c] := rfl
theorem pk4 : pick [0, 1, 2, 3] ([a, b, c, d] ++ []) = [a, b, c, d] := rfl
theorem pn1 : pick [0] ([] ++ [a]) = [a] := rfl
theorem pn2 : pick [1, 0] ([] ++ [a, b]) = [b, a] := rfl
theorem es_skip2 {q : Pr} {W k : Nat} {e e' : Env'} {S S' : Store} (h1 : e = e') (h2 : S = S') : ex (pm q W k) .skip e S = some (.nx, e', S') := by subst h1 h2; rfl
theorem pn3 : pick [1, 2, 0] ([] ++ [a, b, c]) = [b, c, a] := rfl
end
theorem b_tupL {n : Nat} {xs : List D} {S : Store} (h : listAt S n = some xs) : biop .tuple [.ref n] S = some (.tup xs, S) := by
  show (listAt S n).map _ = _
  rw [h]; rfl
theorem pur_of {q : Pr} {W k f : Nat} {es : List D} {d : D} (h : ∀ S, ∃ S', run q W k f es S = some (d, S') ∧ Kp [] S S') : ∃ F : Store → Store, (∀ S, run q W k f es S = some (d, F S)) ∧ ∀ S, Kp [] S (F S) :=
  ⟨fun S => Classical.choose (h S), fun S => (Classical.choose_spec (h S)).1, fun S => (Classical.choose_spec (h S)).2⟩
theorem Kp.nil {S S' : Store} {A : List Nat} (h : Kp [] S S') : Kp A S S' := h.more (by simp)
theorem Spr.kp0 {S S' : Store} {a : Nat} {c : Int} (h : Spr S a c) (k : Kp [] S S') : Spr S' a c := h.kp k (by simp)
theorem Kp.drop {S S' : Store} {a : Nat} (h : Kp [a] S S') (l : S.length ≤ a) : Kp [] S S' := fun i o _ e => by
  refine h i o ?_ e
  have := (List.getElem?_eq_some_iff.mp e).1
  simp; omega
theorem Kp.from {S S1 S' : Store} {a : Nat} (h : Kp [] S S1) (k : Kp [a] S1 S') (l : S.length ≤ a) : Kp [] S S' := fun i o n e => by
  refine k i o ?_ (h i o n e)
  have := (List.getElem?_eq_some_iff.mp e).1
  simp; omega
theorem beqs_ints : ∀ ns : List Int, D.beqs (ns.map D.int) (ns.map D.int) = true
  | [] => rfl
  | n :: ns => by
    show (decide (n = n) && D.beqs (ns.map D.int) (ns.map D.int)) = true
    rw [beqs_ints ns, decide_eq_true rfl]; rfl
theorem at_ints (ns : List Int) (i : Int) (h0 : 0 ≤ i) (h1 : i < ((ns.map D.int).length : Int)) : ∃ u, atI (ns.map D.int) i = some (.int u) := by
  have hl : i.toNat < ns.length := by simp at h1; omega
  refine ⟨ns[i.toNat], ?_⟩
  have e : ixN (ns.map D.int).length i = some i.toNat := by
    unfold ixN
    rw [if_pos h0, if_pos h1]
  unfold atI
  rw [e]
  simp [hl]
end Tm

set_option Elab.async false
set_option linter.all false
set_option maxRecDepth 100000
set_option maxHeartbeats 4000000
namespace Tm
open PySem L2
theorem Kp.set_new {S0 S : Store} {n : Nat} {o : O} (h : Kp [] S0 S) (hn : S0.length ≤ n) : Kp [] S0 (S.set n o) := fun i u x e => by
  have := (List.getElem?_eq_some_iff.mp e).1
  rw [List.getElem?_set_ne (by omega)]
  exact h i u x e
theorem push_at {n : Nat} {d : D} {S : Store} {xs : List D} (h : S[n]? = some (.lst xs)) (l : xs.length < sizeLine) : push n d S = some (S.set n (.lst (xs ++ [d]))) := by
  simp only [push, h, l, if_true]
/-- a comprehension whose items each give something or nothing, with nothing else done -/
theorem lcF {α : Type} {cnd elt : Env' → Store → Option (D × Store)} {t : Tg} {w : Env'} {cks : List D} {n : Nat} {S0 : Store} (h : α → D) (f : α → Option D) (hck : ∀ S, Kp [] S0 S → chks S cks = true) (hn : S0.length ≤ n) : ∀ (ds : List α) (acc : List D) (S : Store),
    (∀ d ∈ ds, ∀ S, Kp [] S0 S → ∃ e1, bindT t (h d) S w = some e1 ∧ ((f d = none ∧ cnd e1 S = some (.bl false, S)) ∨ ∃ y S2, f d = some y ∧ cnd e1 S = some (.bl true, S) ∧ elt e1 S = some (y, S2) ∧ Kp [] S S2)) →
    S[n]? = some (.lst acc) → acc.length + ds.length ≤ sizeLine → Kp [] S0 S → ∃ S', lcL cnd elt t cks w n (ds.map h) S = some S' ∧ Kp [] S0 S' ∧ S'[n]? = some (.lst (acc ++ ds.filterMap f)) := by
  intro ds
  induction ds with
  | nil => intro acc S _ h2 _ h4; exact ⟨S, by simp only [List.map_nil, lcL, hck S h4, if_true], h4, by simpa using h2⟩
  | cons d ds ih =>
    intro acc S h1 h2 h3 h4
    simp only [List.length_cons] at h3
    obtain ⟨e1, g1, g⟩ := h1 d List.mem_cons_self S h4
    rcases g with ⟨g2, g3⟩ | ⟨y, S2, g2, g3, g4, g5⟩
    · obtain ⟨S', k1, k2, k3⟩ := ih acc S (fun d hd => h1 d (List.mem_cons_of_mem _ hd)) h2 (by omega) h4
      exact ⟨S', by simp only [List.map_cons, lcL, hck S h4, if_true, g1, g3, Option.bind_some]; exact k1, k2, by rw [List.filterMap_cons, g2]; exact k3⟩
    · have h2' := g5 n _ (by simp) h2
      obtain ⟨S', k1, k2, k3⟩ := ih (acc ++ [y]) (S2.set n (.lst (acc ++ [y]))) (fun d hd => h1 d (List.mem_cons_of_mem _ hd)) (set_get h2') (by simp; omega) ((h4.trans g5).set_new hn)
      exact ⟨S', by simp only [List.map_cons, lcL, hck S h4, if_true, g1, g3, g4, Option.bind_some, push_at h2' (show acc.length < sizeLine by omega)]; exact k1, k2, by rw [List.filterMap_cons, g2, k3]; simp⟩
theorem er_lcF {α : Type} {q : Pr} {W k : Nat} {i a b : C} {t : Tg} {own : List Nat} {e : Env'} {S S1 : Store} {ds : List α} {cks : List D} (h : α → D) (f : α → Option D) (h1 : ev (pm q W k) i e S = some (itD (ds.map h) cks, S1)) (hck : ∀ S, Kp [] S1 S → chks S cks = true) (hl : ds.length ≤ sizeLine)
    (step : ∀ d ∈ ds, ∀ S, Kp [] S1 S → ∃ e1, bindT t (h d) S (wipeE e own) = some e1 ∧ ((f d = none ∧ ev (pm q W k) b e1 S = some (.bl false, S)) ∨ ∃ y S2, f d = some y ∧ ev (pm q W k) b e1 S = some (.bl true, S) ∧ ev (pm q W k) a e1 S = some (y, S2) ∧ Kp [] S S2)) :
    ∃ S', ev (pm q W k) (.lc i t b a own) e S = some (.ref S1.length, S') ∧ Kp [] S1 S' ∧ S'[S1.length]? = some (.lst (ds.filterMap f)) := by
  obtain ⟨S', k1, k2, k3⟩ := lcF (S0 := S1) (n := S1.length) h f hck (Nat.le_refl _) ds [] (S1 ++ [.lst []]) step g_last (by simpa using hl) Kp.push
  exact ⟨S', er_lc h1 k1, k2, by simpa using k3⟩
theorem er_lcG {α : Type} {q : Pr} {W k : Nat} {i a : C} {t : Tg} {own : List Nat} {e : Env'} {S S1 : Store} {ds : List α} {cks : List D} (h f : α → D) (h1 : ev (pm q W k) i e S = some (itD (ds.map h) cks, S1)) (hck : ∀ S, Kp [] S1 S → chks S cks = true) (hl : ds.length ≤ sizeLine)
    (step : ∀ d ∈ ds, ∀ S, Kp [] S1 S → ∃ e1 S2, bindT t (h d) S (wipeE e own) = some e1 ∧ ev (pm q W k) a e1 S = some (f d, S2) ∧ Kp [] S S2) :
    ∃ S', ev (pm q W k) (.lc i t (.lit (.bl true)) a own) e S = some (.ref S1.length, S') ∧ Kp [] S1 S' ∧ S'[S1.length]? = some (.lst (ds.map f)) := by
  obtain ⟨S', k1, k2, k3⟩ := er_lcF (q := q) (W := W) (k := k) (b := .lit (.bl true)) (a := a) (t := t) (own := own) h (fun d => some (f d)) h1 hck hl fun d hd S hS => by
    obtain ⟨e1, S2, g1, g2, g3⟩ := step d hd S hS
    exact ⟨e1, g1, .inr ⟨f d, S2, rfl, er_lit rfl, g2, g3⟩⟩
  refine ⟨S', k1, k2, ?_⟩
  rw [k3, ← List.filterMap_eq_map]; rfl
theorem er_lcM {q : Pr} {W k : Nat} {i a : C} {t : Tg} {own : List Nat} {e : Env'} {S S1 : Store} {ds cks : List D} (f : D → D) (h1 : ev (pm q W k) i e S = some (itD ds cks, S1)) (hck : ∀ S, Kp [] S1 S → chks S cks = true) (hl : ds.length ≤ sizeLine)
    (step : ∀ d ∈ ds, ∀ S, Kp [] S1 S → ∃ e1 S2, bindT t d S (wipeE e own) = some e1 ∧ ev (pm q W k) a e1 S = some (f d, S2) ∧ Kp [] S S2) :
    ∃ S', ev (pm q W k) (.lc i t (.lit (.bl true)) a own) e S = some (.ref S1.length, S') ∧ Kp [] S1 S' ∧ S'[S1.length]? = some (.lst (ds.map f)) :=
  er_lcG (fun d => d) f (by rw [List.map_id']; exact h1) hck hl step
theorem zipF_map {α β : Type} (f : α → D) (g : β → D) : ∀ (xs : List α) (ys : List β), zipF (xs.map f) (ys.map g) = (xs.zip ys).map fun p => .tup [f p.1, g p.2]
  | [], ys => by cases ys <;> rfl
  | x :: xs, [] => rfl
  | x :: xs, y :: ys => by simp [zipF, zipF_map f g xs ys]
theorem b_all {n : Nat} {S : Store} {ds : List D} (h : listAt S n = some ds) (t : ∀ d ∈ ds, d = .bl true) : biop .all [.ref n] S = some (.bl true, S) := by
  have : ∃ bs, blsD ds = some bs ∧ bs.all id = true := by
    clear h
    induction ds with
    | nil => exact ⟨[], rfl, rfl⟩
    | cons d ds ih =>
      obtain ⟨bs, h1, h2⟩ := ih fun d hd => t d (List.mem_cons_of_mem _ hd)
      have := t d List.mem_cons_self
      subst this
      exact ⟨true :: bs, by simp only [blsD, h1, Option.map_some], by simpa using h2⟩
  obtain ⟨bs, h1, h2⟩ := this
  show ((listAt S n).bind fun xs => (blsD xs).map fun bs => (D.bl (bs.all id), S)) = _
  rw [h]
  show ((blsD ds).map fun bs => (D.bl (bs.all id), S)) = _
  rw [h1]
  show some (D.bl (bs.all id), S) = _
  rw [h2]
theorem b_allB {n : Nat} {S : Store} {bs : List Bool} (h : listAt S n = some (bs.map D.bl)) : biop .all [.ref n] S = some (.bl (bs.all id), S) := by
  have h1 : blsD (bs.map D.bl) = some bs := by
    clear h
    induction bs with
    | nil => rfl
    | cons b bs ih => simp only [List.map_cons, blsD, ih, Option.map_some]
  show ((listAt S n).bind fun xs => (blsD xs).map fun bs => (D.bl (bs.all id), S)) = _
  rw [h]
  show ((blsD (bs.map D.bl)).map fun bs => (D.bl (bs.all id), S)) = _
  rw [h1]; rfl
theorem itv_tup {q : Pr} {W k : Nat} {a : C} {e : Env'} {S S1 : Store} {ds : List D} (h : ev (pm q W k) a e S = some (.tup ds, S1)) : ev (pm q W k) (.itv a) e S = some (itD ds [], S1) := er_itv h rfl
theorem itv_lst {q : Pr} {W k : Nat} {a : C} {e : Env'} {S S1 : Store} {ds : List D} {n : Nat} (h : ev (pm q W k) a e S = some (.ref n, S1)) (hn : listAt S1 n = some ds) : ev (pm q W k) (.itv a) e S = some (itD ds [.tup [.ref n, .tup ds]], S1) :=
  er_itv h (by show (listAt S1 n).map _ = _; rw [hn]; rfl)
theorem Kp.at {S S' : Store} {n : Nat} {ds : List D} (k : Kp [] S S') (h : listAt S n = some ds) : listAt S' n = some ds := by
  unfold listAt at h ⊢
  split at h
  · rename_i xs e; rw [k _ _ (by simp) e]; exact h
  · rename_i xs e; rw [k _ _ (by simp) e]; exact h
  · cases h
theorem chk_lst {S S1 : Store} {n : Nat} {ds : List D} (hn : listAt S1 n = some ds) (k : Kp [] S1 S) : chks S [.tup [.ref n, .tup ds]] = true := by
  simp only [chks, chk1, k.at hn, D.beqs_refl, Bool.and_true]
theorem ty_ref {n : Nat} {S : Store} {ds : List D} {t : Ty} (h : listAt S n = some ds) : tyop (.ref n) t S = some (match t with | .list => true | _ => false) := by
  show (listAt S n).map _ = _
  rw [h]; rfl
theorem er_callv {q : Pr} {W k : Nat} {e : Env'} {S S1 S2 : Store} {a b : C} {x : Str} {i : Nat} {ds : List D} {w : D × Store} (h1 : ev (pm q W k) a e S = some (.fn x, S1)) (h2 : ev (pm q W k) b e S1 = some (.tup ds, S2)) (hx : q.fx x = some i) (h3 : run q W k i ds S2 = some w) :
    ev (pm q W k) (.callv a b) e S = some w := by
  simp only [ev, h1, h2, Option.bind_some, hx]
  exact h3
theorem c_isN {S : Store} : cmpop .is_ .non .non S = some true := rfl
theorem c_isnN {S : Store} : cmpop .isn .non .non S = some false := rfl
theorem c_isT {S : Store} {xs : List D} : cmpop .is_ (.tup xs) .non S = some false := rfl
theorem c_isnT {S : Store} {xs : List D} : cmpop .isn (.tup xs) .non S = some true := rfl
theorem c_isB {S : Store} {a b : Bool} : cmpop .is_ (.bl a) (.bl b) S = some (decide (a = b)) := rfl
theorem rng0 (n : Nat) : rng 0 n = (List.range n).map fun (i : Nat) => D.int (i : Int) := by
  unfold rng
  congr 1
  funext i
  simp
theorem er_rng {q : Pr} {W k : Nat} {e : Env'} {S S1 : Store} {a : C} {n : Nat} (h : ev (pm q W k) a e S = some (.tup [.int (n : Int)], S1)) (hn : n < 2 ^ 62) : ev (pm q W k) (.irng a) e S = some (itD ((List.range n).map fun (i : Nat) => D.int (i : Int)) [], S1) := by
  refine er_irng h ?_
  have h1 : decide (-(2 ^ 62) ≤ (n : Int)) = true := decide_eq_true (by omega)
  have h2 : decide ((n : Int) < 2 ^ 62) = true := decide_eq_true (by omega)
  simp only [rngs, h1, h2, Bool.and_self, if_true, Int.toNat_natCast, rng0]
theorem atN {xs : List D} {n : Nat} {d : D} (h : xs[n]? = some d) : atI xs (n : Int) = some d := at_nat h
theorem at_last {xs : List D} {d : D} : atI (xs ++ [d]) (-1) = some d := by
  unfold atI ixN
  have : ((xs ++ [d]).length : Int) = xs.length + 1 := by simp
  rw [if_neg (by decide), if_pos (by omega), this]
  have e : (-1 + ((xs.length : Int) + 1)).toNat = xs.length := by omega
  rw [e]
  simp
end Tm
namespace Tm
open PySem L2
theorem er_env {q : Pr} {W k : Nat} {e e' : Env'} {S : Store} {c : C} {w : D × Store} (he : e = e') (h : ev (pm q W k) c e' S = some w) : ev (pm q W k) c e S = some w := by subst he; exact h
theorem er_izipS {q : Pr} {W k : Nat} {e : Env'} {S S1 S2 : Store} {a b : C} {xs : List D} {z : Str} (h1 : ev (pm q W k) a e S = some (.tup xs, S1)) (h2 : ev (pm q W k) b e S1 = some (.str z, S2)) : ev (pm q W k) (.izip a b) e S = some (itD (zipF xs (z.cps.toList.map fun c => D.str ⟨#[c]⟩)) [], S2) := by
  simp only [ev, h1, h2, Option.bind_some]
theorem er_izipT {q : Pr} {W k : Nat} {e : Env'} {S S1 S2 : Store} {a b : C} {xs ys : List D} (h1 : ev (pm q W k) a e S = some (.tup xs, S1)) (h2 : ev (pm q W k) b e S1 = some (.tup ys, S2)) : ev (pm q W k) (.izip a b) e S = some (itD (zipF xs ys) [], S2) := by
  simp only [ev, h1, h2, Option.bind_some]
theorem pk5 {a b c d e : D} : pick [0, 1, 2, 3, 4] ([a, b, c, d, e] ++ []) = [a, b, c, d, e] := rfl
theorem c_ninT {S : Store} {x : D} {xs : List D} {t : Bool} (hx : isScal x = true) (hs : xs.all isScal = true) (ht : (xs.any fun y => scEq y x) = t) : cmpop .nin x (.tup xs) S = some (!t) := by
  show (inD S x (.tup xs)).map (!·) = some (!t)
  simp only [inD, hx, hs, ht, Bool.and_self, if_true, Option.map_some]
end Tm

set_option Elab.async false
set_option linter.all false
set_option maxRecDepth 100000
namespace Tm
open PySem L2
def b_15 : St := (.seq (.ret (.and_ (.isty (.var 0) .int) (.not_ (.isty (.var 0) .bool))))
  .skip)
def b_16 : St := (.seq (.ret (.and_ (.call 15 [0] (.cons (.var 0) .nil) .nil) (.chain .le .le (.var 1) (.var 0) (.var 2))))
  .skip)
def b_17 : St := (.seq (.ret (.call 16 [0, 1, 2] (.cons (.var 0) (.cons (.lit (.int 0)) (.cons (.lit (.int 65535)) .nil))) .nil))
  .skip)
def b_18 : St := (.seq (.ret (.and_ (.isty (.var 0) .tuple) (.cmp .eq (.bi .len (.cons (.var 0) .nil)) (.var 1))))
  .skip)
def b_19 : St := (.seq (.ret (.and_ (.call 18 [0, 1] (.cons (.var 0) (.cons (.var 1) .nil)) .nil) (.bi .all (.cons (.lc (.itv (.var 0)) (.nm 2) (.lit (.bl true)) (.call 17 [0] (.cons (.var 2) .nil) .nil) [2]) .nil))))
  .skip)
def b_40 : St := (.seq (.ifs (.isty (.var 0) .list) (.seq (.ret (.lc (.itv (.var 0)) (.nm 1) (.lit (.bl true)) (.call 40 [0] (.cons (.var 1) .nil) .nil) [1]))
  .skip) .skip)
  (.seq (.ifs (.isty (.var 0) .tuple) (.seq (.ret (.bi .tuple (.cons (.lc (.itv (.var 0)) (.nm 1) (.lit (.bl true)) (.call 40 [0] (.cons (.var 1) .nil) .nil) [1]) .nil)))
  .skip) .skip)
  (.seq (.ret (.var 0))
  .skip)))
def b_56 : St := (.seq (.ret (.bin .add (.bin .add (.slc (.var 0) .absent (.var 1)) (.tup (.cons (.var 2) .nil))) (.slc (.var 0) (.bin .add (.var 1) (.lit (.int 1))) .absent)))
  .skip)
def b_20 : St := (.seq (.ifs (.or_ (.not_ (.isty (.var 0) .tuple)) (.cmp .eq (.bi .len (.cons (.var 0) .nil)) (.lit (.int 0)))) (.seq (.ret (.lit (.bl false)))
  .skip) .skip)
  (.seq (.ifs (.or_ (.not_ (.isty (.idx (.var 0) (.lit (.int 0))) .str)) (.kin 1 true (.idx (.var 0) (.lit (.int 0))))) (.seq (.ret (.lit (.bl false)))
  .skip) .skip)
  (.seq (.asg (.nm 2) (.kget 1 (.idx (.var 0) (.lit (.int 0)))))
  (.seq (.ifs (.cmp .ne (.bi .len (.cons (.var 0) .nil)) (.bin .add (.bi .len (.cons (.var 2) .nil)) (.lit (.int 1)))) (.seq (.ret (.lit (.bl false)))
  .skip) .skip)
  (.seq (.ret (.bi .all (.cons (.lc (.izip (.slc (.var 0) (.lit (.int 1)) .absent) (.var 2)) (.tp 2 (.cons (.nm 3) (.cons (.nm 4) .nil))) (.lit (.bl true)) (.call 16 [0, 1, 2] (.cons (.var 3) (.cons (.lit (.int 0)) (.cons (.kgetd 2 (.var 4) (.var 1)) .nil))) .nil) [3, 4]) .nil)))
  .skip)))))
def b_21 : St := (.seq (.ifs (.or_ (.not_ (.isty (.var 0) .tuple)) (.cmp .gt (.bi .len (.cons (.var 0) .nil)) (.lit (.int 40)))) (.seq (.ret (.lit (.bl false)))
  .skip) .skip)
  (.seq (.ret (.bi .all (.cons (.lc (.itv (.var 0)) (.nm 1) (.lit (.bl true)) (.call 20 [0, 1] (.cons (.var 1) (.cons (.bi .len (.cons (.var 0) .nil)) .nil)) .nil) [1]) .nil)))
  .skip))
def b_22 : St := (.seq (.ret (.and_ (.isty (.var 0) .tuple) (.and_ (.chain .le .le (.lit (.int 1)) (.bi .len (.cons (.var 0) .nil)) (.lit (.int 4))) (.bi .all (.cons (.lc (.itv (.var 0)) (.nm 1) (.lit (.bl true)) (.call 21 [0] (.cons (.var 1) .nil) .nil) [1]) .nil)))))
  .skip)
def b_24 : St := (.seq (.ret (.and_ (.isty (.var 0) .tuple) (.and_ (.chain .le .le (.lit (.int 1)) (.bi .len (.cons (.var 0) .nil)) (.lit (.int 32))) (.call 19 [0, 1] (.cons (.var 0) (.cons (.bi .len (.cons (.var 0) .nil)) .nil)) .nil))))
  .skip)
def b_0 : St := (.seq (.ret (.bi .tuple (.cons (.lc (.itv (.kgetd 0 (.idx (.var 0) (.lit (.int 0))) (.tup .nil))) (.nm 1) (.lit (.bl true)) (.idx (.var 0) (.var 1)) [1]) .nil)))
  .skip)
def b_2 : St := (.seq (.ret (.bin .mod (.bin .add (.var 1) (.var 2)) (.var 0)))
  .skip)
def b_3 : St := (.seq (.asg (.nm 2) (.idx (.var 0) (.lit (.int 0))))
  (.seq (.ifs (.cmp .eq (.var 2) (.lit (.str "set"))) (.seq (.ret (.idx (.var 0) (.lit (.int 2))))
  .skip) .skip)
  (.seq (.asg (.tp 2 (.cons (.nm 3) (.cons (.nm 4) .nil))) (.var 1))
  (.seq (.ifs (.cmp .eq (.var 2) (.lit (.str "add"))) (.seq (.ret (.bin .mod (.bin .add (.var 3) (.var 4)) (.lit (.int 65536))))
  .skip) .skip)
  (.seq (.ifs (.cmp .eq (.var 2) (.lit (.str "sub"))) (.seq (.ret (.bin .mod (.bin .sub (.var 3) (.var 4)) (.lit (.int 65536))))
  .skip) .skip)
  (.seq (.ifs (.cmp .eq (.var 2) (.lit (.str "and"))) (.seq (.ret (.bin .band (.var 3) (.var 4)))
  .skip) .skip)
  (.seq (.ifs (.cmp .eq (.var 2) (.lit (.str "xor"))) (.seq (.ret (.bin .bxor (.var 3) (.var 4)))
  .skip) .skip)
  (.seq (.ret (.ife (.cmp .lt (.var 3) (.var 4)) (.lit (.int 1)) (.lit (.int 0))))
  .skip))))))))
def b_57 : St := (.seq (.ifs (.not_ (.call 22 [0] (.cons (.var 0) .nil) .nil)) (.seq .bad
  .skip) .skip)
  .skip)
def b_58 : St := (.seq (.ifs (.not_ (.call 24 [0] (.cons (.var 0) .nil) .nil)) (.seq .bad
  .skip) .skip)
  .skip)
def b_59 : St := (.seq (.ifs (.not_ (.call 16 [0, 1, 2] (.cons (.var 0) (.cons (.var 1) (.cons (.var 2) .nil))) .nil)) (.seq .bad
  .skip) .skip)
  .skip)
def b_60 : St := (.seq (.ret (.tup (.cons (.bi .tuple (.cons (.lc (.itv (.var 0)) (.nm 2) (.lit (.bl true)) (.tup (.cons (.lit (.int 0)) (.cons (.glob 4) (.cons (.tup .nil) .nil)))) [2]) .nil)) (.cons (.var 1) .nil))))
  .skip)
def b_61 : St := (.seq (.ret (.or_ (.cmp .eq (.var 1) (.bi .len (.cons (.var 0) .nil))) (.cmp .eq (.idx (.idx (.var 0) (.var 1)) (.lit (.int 0))) (.lit (.str "stop")))))
  .skip)
def b_62 : St := (.seq (.ret (.bi .all (.cons (.lc (.izip (.var 0) (.idx (.var 1) (.lit (.int 0)))) (.tp 2 (.cons (.nm 2) (.cons (.nm 3) .nil))) (.lit (.bl true)) (.and_ (.call 61 [0, 1] (.cons (.var 2) (.cons (.idx (.var 3) (.lit (.int 0))) .nil)) .nil) (.cmp .eq (.bi .len (.cons (.idx (.var 3) (.lit (.int 2))) .nil)) (.lit (.int 0)))) [2, 3]) .nil)))
  .skip)
def b_63 : St := (.seq (.ret (.call 2 [0, 1, 2] (.cons (.var 2) (.cons (.idx (.var 1) (.idx (.var 0) (.neg (.lit (.int 2))))) (.cons (.idx (.var 0) (.neg (.lit (.int 1)))) .nil))) .nil))
  .skip)
def b_64 : St := (.seq (.ret (.ife (.cmp .eq (.idx (.var 0) (.lit (.int 0))) (.lit (.str "swap"))) (.var 2) (.bin .mod (.bin .add (.var 1) (.var 2)) (.lit (.int 65536)))))
  .skip)
def b_65 : St := (.seq (.ifs (.cmp .eq (.idx (.var 0) (.lit (.int 0))) (.lit (.str "jump"))) (.seq (.ret (.idx (.var 0) (.lit (.int 1))))
  .skip) .skip)
  (.seq (.ifs (.and_ (.cmp .eq (.idx (.var 0) (.lit (.int 0))) (.lit (.str "ifzero"))) (.cmp .eq (.idx (.var 2) (.idx (.var 0) (.lit (.int 1)))) (.lit (.int 0)))) (.seq (.ret (.idx (.var 0) (.lit (.int 2))))
  .skip) .skip)
  (.seq (.ret (.bin .add (.var 1) (.lit (.int 1))))
  .skip)))
def b_884 : St := (.seq (.for_ (.irev (.var 0)) (.nm 3) (.seq (.ifs (.and_ (.cmp .isn (.var 3) (.lit .non)) (.cmp .eq (.idx (.var 3) (.lit (.int 0))) (.var 2))) (.seq (.ret (.idx (.var 3) (.lit (.int 1))))
  .skip) .skip)
  .skip))
  (.seq (.ret (.idx (.var 1) (.var 2)))
  .skip))
def b_67 : St := (.seq (.asg (.tp 3 (.cons (.nm 3) (.cons (.nm 4) (.cons (.nm 5) .nil)))) (.idx (.idx (.var 1) (.lit (.int 0))) (.var 2)))
  (.seq (.ifs (.call 61 [0, 1] (.cons (.idx (.var 0) (.var 2)) (.cons (.var 3) .nil)) .nil) (.seq (.ret (.lit (.bl false)))
  .skip) .skip)
  (.seq (.ret (.or_ (.cmp .eq (.bi .len (.cons (.var 5) .nil)) (.lit (.int 0))) (.cmp .nin (.idx (.idx (.idx (.var 0) (.var 2)) (.var 3)) (.lit (.int 0))) (.glob 5))))
  .skip)))
def b_68 : St := (.seq (.ret (.cmp .gt (.bi .len (.cons (.idx (.idx (.idx (.var 0) (.lit (.int 0))) (.var 1)) (.lit (.int 2))) .nil)) (.lit (.int 0))))
  .skip)
def b_69 : St := (.seq (.asg (.tp 2 (.cons (.nm 3) (.cons (.nm 4) .nil))) (.var 1))
  (.seq (.asg (.tp 3 (.cons (.nm 5) (.cons (.nm 6) (.cons (.nm 7) .nil)))) (.idx (.var 3) (.var 2)))
  (.seq (.asg (.nm 8) (.idx (.idx (.var 0) (.var 2)) (.var 5)))
  (.seq (.asg (.nm 9) (.idx (.var 8) (.lit (.int 0))))
  (.seq (.asg (.nm 10) (.call 65 [0, 1, 2] (.cons (.var 8) (.cons (.var 5) (.cons (.var 6) .nil))) .nil))
  (.seq (.ifs (.or_ (.cmp .eq (.var 9) (.lit (.str "set"))) (.cmp .in_ (.var 9) (.glob 3))) (.seq (.asg (.nm 11) (.call 3 [0, 1] (.cons (.var 8) (.cons (.bi .tuple (.cons (.lc (.itv (.call 0 [0] (.cons (.var 8) .nil) .nil)) (.nm 14) (.lit (.bl true)) (.idx (.var 6) (.var 14)) [14]) .nil)) .nil)) .nil))
  (.seq (.asg (.nm 6) (.call 56 [0, 1, 2] (.cons (.var 6) (.cons (.idx (.var 8) (.lit (.int 1))) (.cons (.var 11) .nil))) .nil))
  .skip)) (.seq (.ifs (.cmp .in_ (.var 9) (.tup (.cons (.lit (.str "load")) (.cons (.lit (.str "store")) (.cons (.lit (.str "swap")) (.cons (.lit (.str "addto")) .nil)))))) (.seq (.asg (.nm 12) (.call 63 [0, 1, 2] (.cons (.var 8) (.cons (.var 6) (.cons (.bi .len (.cons (.var 4) .nil)) .nil))) .nil))
  (.seq (.ifs (.cmp .eq (.var 9) (.lit (.str "store"))) (.seq (.asg (.nm 7) (.bin .add (.var 7) (.tup (.cons (.tup (.cons (.var 12) (.cons (.idx (.var 6) (.idx (.var 8) (.lit (.int 1)))) .nil))) .nil))))
  .skip) (.seq (.ifs (.cmp .eq (.var 9) (.lit (.str "load"))) (.seq (.asg (.nm 6) (.call 56 [0, 1, 2] (.cons (.var 6) (.cons (.idx (.var 8) (.lit (.int 1))) (.cons (.call 884 [0, 1, 2] (.cons (.var 7) (.cons (.var 4) (.cons (.var 12) .nil))) .nil) .nil))) .nil))
  .skip) (.seq (.asg (.nm 13) (.idx (.var 4) (.var 12)))
  (.seq (.asg (.nm 4) (.call 56 [0, 1, 2] (.cons (.var 4) (.cons (.var 12) (.cons (.call 64 [0, 1, 2] (.cons (.var 8) (.cons (.var 13) (.cons (.idx (.var 6) (.idx (.var 8) (.lit (.int 2)))) .nil))) .nil) .nil))) .nil))
  (.seq (.asg (.nm 6) (.call 56 [0, 1, 2] (.cons (.var 6) (.cons (.idx (.var 8) (.lit (.int 1))) (.cons (.var 13) .nil))) .nil))
  .skip))))
  .skip))
  .skip)) .skip)
  .skip))
  (.seq (.ret (.tup (.cons (.call 56 [0, 1, 2] (.cons (.var 3) (.cons (.var 2) (.cons (.tup (.cons (.var 10) (.cons (.var 6) (.cons (.var 7) .nil)))) .nil))) .nil) (.cons (.var 4) .nil))))
  .skip)))))))
def b_70 : St := (.seq (.asg (.tp 2 (.cons (.nm 2) (.cons (.nm 3) .nil))) (.var 0))
  (.seq (.asg (.tp 3 (.cons (.nm 4) (.cons (.nm 5) (.cons (.nm 6) .nil)))) (.idx (.var 2) (.var 1)))
  (.seq (.asg (.tp 2 (.cons (.nm 7) (.cons (.nm 8) .nil))) (.idx (.var 6) (.lit (.int 0))))
  (.seq (.ret (.tup (.cons (.call 56 [0, 1, 2] (.cons (.var 2) (.cons (.var 1) (.cons (.tup (.cons (.var 4) (.cons (.var 5) (.cons (.slc (.var 6) (.lit (.int 1)) .absent) .nil)))) .nil))) .nil) (.cons (.call 56 [0, 1, 2] (.cons (.var 3) (.cons (.var 7) (.cons (.var 8) .nil))) .nil) .nil))))
  .skip))))
def b_71 : St := (.seq (.asg (.nm 2) (.lst .nil))
  (.seq (.for_ (.irng (.cons (.bi .len (.cons (.var 0) .nil)) .nil)) (.nm 3) (.seq (.ifs (.call 67 [0, 1, 2] (.cons (.var 0) (.cons (.var 1) (.cons (.var 3) .nil))) .nil) (.seq (.drop (.app (.var 2) (.tup (.cons (.lit (.str "do")) (.cons (.var 3) .nil)))))
  .skip) .skip)
  (.seq (.ifs (.call 68 [0, 1] (.cons (.var 1) (.cons (.var 3) .nil)) .nil) (.seq (.drop (.app (.var 2) (.tup (.cons (.lit (.str "flush")) (.cons (.var 3) .nil)))))
  .skip) .skip)
  .skip)))
  (.seq (.ret (.var 2))
  .skip)))
def b_885 : St := (.seq (.ifs (.or_ (.not_ (.call 18 [0, 1] (.cons (.var 2) (.cons (.lit (.int 2)) .nil)) .nil)) (.or_ (.not_ (.isty (.idx (.var 2) (.lit (.int 0))) .str)) (.not_ (.call 16 [0, 1, 2] (.cons (.idx (.var 2) (.lit (.int 1))) (.cons (.lit (.int 0)) (.cons (.bin .sub (.bi .len (.cons (.var 0) .nil)) (.lit (.int 1))) .nil))) .nil)))) (.seq (.ret (.lit (.bl false)))
  .skip) .skip)
  (.seq (.ifs (.cmp .eq (.idx (.var 2) (.lit (.int 0))) (.lit (.str "do"))) (.seq (.ret (.call 67 [0, 1, 2] (.cons (.var 0) (.cons (.var 1) (.cons (.idx (.var 2) (.lit (.int 1))) .nil))) .nil))
  .skip) .skip)
  (.seq (.ret (.and_ (.cmp .eq (.idx (.var 2) (.lit (.int 0))) (.lit (.str "flush"))) (.call 68 [0, 1] (.cons (.var 1) (.cons (.idx (.var 2) (.lit (.int 1))) .nil)) .nil)))
  .skip)))
def b_73 : St := (.seq (.ret (.ife (.cmp .eq (.idx (.var 2) (.lit (.int 0))) (.lit (.str "do"))) (.call 69 [0, 1, 2] (.cons (.var 0) (.cons (.var 1) (.cons (.idx (.var 2) (.lit (.int 1))) .nil))) .nil) (.call 70 [0, 1] (.cons (.var 1) (.cons (.idx (.var 2) (.lit (.int 1))) .nil)) .nil)))
  .skip)
def b_886 : St := (.seq (.for_ (.itv (.var 2)) (.nm 5) (.seq (.ifs (.not_ (.callv (.var 3) (.cons (.var 0) (.cons (.var 1) (.cons (.var 5) .nil))))) (.seq .bad
  .skip) .skip)
  (.seq (.asg (.nm 1) (.callv (.var 4) (.cons (.var 0) (.cons (.var 1) (.cons (.var 5) .nil)))))
  .skip)))
  (.seq (.ret (.var 1))
  .skip))
def b_74 : St := (.seq (.drop (.call 57 [0] (.cons (.var 0) .nil) .nil))
  (.seq (.drop (.call 58 [0] (.cons (.var 1) .nil) .nil))
  (.seq (.ret (.call 60 [0, 1] (.cons (.var 0) (.cons (.var 1) .nil)) .nil))
  .skip)))
def b_75 : St := (.seq (.drop (.call 57 [0] (.cons (.var 0) .nil) .nil))
  (.seq (.ret (.call 71 [0, 1] (.cons (.var 0) (.cons (.var 1) .nil)) .nil))
  .skip))
def b_887 : St := (.seq (.drop (.call 57 [0] (.cons (.var 0) .nil) .nil))
  (.seq (.ret (.call 886 [0, 1, 2, 3, 4] (.cons (.var 0) (.cons (.var 1) (.cons (.lst (.cons (.var 2) .nil)) (.cons (.glob 13) (.cons (.glob 14) .nil))))) .nil))
  .skip))
def b_77 : St := (.seq (.drop (.call 57 [0] (.cons (.var 0) .nil) .nil))
  (.seq (.drop (.call 59 [0, 1, 2] (.cons (.var 2) (.cons (.lit (.int 0)) (.cons (.bin .sub (.bi .len (.cons (.var 0) .nil)) (.lit (.int 1))) .nil))) .nil))
  (.seq (.ret (.call 61 [0, 1] (.cons (.idx (.var 0) (.var 2)) (.cons (.idx (.idx (.idx (.var 1) (.lit (.int 0))) (.var 2)) (.lit (.int 0))) .nil)) .nil))
  .skip)))
def b_78 : St := (.seq (.drop (.call 57 [0] (.cons (.var 0) .nil) .nil))
  (.seq (.ret (.call 62 [0, 1] (.cons (.var 0) (.cons (.var 1) .nil)) .nil))
  .skip))
def b_79 : St := (.seq (.asg (.nm 3) (.lst (.cons (.lit (.str "set")) (.cons (.lit (.str "set")) (.cons (.lit (.str "add")) (.cons (.lit (.str "sub")) (.cons (.lit (.str "and")) (.cons (.lit (.str "xor")) (.cons (.lit (.str "below")) (.cons (.lit (.str "load")) (.cons (.lit (.str "load")) (.cons (.lit (.str "load")) (.cons (.lit (.str "store")) (.cons (.lit (.str "store")) (.cons (.lit (.str "store")) .nil)))))))))))))))
  (.seq (.asg (.nm 3) (.bin .add (.var 3) (.lst (.cons (.lit (.str "store")) (.cons (.lit (.str "swap")) (.cons (.lit (.str "addto")) (.cons (.lit (.str "fence")) (.cons (.lit (.str "gap")) (.cons (.lit (.str "ifzero")) (.cons (.lit (.str "jump")) (.cons (.lit (.str "stop")) .nil)))))))))))
  (.seq (.ifs (.cmp .eq (.call 5 [0, 1] (.cons (.var 0) (.cons (.lit (.int 4)) .nil)) .nil) (.lit (.int 0))) (.seq (.asg (.nm 3) (.lst (.cons (.lit (.str "set")) (.cons (.lit (.str "set")) (.cons (.lit (.str "sub")) (.cons (.lit (.str "load")) (.cons (.lit (.str "load")) (.cons (.lit (.str "store")) (.cons (.lit (.str "store")) (.cons (.lit (.str "store")) .nil))))))))))
  .skip) .skip)
  (.seq (.asg (.nm 4) (.lst .nil))
  (.seq (.for_ (.irng (.cons (.var 1) .nil)) (.nm 5) (.seq (.drop (.app (.var 4) (.call 7 [0, 1, 2, 3] (.cons (.var 0) (.cons (.idx (.var 3) (.call 5 [0, 1] (.cons (.var 0) (.cons (.bi .len (.cons (.var 3) .nil)) .nil)) .nil)) (.cons (.var 2) (.cons (.var 1) .nil)))) .nil)))
  .skip))
  (.seq (.ret (.bi .tuple (.cons (.var 4) .nil)))
  .skip))))))
def b_80 : St := (.seq (.asg (.nm 3) (.lc (.irng (.cons (.bin .add (.lit (.int 1)) (.call 5 [0, 1] (.cons (.var 0) (.cons (.lit (.int 4)) .nil)) .nil)) .nil)) (.nm 4) (.lit (.bl true)) (.call 5 [0, 1] (.cons (.var 0) (.cons (.bin .add (.var 1) (.lit (.int 1))) .nil)) .nil) [4]))
  (.seq (.ifs (.cmp .eq (.call 5 [0, 1] (.cons (.var 0) (.cons (.lit (.int 8)) .nil)) .nil) (.lit (.int 0))) (.seq (.seti (.var 2) (.var 3) (.call 5 [0, 1] (.cons (.var 0) (.cons (.bi .len (.cons (.var 3) .nil)) .nil)) .nil))
  .skip) .skip)
  (.seq (.ret (.bi .tuple (.cons (.lc (.itv (.var 3)) (.nm 5) (.lit (.bl true)) (.call 79 [0, 1, 2] (.cons (.var 0) (.cons (.var 5) (.cons (.idx (.lst (.cons (.lit (.int 8)) (.cons (.lit (.int 3)) (.cons (.lit (.int 2)) .nil)))) (.call 5 [0, 1] (.cons (.var 0) (.cons (.lit (.int 3)) .nil)) .nil)) .nil))) .nil) [5]) .nil)))
  .skip)))
def b_81 : St := (.seq (.asg (.nm 1) (.idx (.lst (.cons (.bin .add (.lit (.int 1)) (.call 5 [0, 1] (.cons (.var 0) (.cons (.lit (.int 4)) .nil)) .nil)) (.cons (.bin .add (.lit (.int 1)) (.call 5 [0, 1] (.cons (.var 0) (.cons (.lit (.int 32)) .nil)) .nil)) .nil))) (.bi .int (.cons (.cmp .eq (.call 5 [0, 1] (.cons (.var 0) (.cons (.lit (.int 4)) .nil)) .nil) (.lit (.int 0))) .nil))))
  (.seq (.ret (.bi .tuple (.cons (.lc (.irng (.cons (.var 1) .nil)) (.nm 2) (.lit (.bl true)) (.call 6 [0] (.cons (.var 0) .nil) .nil) [2]) .nil)))
  .skip))
def b_82 : St := (.seq (.ret (.lst (.cons (.lc (.itv (.var 0)) (.nm 2) (.lit (.bl true)) (.lst (.cons (.lit (.int 0)) (.cons (.bin .mul (.lst (.cons (.lit (.int 0)) .nil)) (.lit (.int 8))) (.cons (.lst .nil) .nil)))) [2]) (.cons (.bi .list (.cons (.var 1) .nil)) .nil))))
  .skip)
def b_83 : St := (.seq (.asg (.nm 3) (.idx (.idx (.idx (.var 1) (.lit (.int 0))) (.var 2)) (.lit (.int 0))))
  (.seq (.ifs (.or_ (.cmp .ge (.var 3) (.bi .len (.cons (.idx (.var 0) (.var 2)) .nil))) (.cmp .eq (.idx (.idx (.idx (.var 0) (.var 2)) (.var 3)) (.lit (.int 0))) (.lit (.str "stop")))) (.seq (.ret (.lit .non))
  .skip) .skip)
  (.seq (.ret (.idx (.idx (.var 0) (.var 2)) (.var 3)))
  .skip)))
def b_84 : St := (.seq (.asg (.nm 2) (.lst .nil))
  (.seq (.for_ (.irng (.cons (.bi .len (.cons (.var 0) .nil)) .nil)) (.nm 3) (.seq (.asg (.tp 2 (.cons (.nm 4) (.cons (.nm 5) .nil))) (.tup (.cons (.call 83 [0, 1, 2] (.cons (.var 0) (.cons (.var 1) (.cons (.var 3) .nil))) .nil) (.cons (.bi .len (.cons (.idx (.idx (.idx (.var 1) (.lit (.int 0))) (.var 3)) (.lit (.int 2))) .nil)) .nil))))
  (.seq (.ifs (.and_ (.cmp .isn (.var 4) (.lit .non)) (.or_ (.cmp .eq (.var 5) (.lit (.int 0))) (.cmp .nin (.idx (.var 4) (.lit (.int 0))) (.lst (.cons (.lit (.str "fence")) (.cons (.lit (.str "swap")) (.cons (.lit (.str "addto")) .nil))))))) (.seq (.drop (.app (.var 2) (.tup (.cons (.lit (.str "do")) (.cons (.var 3) .nil)))))
  .skip) .skip)
  (.seq (.ifs (.cmp .gt (.var 5) (.lit (.int 0))) (.seq (.drop (.app (.var 2) (.tup (.cons (.lit (.str "flush")) (.cons (.var 3) .nil)))))
  .skip) .skip)
  .skip))))
  (.seq (.ret (.var 2))
  .skip)))
def b_85 : St := (.seq (.asg (.tp 2 (.cons (.nm 2) (.cons (.nm 3) .nil))) (.tup (.cons (.idx (.var 1) (.idx (.var 0) (.lit (.int 2)))) (.cons (.idx (.var 1) (.idx (.var 0) (.lit (.int 3)))) .nil))))
  (.seq (.ifs (.cmp .eq (.idx (.var 0) (.lit (.int 0))) (.lit (.str "add"))) (.seq (.ret (.bin .mod (.bi .int (.cons (.bin .add (.var 2) (.var 3)) .nil)) (.lit (.int 65536))))
  .skip) .skip)
  (.seq (.ifs (.cmp .eq (.idx (.var 0) (.lit (.int 0))) (.lit (.str "sub"))) (.seq (.ret (.bin .mod (.bi .int (.cons (.bin .sub (.var 2) (.var 3)) .nil)) (.lit (.int 65536))))
  .skip) .skip)
  (.seq (.ifs (.cmp .eq (.idx (.var 0) (.lit (.int 0))) (.lit (.str "and"))) (.seq (.ret (.bin .band (.var 2) (.var 3)))
  .skip) .skip)
  (.seq (.ifs (.cmp .eq (.idx (.var 0) (.lit (.int 0))) (.lit (.str "xor"))) (.seq (.ret (.bin .bxor (.var 2) (.var 3)))
  .skip) .skip)
  (.seq (.ret (.bi .int (.cons (.cmp .lt (.var 2) (.var 3)) .nil)))
  .skip))))))
def b_86 : St := (.seq (.asg (.tp 3 (.cons (.nm 3) (.cons (.nm 4) (.cons (.nm 5) .nil)))) (.tup (.cons (.idx (.idx (.var 1) (.lit (.int 0))) (.var 2)) (.cons (.idx (.var 1) (.lit (.int 1))) (.cons (.call 83 [0, 1, 2] (.cons (.var 0) (.cons (.var 1) (.cons (.var 2) .nil))) .nil) .nil)))))
  (.seq (.asg (.tp 3 (.cons (.nm 6) (.cons (.nm 7) (.cons (.nm 8) .nil)))) (.tup (.cons (.idx (.var 3) (.lit (.int 1))) (.cons (.idx (.var 5) (.lit (.int 0))) (.cons (.lit (.int 0)) .nil)))))
  (.seq (.seti (.bin .add (.idx (.var 3) (.lit (.int 0))) (.lit (.int 1))) (.var 3) (.lit (.int 0)))
  (.seq (.ifs (.cmp .in_ (.var 7) (.lst (.cons (.lit (.str "load")) (.cons (.lit (.str "store")) .nil)))) (.seq (.asg (.nm 8) (.bin .mod (.bi .int (.cons (.bin .add (.idx (.var 6) (.idx (.var 5) (.lit (.int 2)))) (.idx (.var 5) (.lit (.int 3)))) .nil)) (.bi .len (.cons (.var 4) .nil))))
  .skip) .skip)
  (.seq (.ifs (.cmp .in_ (.var 7) (.lst (.cons (.lit (.str "swap")) (.cons (.lit (.str "addto")) .nil)))) (.seq (.asg (.nm 8) (.bin .mod (.bi .int (.cons (.bin .add (.idx (.var 6) (.idx (.var 5) (.lit (.int 3)))) (.idx (.var 5) (.lit (.int 4)))) .nil)) (.bi .len (.cons (.var 4) .nil))))
  .skip) .skip)
  (.seq (.ifs (.cmp .eq (.var 7) (.lit (.str "set"))) (.seq (.seti (.idx (.var 5) (.lit (.int 2))) (.var 6) (.idx (.var 5) (.lit (.int 1))))
  .skip) (.seq (.ifs (.cmp .in_ (.var 7) (.lst (.cons (.lit (.str "add")) (.cons (.lit (.str "sub")) (.cons (.lit (.str "and")) (.cons (.lit (.str "xor")) (.cons (.lit (.str "below")) .nil))))))) (.seq (.seti (.call 85 [0, 1] (.cons (.var 5) (.cons (.var 6) .nil)) .nil) (.var 6) (.idx (.var 5) (.lit (.int 1))))
  .skip) (.seq (.ifs (.cmp .eq (.var 7) (.lit (.str "store"))) (.seq (.seti (.bin .add (.idx (.var 3) (.lit (.int 2))) (.lst (.cons (.tup (.cons (.var 8) (.cons (.idx (.var 6) (.idx (.var 5) (.lit (.int 1)))) .nil))) .nil))) (.var 3) (.lit (.int 2)))
  .skip) (.seq (.ifs (.cmp .eq (.var 7) (.lit (.str "load"))) (.seq (.seti (.idx (.bin .add (.lst (.cons (.idx (.var 4) (.var 8)) .nil)) (.lc (.itv (.idx (.var 3) (.lit (.int 2)))) (.tp 2 (.cons (.nm 11) (.cons (.nm 12) .nil))) (.cmp .eq (.var 11) (.var 8)) (.var 12) [11, 12])) (.neg (.lit (.int 1)))) (.var 6) (.idx (.var 5) (.lit (.int 1))))
  .skip) (.seq (.ifs (.cmp .in_ (.var 7) (.lst (.cons (.lit (.str "swap")) (.cons (.lit (.str "addto")) .nil)))) (.seq (.asg (.tp 2 (.cons (.nm 9) (.cons (.nm 10) .nil))) (.tup (.cons (.idx (.var 4) (.var 8)) (.cons (.idx (.var 6) (.idx (.var 5) (.lit (.int 2)))) .nil))))
  (.seq (.seti (.bin .mod (.bi .int (.cons (.bin .add (.var 10) (.bin .mul (.var 9) (.bi .int (.cons (.cmp .eq (.var 7) (.lit (.str "addto"))) .nil)))) .nil)) (.lit (.int 65536))) (.var 4) (.var 8))
  (.seq (.seti (.var 9) (.var 6) (.idx (.var 5) (.lit (.int 1))))
  .skip))) (.seq (.ifs (.cmp .eq (.var 7) (.lit (.str "jump"))) (.seq (.seti (.idx (.var 5) (.lit (.int 1))) (.var 3) (.lit (.int 0)))
  .skip) (.seq (.ifs (.and_ (.cmp .eq (.var 7) (.lit (.str "ifzero"))) (.cmp .eq (.idx (.var 6) (.idx (.var 5) (.lit (.int 1)))) (.lit (.int 0)))) (.seq (.seti (.idx (.var 5) (.lit (.int 2))) (.var 3) (.lit (.int 0)))
  .skip) .skip)
  .skip))
  .skip))
  .skip))
  .skip))
  .skip))
  .skip))
  .skip))))))
def b_87 : St := (.seq (.asg (.tp 2 (.cons (.nm 2) (.cons (.nm 3) .nil))) (.tup (.cons (.idx (.idx (.var 0) (.lit (.int 0))) (.var 1)) (.cons (.idx (.var 0) (.lit (.int 1))) .nil))))
  (.seq (.asg (.tp 2 (.cons (.nm 4) (.cons (.nm 5) .nil))) (.idx (.idx (.var 2) (.lit (.int 2))) (.lit (.int 0))))
  (.seq (.seti (.slc (.idx (.var 2) (.lit (.int 2))) (.lit (.int 1)) .absent) (.var 2) (.lit (.int 2)))
  (.seq (.seti (.var 5) (.var 3) (.var 4))
  .skip))))
def b_88 : St := (.seq (.ifs (.cmp .eq (.idx (.var 2) (.lit (.int 0))) (.lit (.str "do"))) (.seq (.drop (.call 86 [0, 1, 2] (.cons (.var 0) (.cons (.var 1) (.cons (.idx (.var 2) (.lit (.int 1))) .nil))) .nil))
  .skip) (.seq (.drop (.call 87 [0, 1] (.cons (.var 1) (.cons (.idx (.var 2) (.lit (.int 1))) .nil)) .nil))
  .skip))
  .skip)
def b_89 : St := (.seq (.ret (.tup (.cons (.bi .tuple (.cons (.lc (.itv (.idx (.var 0) (.lit (.int 0)))) (.tp 3 (.cons (.nm 1) (.cons (.nm 2) (.cons (.nm 3) .nil)))) (.lit (.bl true)) (.tup (.cons (.var 1) (.cons (.bi .tuple (.cons (.var 2) .nil)) (.cons (.bi .tuple (.cons (.var 3) .nil)) .nil)))) [1, 2, 3]) .nil)) (.cons (.bi .tuple (.cons (.idx (.var 0) (.lit (.int 1))) .nil)) .nil))))
  .skip)
def b_12 : St := (.seq (.ret (.and_ (.cmp .eq (.var 0) (.var 1)) (.cmp .eq (.bi .repr (.cons (.var 0) .nil)) (.bi .repr (.cons (.var 1) .nil)))))
  .skip)
def b_30 : St := (.seq (.ifs (.var 1) (.seq (.ret (.cmp .is_ (.var 0) (.lit (.bl true))))
  .skip) .skip)
  (.seq (.ret (.cmp .is_ (.var 0) (.lit (.bl false))))
  .skip))
def b_90 : St := (.seq (.asg (.nm 4) (.call 84 [0, 1] (.cons (.var 1) (.cons (.var 3) .nil)) .nil))
  (.seq (.asg (.nm 5) (.call 75 [0, 1] (.cons (.var 1) (.cons (.var 2) .nil)) .nil))
  (.seq (.ifs (.or_ (.not_ (.isty (.var 5) .list)) (.not_ (.call 12 [0, 1] (.cons (.var 5) (.cons (.var 4) .nil)) .nil))) (.seq (.ret (.lit (.bl false)))
  .skip) .skip)
  (.seq (.drop (.app (.var 5) (.tup (.cons (.lit (.str "flush")) (.cons (.lit (.int 0)) .nil)))))
  (.seq (.asg (.tp 2 (.cons (.nm 6) (.cons (.nm 7) .nil))) (.tup (.cons (.call 5 [0, 1] (.cons (.var 0) (.cons (.bi .len (.cons (.var 1) .nil)) .nil)) .nil) (.cons (.cmp .eq (.var 4) (.lst .nil)) .nil))))
  (.seq (.asg (.nm 8) (.cmp .is_ (.call 83 [0, 1, 2] (.cons (.var 1) (.cons (.var 3) (.cons (.var 6) .nil))) .nil) (.lit .non)))
  (.seq (.ifs (.or_ (.not_ (.call 30 [0, 1] (.cons (.call 78 [0, 1] (.cons (.var 1) (.cons (.var 2) .nil)) .nil) (.cons (.var 7) .nil)) .nil)) (.not_ (.call 30 [0, 1] (.cons (.call 78 [1, 0] .nil (.cons (.var 2) (.cons (.var 1) .nil))) (.cons (.var 7) .nil)) .nil))) (.seq (.ret (.lit (.bl false)))
  .skip) .skip)
  (.seq (.ifs (.not_ (.call 30 [0, 1] (.cons (.call 77 [0, 1, 2] (.cons (.var 1) (.cons (.var 2) (.cons (.var 6) .nil))) .nil) (.cons (.var 8) .nil)) .nil)) (.seq (.ret (.lit (.bl false)))
  .skip) .skip)
  (.seq (.ifs (.not_ (.call 30 [0, 1] (.cons (.call 77 [1, 2, 0] .nil (.cons (.var 6) (.cons (.var 1) (.cons (.var 2) .nil)))) (.cons (.var 8) .nil)) .nil)) (.seq (.ret (.lit (.bl false)))
  .skip) .skip)
  (.seq (.ret (.call 12 [0, 1] (.cons (.call 75 [1, 0] .nil (.cons (.var 2) (.cons (.var 1) .nil))) (.cons (.var 4) .nil)) .nil))
  .skip))))))))))
def b_91 : St := (.seq (.asg (.nm 3) (.lc (.itv (.var 1)) (.nm 4) (.cmp .eq (.idx (.var 4) (.lit (.int 0))) (.lit (.str "do"))) (.var 4) [4]))
  (.seq (.ifs (.and_ (.var 2) (.cmp .ne (.var 3) (.lst .nil))) (.seq (.ret (.idx (.var 3) (.call 5 [0, 1] (.cons (.var 0) (.cons (.bi .len (.cons (.var 3) .nil)) .nil)) .nil)))
  .skip) .skip)
  (.seq (.ret (.idx (.var 1) (.call 5 [0, 1] (.cons (.var 0) (.cons (.bi .len (.cons (.var 1) .nil)) .nil)) .nil)))
  .skip)))
def b_92 : St := (.seq (.asg (.tp 2 (.cons (.nm 3) (.cons (.nm 4) .nil))) (.tup (.cons (.call 80 [0, 1, 2] (.cons (.var 0) (.cons (.var 1) (.cons (.var 2) .nil))) .nil) (.cons (.call 81 [0] (.cons (.var 0) .nil) .nil) .nil))))
  (.seq (.asg (.nm 5) (.call 82 [0, 1] (.cons (.var 3) (.cons (.var 4) .nil)) .nil))
  (.seq (.asg (.nm 6) (.idx (.lst (.cons (.call 74 [0, 1] (.cons (.var 3) (.cons (.var 4) .nil)) .nil) (.cons (.call 74 [1, 0] .nil (.cons (.var 4) (.cons (.var 3) .nil))) .nil))) (.call 5 [0, 1] (.cons (.var 0) (.cons (.lit (.int 2)) .nil)) .nil)))
  (.seq (.ret (.lst (.cons (.var 3) (.cons (.var 6) (.cons (.var 5) (.cons (.lst (.cons (.lst (.cons (.var 6) (.cons (.call 89 [0] (.cons (.var 5) .nil) .nil) .nil))) .nil)) .nil))))))
  .skip))))
def b_93 : St := (.seq (.asg (.tp 3 (.cons (.nm 3) (.cons (.nm 4) (.cons (.nm 5) .nil)))) (.tup (.cons (.idx (.var 1) (.lit (.int 0))) (.cons (.idx (.var 1) (.lit (.int 1))) (.cons (.idx (.var 1) (.lit (.int 2))) .nil)))))
  (.seq (.ifs (.not_ (.call 90 [0, 1, 2, 3] (.cons (.var 0) (.cons (.var 3) (.cons (.var 4) (.cons (.var 5) .nil)))) .nil)) (.seq (.ret (.lit (.bl false)))
  .skip) .skip)
  (.seq (.asg (.nm 6) (.call 84 [0, 1] (.cons (.var 3) (.cons (.var 5) .nil)) .nil))
  (.seq (.ifs (.cmp .ne (.var 6) (.lst .nil)) (.seq (.asg (.nm 7) (.call 91 [0, 1, 2] (.cons (.var 0) (.cons (.var 6) (.cons (.var 2) .nil))) .nil))
  (.seq (.drop (.call 88 [0, 1, 2] (.cons (.var 3) (.cons (.var 5) (.cons (.var 7) .nil))) .nil))
  (.seq (.seti (.call 887 [0, 1, 2] (.cons (.var 3) (.cons (.var 4) (.cons (.var 7) .nil))) .nil) (.var 1) (.lit (.int 1)))
  (.seq (.ifs (.not_ (.call 12 [0, 1] (.cons (.call 887 [1, 2, 0] .nil (.cons (.var 7) (.cons (.var 3) (.cons (.var 4) .nil)))) (.cons (.call 89 [0] (.cons (.var 5) .nil) .nil) .nil)) .nil)) (.seq (.ret (.lit (.bl false)))
  .skip) .skip)
  (.seq (.seti (.bin .add (.idx (.var 1) (.lit (.int 3))) (.lst (.cons (.lst (.cons (.idx (.var 1) (.lit (.int 1))) (.cons (.call 89 [0] (.cons (.var 5) .nil) .nil) .nil))) .nil))) (.var 1) (.lit (.int 3)))
  .skip))))) .skip)
  (.seq (.ret (.lit (.bl true)))
  .skip)))))
def b_94 : St := (.seq (.asg (.tp 2 (.cons (.nm 1) (.cons (.nm 2) .nil))) (.tup (.cons (.cmp .eq (.call 5 [0, 1] (.cons (.var 0) (.cons (.lit (.int 3)) .nil)) .nil) (.lit (.int 0))) (.cons (.lst .nil) .nil))))
  (.seq (.asg (.nm 3) (.lst (.cons (.call 92 [0, 1, 2] (.cons (.var 0) (.cons (.lit (.int 8)) (.cons (.lit (.int 40)) .nil))) .nil) (.cons (.call 92 [0, 1, 2] (.cons (.var 0) (.cons (.lit (.int 3)) (.cons (.lit (.int 5)) .nil))) .nil) .nil))))
  (.seq (.for_ (.irng (.cons (.lit (.int 24)) .nil)) (.nm 4) (.seq (.asg (.nm 5) (.idx (.var 3) (.bi .int (.cons (.cmp .eq (.call 5 [0, 1] (.cons (.var 0) (.cons (.lit (.int 4)) .nil)) .nil) (.lit (.int 0))) .nil))))
  (.seq (.ifs (.not_ (.call 93 [0, 1, 2] (.cons (.var 0) (.cons (.var 5) (.cons (.var 1) .nil))) .nil)) (.seq (.ret (.lit (.bl false)))
  .skip) .skip)
  .skip)))
  (.seq (.for_ (.itv (.var 3)) (.nm 5) (.seq (.asg (.nm 2) (.bin .add (.var 2) (.idx (.var 5) (.lit (.int 3)))))
  .skip))
  (.seq (.ret (.bi .all (.cons (.lc (.itv (.var 2)) (.tp 2 (.cons (.nm 6) (.cons (.nm 7) .nil))) (.lit (.bl true)) (.and_ (.isty (.var 6) .tuple) (.call 12 [0, 1] (.cons (.var 6) (.cons (.var 7) .nil)) .nil)) [6, 7]) .nil)))
  .skip)))))
def b_95 : St := (.seq (.for_ (.irng (.cons (.bi .max (.cons (.lit (.int 1)) (.cons (.bi .min (.cons (.lit (.int 3)) (.cons (.bi .len (.cons (.var 0) .nil)) .nil))) .nil))) .nil)) (.nm 1) (.seq (.ifs (.not_ (.call 94 [0] (.cons (.call 4 [0, 1] (.cons (.var 0) (.cons (.var 1) .nil)) .nil) .nil) .nil)) (.seq (.ret (.lit (.bl false)))
  .skip) .skip)
  .skip))
  (.seq (.ret (.lit (.bl true)))
  .skip))
def fsK05 : Nat → Option (Nat × Nat × St)
  | 15 => some (1, 1, b_15)
  | 16 => some (3, 3, b_16)
  | 17 => some (1, 1, b_17)
  | 18 => some (2, 2, b_18)
  | 19 => some (2, 3, b_19)
  | 40 => some (1, 2, b_40)
  | 56 => some (3, 3, b_56)
  | 20 => some (2, 5, b_20)
  | 21 => some (1, 2, b_21)
  | 22 => some (1, 2, b_22)
  | 24 => some (1, 1, b_24)
  | 0 => some (1, 2, b_0)
  | 2 => some (3, 3, b_2)
  | 3 => some (2, 5, b_3)
  | 57 => some (1, 1, b_57)
  | 58 => some (1, 1, b_58)
  | 59 => some (3, 3, b_59)
  | 60 => some (2, 3, b_60)
  | 61 => some (2, 2, b_61)
  | 62 => some (2, 4, b_62)
  | 63 => some (3, 3, b_63)
  | 64 => some (3, 3, b_64)
  | 65 => some (3, 3, b_65)
  | 884 => some (3, 4, b_884)
  | 67 => some (3, 6, b_67)
  | 68 => some (2, 2, b_68)
  | 69 => some (3, 15, b_69)
  | 70 => some (2, 9, b_70)
  | 71 => some (2, 4, b_71)
  | 885 => some (3, 3, b_885)
  | 73 => some (3, 3, b_73)
  | 886 => some (5, 6, b_886)
  | 74 => some (2, 2, b_74)
  | 75 => some (2, 2, b_75)
  | 887 => some (3, 3, b_887)
  | 77 => some (3, 3, b_77)
  | 78 => some (2, 2, b_78)
  | 4 => some (2, 5, b_4)
  | 5 => some (2, 4, b_5)
  | 6 => some (1, 2, b_6)
  | 7 => some (4, 9, b_7)
  | 79 => some (3, 6, b_79)
  | 80 => some (3, 6, b_80)
  | 81 => some (1, 3, b_81)
  | 82 => some (2, 3, b_82)
  | 83 => some (3, 4, b_83)
  | 84 => some (2, 6, b_84)
  | 85 => some (2, 4, b_85)
  | 86 => some (3, 13, b_86)
  | 87 => some (2, 6, b_87)
  | 88 => some (3, 3, b_88)
  | 89 => some (1, 4, b_89)
  | 12 => some (2, 2, b_12)
  | 30 => some (2, 2, b_30)
  | 90 => some (4, 9, b_90)
  | 91 => some (3, 5, b_91)
  | 92 => some (3, 7, b_92)
  | 93 => some (3, 8, b_93)
  | 94 => some (1, 8, b_94)
  | 95 => some (1, 2, b_95)
  | _ => none
def glK05 : Nat → D
  | 3 => (.tup [(.str "add"), (.str "sub"), (.str "and"), (.str "xor"), (.str "below")])
  | 4 => (.tup [(.int 0), (.int 0), (.int 0), (.int 0), (.int 0), (.int 0), (.int 0), (.int 0)])
  | 5 => (.tup [(.str "fence"), (.str "swap"), (.str "addto")])
  | 13 => (.fn "is_plain_let")
  | 14 => (.fn "after_step")
  | _ => .non
def kdK05 : Nat → List (Str × D)
  | 1 => [("set", (.str "rw")), ("add", (.str "rrr")), ("sub", (.str "rrr")), ("and", (.str "rrr")), ("xor", (.str "rrr")), ("below", (.str "rrr")), ("load", (.str "rrw")), ("store", (.str "rrw")), ("swap", (.str "rrrw")), ("addto", (.str "rrrw")), ("fence", (.str "")), ("gap", (.str "")), ("ifzero", (.str "rt")), ("jump", (.str "t")), ("stop", (.str ""))]
  | 0 => [("add", (.tup [(.int 2), (.int 3)])), ("sub", (.tup [(.int 2), (.int 3)])), ("and", (.tup [(.int 2), (.int 3)])), ("xor", (.tup [(.int 2), (.int 3)])), ("below", (.tup [(.int 2), (.int 3)])), ("load", (.tup [(.int 2)])), ("store", (.tup [(.int 1), (.int 2)])), ("swap", (.tup [(.int 2), (.int 3)])), ("addto", (.tup [(.int 2), (.int 3)])), ("ifzero", (.tup [(.int 1)]))]
  | 2 => [("r", (.int 7)), ("w", (.int 65535))]
  | _ => []
def fxK05 : Str → Option Nat := fun x => List.lookup x [("is_plain_let", 885), ("after_step", 73)]
def prK05 : Pr := ⟨fsK05, glK05, kdK05, fxK05⟩
end Tm

set_option Elab.async false
set_option linter.all false
set_option maxRecDepth 100000
set_option maxHeartbeats 8000000
namespace Tm
open PySem L2
/-- the defs of the plain machine and of its law, as the program has them -/
structure HK (q : Pr) : Prop where
  f15 : q.fs 15 = some (1, 1, b_15)
  f16 : q.fs 16 = some (3, 3, b_16)
  f17 : q.fs 17 = some (1, 1, b_17)
  f18 : q.fs 18 = some (2, 2, b_18)
  f19 : q.fs 19 = some (2, 3, b_19)
  f40 : q.fs 40 = some (1, 2, b_40)
  f56 : q.fs 56 = some (3, 3, b_56)
  f20 : q.fs 20 = some (2, 5, b_20)
  f21 : q.fs 21 = some (1, 2, b_21)
  f22 : q.fs 22 = some (1, 2, b_22)
  f24 : q.fs 24 = some (1, 1, b_24)
  f0 : q.fs 0 = some (1, 2, b_0)
  f2 : q.fs 2 = some (3, 3, b_2)
  f3 : q.fs 3 = some (2, 5, b_3)
  f57 : q.fs 57 = some (1, 1, b_57)
  f58 : q.fs 58 = some (1, 1, b_58)
  f59 : q.fs 59 = some (3, 3, b_59)
  f60 : q.fs 60 = some (2, 3, b_60)
  f61 : q.fs 61 = some (2, 2, b_61)
  f62 : q.fs 62 = some (2, 4, b_62)
  f63 : q.fs 63 = some (3, 3, b_63)
  f64 : q.fs 64 = some (3, 3, b_64)
  f65 : q.fs 65 = some (3, 3, b_65)
  f884 : q.fs 884 = some (3, 4, b_884)
  f67 : q.fs 67 = some (3, 6, b_67)
  f68 : q.fs 68 = some (2, 2, b_68)
  f69 : q.fs 69 = some (3, 15, b_69)
  f70 : q.fs 70 = some (2, 9, b_70)
  f71 : q.fs 71 = some (2, 4, b_71)
  f885 : q.fs 885 = some (3, 3, b_885)
  f73 : q.fs 73 = some (3, 3, b_73)
  f886 : q.fs 886 = some (5, 6, b_886)
  f74 : q.fs 74 = some (2, 2, b_74)
  f75 : q.fs 75 = some (2, 2, b_75)
  f887 : q.fs 887 = some (3, 3, b_887)
  f77 : q.fs 77 = some (3, 3, b_77)
  f78 : q.fs 78 = some (2, 2, b_78)
  f4 : q.fs 4 = some (2, 5, b_4)
  f5 : q.fs 5 = some (2, 4, b_5)
  f6 : q.fs 6 = some (1, 2, b_6)
  f7 : q.fs 7 = some (4, 9, b_7)
  f79 : q.fs 79 = some (3, 6, b_79)
  f80 : q.fs 80 = some (3, 6, b_80)
  f81 : q.fs 81 = some (1, 3, b_81)
  f82 : q.fs 82 = some (2, 3, b_82)
  f83 : q.fs 83 = some (3, 4, b_83)
  f84 : q.fs 84 = some (2, 6, b_84)
  f85 : q.fs 85 = some (2, 4, b_85)
  f86 : q.fs 86 = some (3, 13, b_86)
  f87 : q.fs 87 = some (2, 6, b_87)
  f88 : q.fs 88 = some (3, 3, b_88)
  f89 : q.fs 89 = some (1, 4, b_89)
  f12 : q.fs 12 = some (2, 2, b_12)
  f30 : q.fs 30 = some (2, 2, b_30)
  f90 : q.fs 90 = some (4, 9, b_90)
  f91 : q.fs 91 = some (3, 5, b_91)
  f92 : q.fs 92 = some (3, 7, b_92)
  f93 : q.fs 93 = some (3, 8, b_93)
  f94 : q.fs 94 = some (1, 8, b_94)
  f95 : q.fs 95 = some (1, 2, b_95)
  g3 : q.gl 3 = (.tup [(.str "add"), (.str "sub"), (.str "and"), (.str "xor"), (.str "below")])
  g4 : q.gl 4 = (.tup [(.int 0), (.int 0), (.int 0), (.int 0), (.int 0), (.int 0), (.int 0), (.int 0)])
  g5 : q.gl 5 = (.tup [(.str "fence"), (.str "swap"), (.str "addto")])
  g13 : q.gl 13 = (.fn "is_plain_let")
  g14 : q.gl 14 = (.fn "after_step")
  k1 : q.kd 1 = kdK05 1
  k0 : q.kd 0 = kdK05 0
  k2 : q.kd 2 = kdK05 2
  x885 : q.fx "is_plain_let" = some 885
  x73 : q.fx "after_step" = some 73
theorem hk5 : HK prK05 := by constructor <;> rfl
local macro_rules | `(tactic| walk_at "sm") => `(tactic| first | assumption | (unfold Sm; first | omega | decide))
local macro_rules | `(tactic| walk_at "in") => `(tactic| first | assumption | omega | decide)
local macro_rules | `(tactic| walk_at "lst") => `(tactic| first | assumption | exact l_last | exact l_lst (by assumption) | exact l_ro (by assumption) | exact l_lst (set_get (by assumption)))
local macro_rules | `(tactic| walk_at "op") => `(tactic| first
  | with_reducible exact o_add
  | with_reducible exact o_sub
  | ((with_reducible refine' o_addT ?h); (case h => first | assumption | exact Nat.le_of_ble_eq_true rfl))
  | with_reducible exact o_band
  | with_reducible exact o_bxor
  | with_reducible exact o_band
  | with_reducible exact o_bxor
  | ((with_reducible refine' o_mod ?h); (case h => walk_at "in"))
  | ((with_reducible refine' o_div ?h ?g); (case h => walk_at "in"); (case g => walk_at "sm"))
  | ((with_reducible refine' o_mul ?h ?g); (case h => walk_at "sm"); (case g => walk_at "sm"))
  | ((with_reducible refine' o_pow ?h ?g); (case h => walk_at "in"); (case g => decide)))
local macro_rules | `(tactic| walk_at "cmp") => `(tactic| first
  | with_reducible assumption
  | with_reducible exact c_isN
  | with_reducible exact c_isnN
  | with_reducible exact c_isT
  | with_reducible exact c_isnT
  | with_reducible exact c_isB
  | ((with_reducible refine' c_eq_t ?h); (case h => walk_at "in"))
  | ((with_reducible refine' c_lt_t ?h); (case h => walk_at "in"))
  | ((with_reducible refine' c_gt_t ?h); (case h => walk_at "in"))
  | ((with_reducible refine' c_ne_t ?h); (case h => walk_at "in"))
  | ((with_reducible refine' c_le_t ?h); (case h => walk_at "in"))
  | ((with_reducible refine' c_ge_t ?h); (case h => walk_at "in"))
  | ((with_reducible refine' c_eq_f ?h); (case h => walk_at "in"))
  | ((with_reducible refine' c_lt_f ?h); (case h => walk_at "in"))
  | ((with_reducible refine' c_gt_f ?h); (case h => walk_at "in"))
  | ((with_reducible refine' c_ne_f ?h); (case h => walk_at "in"))
  | ((with_reducible refine' c_le_f ?h); (case h => walk_at "in"))
  | ((with_reducible refine' c_ge_f ?h); (case h => walk_at "in"))
  | ((with_reducible refine' c_str_t ?h); (case h => with_reducible exact rfl))
  | ((with_reducible refine' c_str_f ?h); (case h => first | assumption | decide))
  | ((with_reducible refine' c_strn_f ?h); (case h => with_reducible exact rfl))
  | ((with_reducible refine' c_strn_t ?h); (case h => first | assumption | decide))
  | ((with_reducible refine' c_in (t := true) ?h ?g ?f ?e); (case h => walk_at "lst"); (case g => exact rfl); (case f => exact rfl); (case e => first | assumption | decide))
  | ((with_reducible refine' c_in (t := false) ?h ?g ?f ?e); (case h => walk_at "lst"); (case g => exact rfl); (case f => exact rfl); (case e => first | assumption | decide))
  | ((with_reducible refine' c_inT (t := true) ?g ?f ?e); (case g => exact rfl); (case f => exact rfl); (case e => first | assumption | decide))
  | ((with_reducible refine' c_inT (t := false) ?g ?f ?e); (case g => exact rfl); (case f => exact rfl); (case e => first | assumption | decide))
  | ((with_reducible refine' c_ninT (t := true) ?g ?f ?e); (case g => exact rfl); (case f => exact rfl); (case e => first | assumption | decide))
  | ((with_reducible refine' c_ninT (t := false) ?g ?f ?e); (case g => exact rfl); (case f => exact rfl); (case e => first | assumption | decide))
  | ((with_reducible refine' c_nin (t := true) ?h ?g ?f ?e); (case h => walk_at "lst"); (case g => exact rfl); (case f => exact rfl); (case e => first | assumption | decide))
  | ((with_reducible refine' c_nin (t := false) ?h ?g ?f ?e); (case h => walk_at "lst"); (case g => exact rfl); (case f => exact rfl); (case e => first | assumption | decide)))
local macro_rules | `(tactic| walk_at "bi") => `(tactic| first | with_reducible assumption | ((with_reducible refine' b_tupL ?h); (case h => walk_at "lst")) | with_reducible exact b_int | with_reducible exact b_bool | with_reducible exact b_abs | with_reducible exact b_max | with_reducible exact b_min | with_reducible exact b_lenT | ((with_reducible refine' b_lenL ?h); (case h => walk_at "lst")) | with_reducible apply_assumption)
local macro_rules | `(tactic| walk_at "pick") => `(tactic| first | with_reducible exact pk1 | with_reducible exact pk2 | with_reducible exact pk3 | with_reducible exact pk4 | with_reducible exact pk5 | with_reducible exact pn1 | with_reducible exact pn2 | with_reducible exact pn3)
local macro_rules | `(tactic| walk_at "call") => `(tactic| first | with_reducible assumption | with_reducible apply_assumption)
local macro_rules | `(tactic| walk_at "ev") => `(tactic| first
  | (with_reducible assumption)
  | ((with_reducible refine' er_env ?he ?h); (case h => with_reducible assumption); (case he => exact rfl))
  | (with_reducible exact er_nil)
  | ((with_reducible refine' er_glob ?h); (case h => assumption))
  | ((with_reducible refine' er_lit ?h); (case h => exact rfl))
  | ((with_reducible refine' er_var ?h); (case h => exact rfl))
  | ((with_reducible refine' er_cons ?h1 ?h2); (case h1 => walk_at "ev"); (case h2 => walk_at "ev"))
  | ((with_reducible refine' er_tup ?h1 ?h2); (case h1 => walk_at "ev"); (case h2 => exact Nat.le_of_ble_eq_true rfl))
  | ((with_reducible refine' er_lst ?h1 ?h2); (case h1 => walk_at "ev"); (case h2 => exact Nat.le_of_ble_eq_true rfl))
  | ((with_reducible refine' er_neg ?h1); (case h1 => walk_at "ev"))
  | ((with_reducible refine' er_isty ?h1 ?h2); (case h1 => walk_at "ev"); (case h2 => first | exact rfl | exact ty_ref (by walk_at "lst")))
  | ((with_reducible refine' er_chain_t ?h1 ?h2 ?h3 ?h4 ?h5); (case h1 => walk_at "ev"); (case h2 => walk_at "ev"); (case h3 => walk_at "cmp"); (case h4 => walk_at "ev"); (case h5 => walk_at "cmp"))
  | ((with_reducible refine' er_slc_to ?h1 ?h2 ?h3 ?h4); (case h1 => walk_at "ev"); (case h2 => exact rfl); (case h3 => walk_at "ev"); (case h4 => first | assumption | omega))
  | ((with_reducible refine' er_slc_from ?h1 ?h2 ?h3 ?h4); (case h1 => walk_at "ev"); (case h2 => exact rfl); (case h3 => walk_at "ev"); (case h4 => first | assumption | omega))
  | ((with_reducible refine' er_app ?h1 ?h2 ?h3); (case h1 => walk_at "ev"); (case h2 => walk_at "ev"); (case h3 => exact push_at (by assumption) (by assumption)))
  | ((with_reducible refine' er_callv ?h1 ?h2 ?h3 ?h4); (case h1 => walk_at "ev"); (case h2 => walk_at "ev"); (case h3 => assumption); (case h4 => walk_at "call"))
  | ((with_reducible refine' er_bin ?h1 ?h2 ?h3); (case h1 => walk_at "ev"); (case h2 => walk_at "ev"); (case h3 => walk_at "op"))
  | ((with_reducible refine' er_idx ?h1 ?h2 ?h3); (case h1 => walk_at "ev"); (case h2 => walk_at "ev"); (case h3 => first | exact i_tup (by first | assumption | rfl) | exact i_lst (by walk_at "lst") (by first | assumption | rfl)))
  | ((with_reducible refine' er_call ?h1 ?h2 ?h3 ?h4); (case h1 => walk_at "ev"); (case h2 => walk_at "ev"); (case h3 => walk_at "pick"); (case h4 => walk_at "call"))
  | ((with_reducible refine' er_bi ?h1 ?h2); (case h1 => walk_at "ev"); (case h2 => walk_at "bi"))
  | ((with_reducible refine' er_cmp ?h1 ?h2 ?h3); (case h1 => walk_at "ev"); (case h2 => walk_at "ev"); (case h3 => walk_at "cmp"))
  | ((with_reducible refine' er_nots ?h1 ?h2); (case h1 => walk_at "ev"); (case h2 => first | exact Neg.t | exact Neg.f))
  | ((with_reducible refine' er_ors ?h1 ?h2); (case h1 => walk_at "ev"); (case h2 => first | exact ors_t | ((with_reducible refine' ors_f ?h3); (case h3 => walk_at "ev"))))
  | ((with_reducible refine' er_ands ?h1 ?h2); (case h1 => walk_at "ev"); (case h2 => first | exact ands_f | ((with_reducible refine' ands_t ?h3); (case h3 => walk_at "ev"))))
  | ((with_reducible refine' er_br ?h1 ?h2); (case h1 => walk_at "ev"); (case h2 => first | ((with_reducible refine' bre_t ?h3); (case h3 => walk_at "ev")) | ((with_reducible refine' bre_f ?h3); (case h3 => walk_at "ev")))))
local macro_rules | `(tactic| walk_at "ex") => `(tactic| first
  | ((with_reducible refine' es_skip2 ?h1 ?h2); (case h1 => exact rfl); (case h2 => exact rfl))
  | ((with_reducible refine' es_sq ?h1 ?h2); (case h1 => walk_at "ex"); (case h2 => first | exact nxt_rt | exact nxt_bk | exact nxt_ct | ((with_reducible refine' nxt_nx ?h3); (case h3 => walk_at "ex"))))
  | ((with_reducible refine' es_ret ?h1); (case h1 => walk_at "ev"))
  | ((with_reducible refine' es_asg ?h1 ?h2); (case h1 => walk_at "ev"); (case h2 => exact rfl))
  | ((with_reducible refine' es_seti ?h1 ?h2 ?h3 ?h4); (case h1 => walk_at "ev"); (case h2 => walk_at "ev"); (case h3 => walk_at "ev"); (case h4 => exact s_set (by first | assumption | exact set_get (by assumption)) rfl))
  | ((with_reducible refine' es_drop ?h1); (case h1 => walk_at "ev"))
  | ((with_reducible refine' es_br ?h1 ?h2); (case h1 => walk_at "ev"); (case h2 => first | ((with_reducible refine' brs_t ?h3); (case h3 => walk_at "ex")) | ((with_reducible refine' brs_f ?h3); (case h3 => walk_at "ex")))))


section
variable {q : Pr} (Q : HK q) {W : Nat}
include Q
theorem isint_p (k : Nat) (S : Store) (i : Int) : run q W (k + 1) 15 [.int i] S = some (.bl true, S) := by
  refine' run_rt Q.f15 rfl rfl ?h
  case h => unfold b_15; walk_at "ex"
theorem betw_p (k : Nat) (S : Store) {v lo hi : Int} (h1 : lo ≤ v) (h2 : v ≤ hi) : run q W (k + 2) 16 [.int v, .int lo, .int hi] S = some (.bl true, S) := by
  have a1 := isint_p Q (W := W) k
  refine' run_rt Q.f16 rfl rfl ?h
  case h => unfold b_16; walk_at "ex"
theorem word_p (k : Nat) (S : Store) {v : Int} (h1 : 0 ≤ v) (h2 : v < 65536) : run q W (k + 3) 17 [.int v] S = some (.bl true, S) := by
  have a1 := betw_p Q (W := W) k S h1 (show v ≤ 65535 by omega)
  refine' run_rt Q.f17 rfl rfl ?h
  case h => unfold b_17; walk_at "ex"
theorem tupof_p (k : Nat) (S : Store) {xs : List D} {n : Int} (h : (xs.length : Int) = n) : run q W (k + 1) 18 [.tup xs, .int n] S = some (.bl true, S) := by
  refine' run_rt Q.f18 rfl rfl ?h
  case h => unfold b_18; walk_at "ex"
theorem words_p (k : Nat) (S : Store) {ws : List Int} (h : ∀ v ∈ ws, 0 ≤ v ∧ v < 65536) (hl : ws.length ≤ 1000) : ∃ S', run q W (k + 4) 19 [.tup (ws.map .int), .int ws.length] S = some (.bl true, S') ∧ Kp [] S S' := by
  have a1 := tupof_p Q (W := W) (k + 2) S (xs := ws.map .int) (n := ws.length) (by simp)
  obtain ⟨S', c1, c2, c3⟩ := er_lcM (q := q) (W := W) (k := k + 3) (i := .itv (.var 0)) (a := .call 17 [0] (.cons (.var 2) .nil) .nil) (t := .nm 2) (own := [2]) (e := [some (.tup (ws.map .int)), some (.int ws.length), none]) (S := S) (fun _ => .bl true)
    (itv_tup (er_var rfl)) (fun _ _ => rfl) (by simp; exact Nat.le_trans hl (by decide)) (fun d hd S hS => by
      obtain ⟨v, hv, rfl⟩ := List.mem_map.mp hd
      have a2 := word_p Q (W := W) k S (h v hv).1 (h v hv).2
      exact ⟨_, S, rfl, by walk_at "ev", Kp.refl _ _⟩)
  have c4 := b_all (l_lst c3) (fun d hd => by obtain ⟨_, _, rfl⟩ := List.mem_map.mp hd; rfl)
  refine ⟨S', ?_, c2⟩
  refine' run_rt (e0 := [some _, some _, none]) Q.f19 rfl rfl ?h
  case h => unfold b_19; walk_at "ex"
theorem repl_p (k : Nat) (S : Store) {xs : List D} {i : Int} {x : D} (h0 : 0 ≤ i) (h1 : i.toNat < xs.length) (hl : xs.length ≤ 1000) : run q W (k + 1) 56 [.tup xs, .int i, x] S = some (.tup (xs.set i.toNat x), S) := by
  have e := put_at (x := x) h1
  have e1 : (i + 1).toNat = i.toNat + 1 := by omega
  have h2 : 0 ≤ i + 1 := by omega
  have z1 : (xs.take i.toNat).length + [x].length ≤ sizeLine := by simp [sizeLine_eq]; omega
  have z2 : (xs.take i.toNat ++ [x]).length + (xs.drop (i + 1).toNat).length ≤ sizeLine := by simp [sizeLine_eq]; omega
  rw [← e, ← e1]
  refine' run_rt Q.f56 rfl rfl ?h
  case h => unfold b_56; walk_at "ex"
end
end Tm

set_option Elab.async false
set_option linter.all false
set_option maxRecDepth 100000
set_option maxHeartbeats 8000000
namespace Tm
open PySem L2
local macro_rules | `(tactic| walk_at "sm") => `(tactic| first | assumption | (unfold Sm; first | omega | decide))
local macro_rules | `(tactic| walk_at "in") => `(tactic| first | assumption | omega | decide)
local macro_rules | `(tactic| walk_at "lst") => `(tactic| first | assumption | exact l_last | exact l_lst (by assumption) | exact l_ro (by assumption) | exact l_lst (set_get (by assumption)))
local macro_rules | `(tactic| walk_at "op") => `(tactic| first
  | with_reducible exact o_add
  | with_reducible exact o_sub
  | ((with_reducible refine' o_addT ?h); (case h => first | assumption | exact Nat.le_of_ble_eq_true rfl))
  | with_reducible exact o_band
  | with_reducible exact o_bxor
  | with_reducible exact o_band
  | with_reducible exact o_bxor
  | ((with_reducible refine' o_mod ?h); (case h => walk_at "in"))
  | ((with_reducible refine' o_div ?h ?g); (case h => walk_at "in"); (case g => walk_at "sm"))
  | ((with_reducible refine' o_mul ?h ?g); (case h => walk_at "sm"); (case g => walk_at "sm"))
  | ((with_reducible refine' o_pow ?h ?g); (case h => walk_at "in"); (case g => decide)))
local macro_rules | `(tactic| walk_at "cmp") => `(tactic| first
  | with_reducible assumption
  | with_reducible exact c_isN
  | with_reducible exact c_isnN
  | with_reducible exact c_isT
  | with_reducible exact c_isnT
  | with_reducible exact c_isB
  | ((with_reducible refine' c_eq_t ?h); (case h => walk_at "in"))
  | ((with_reducible refine' c_lt_t ?h); (case h => walk_at "in"))
  | ((with_reducible refine' c_gt_t ?h); (case h => walk_at "in"))
  | ((with_reducible refine' c_ne_t ?h); (case h => walk_at "in"))
  | ((with_reducible refine' c_le_t ?h); (case h => walk_at "in"))
  | ((with_reducible refine' c_ge_t ?h); (case h => walk_at "in"))
  | ((with_reducible refine' c_eq_f ?h); (case h => walk_at "in"))
  | ((with_reducible refine' c_lt_f ?h); (case h => walk_at "in"))
  | ((with_reducible refine' c_gt_f ?h); (case h => walk_at "in"))
  | ((with_reducible refine' c_ne_f ?h); (case h => walk_at "in"))
  | ((with_reducible refine' c_le_f ?h); (case h => walk_at "in"))
  | ((with_reducible refine' c_ge_f ?h); (case h => walk_at "in"))
  | ((with_reducible refine' c_str_t ?h); (case h => with_reducible exact rfl))
  | ((with_reducible refine' c_str_f ?h); (case h => first | assumption | decide))
  | ((with_reducible refine' c_strn_f ?h); (case h => with_reducible exact rfl))
  | ((with_reducible refine' c_strn_t ?h); (case h => first | assumption | decide))
  | ((with_reducible refine' c_in (t := true) ?h ?g ?f ?e); (case h => walk_at "lst"); (case g => exact rfl); (case f => exact rfl); (case e => first | assumption | decide))
  | ((with_reducible refine' c_in (t := false) ?h ?g ?f ?e); (case h => walk_at "lst"); (case g => exact rfl); (case f => exact rfl); (case e => first | assumption | decide))
  | ((with_reducible refine' c_inT (t := true) ?g ?f ?e); (case g => exact rfl); (case f => exact rfl); (case e => first | assumption | decide))
  | ((with_reducible refine' c_inT (t := false) ?g ?f ?e); (case g => exact rfl); (case f => exact rfl); (case e => first | assumption | decide))
  | ((with_reducible refine' c_ninT (t := true) ?g ?f ?e); (case g => exact rfl); (case f => exact rfl); (case e => first | assumption | decide))
  | ((with_reducible refine' c_ninT (t := false) ?g ?f ?e); (case g => exact rfl); (case f => exact rfl); (case e => first | assumption | decide))
  | ((with_reducible refine' c_nin (t := true) ?h ?g ?f ?e); (case h => walk_at "lst"); (case g => exact rfl); (case f => exact rfl); (case e => first | assumption | decide))
  | ((with_reducible refine' c_nin (t := false) ?h ?g ?f ?e); (case h => walk_at "lst"); (case g => exact rfl); (case f => exact rfl); (case e => first | assumption | decide)))
local macro_rules | `(tactic| walk_at "bi") => `(tactic| first | with_reducible assumption | ((with_reducible refine' b_tupL ?h); (case h => walk_at "lst")) | with_reducible exact b_int | with_reducible exact b_bool | with_reducible exact b_abs | with_reducible exact b_max | with_reducible exact b_min | with_reducible exact b_lenT | ((with_reducible refine' b_lenL ?h); (case h => walk_at "lst")) | with_reducible apply_assumption)
local macro_rules | `(tactic| walk_at "pick") => `(tactic| first | with_reducible exact pk1 | with_reducible exact pk2 | with_reducible exact pk3 | with_reducible exact pk4 | with_reducible exact pk5 | with_reducible exact pn1 | with_reducible exact pn2 | with_reducible exact pn3)
local macro_rules | `(tactic| walk_at "call") => `(tactic| first | with_reducible assumption | with_reducible apply_assumption)
local macro_rules | `(tactic| walk_at "ev") => `(tactic| first
  | (with_reducible assumption)
  | ((with_reducible refine' er_env ?he ?h); (case h => with_reducible assumption); (case he => exact rfl))
  | (with_reducible exact er_nil)
  | ((with_reducible refine' er_glob ?h); (case h => assumption))
  | ((with_reducible refine' er_lit ?h); (case h => exact rfl))
  | ((with_reducible refine' er_var ?h); (case h => exact rfl))
  | ((with_reducible refine' er_cons ?h1 ?h2); (case h1 => walk_at "ev"); (case h2 => walk_at "ev"))
  | ((with_reducible refine' er_tup ?h1 ?h2); (case h1 => walk_at "ev"); (case h2 => exact Nat.le_of_ble_eq_true rfl))
  | ((with_reducible refine' er_lst ?h1 ?h2); (case h1 => walk_at "ev"); (case h2 => exact Nat.le_of_ble_eq_true rfl))
  | ((with_reducible refine' er_neg ?h1); (case h1 => walk_at "ev"))
  | ((with_reducible refine' er_isty ?h1 ?h2); (case h1 => walk_at "ev"); (case h2 => first | exact rfl | exact ty_ref (by walk_at "lst")))
  | ((with_reducible refine' er_chain_t ?h1 ?h2 ?h3 ?h4 ?h5); (case h1 => walk_at "ev"); (case h2 => walk_at "ev"); (case h3 => walk_at "cmp"); (case h4 => walk_at "ev"); (case h5 => walk_at "cmp"))
  | ((with_reducible refine' er_slc_to ?h1 ?h2 ?h3 ?h4); (case h1 => walk_at "ev"); (case h2 => exact rfl); (case h3 => walk_at "ev"); (case h4 => first | assumption | omega))
  | ((with_reducible refine' er_slc_from ?h1 ?h2 ?h3 ?h4); (case h1 => walk_at "ev"); (case h2 => exact rfl); (case h3 => walk_at "ev"); (case h4 => first | assumption | omega))
  | ((with_reducible refine' er_app ?h1 ?h2 ?h3); (case h1 => walk_at "ev"); (case h2 => walk_at "ev"); (case h3 => exact push_at (by assumption) (by assumption)))
  | ((with_reducible refine' er_callv ?h1 ?h2 ?h3 ?h4); (case h1 => walk_at "ev"); (case h2 => walk_at "ev"); (case h3 => assumption); (case h4 => walk_at "call"))
  | ((with_reducible refine' er_bin ?h1 ?h2 ?h3); (case h1 => walk_at "ev"); (case h2 => walk_at "ev"); (case h3 => walk_at "op"))
  | ((with_reducible refine' er_idx ?h1 ?h2 ?h3); (case h1 => walk_at "ev"); (case h2 => walk_at "ev"); (case h3 => first | exact i_tup (by first | assumption | rfl) | exact i_lst (by walk_at "lst") (by first | assumption | rfl)))
  | ((with_reducible refine' er_call ?h1 ?h2 ?h3 ?h4); (case h1 => walk_at "ev"); (case h2 => walk_at "ev"); (case h3 => walk_at "pick"); (case h4 => walk_at "call"))
  | ((with_reducible refine' er_bi ?h1 ?h2); (case h1 => walk_at "ev"); (case h2 => walk_at "bi"))
  | ((with_reducible refine' er_cmp ?h1 ?h2 ?h3); (case h1 => walk_at "ev"); (case h2 => walk_at "ev"); (case h3 => walk_at "cmp"))
  | ((with_reducible refine' er_nots ?h1 ?h2); (case h1 => walk_at "ev"); (case h2 => first | exact Neg.t | exact Neg.f))
  | ((with_reducible refine' er_ors ?h1 ?h2); (case h1 => walk_at "ev"); (case h2 => first | exact ors_t | ((with_reducible refine' ors_f ?h3); (case h3 => walk_at "ev"))))
  | ((with_reducible refine' er_ands ?h1 ?h2); (case h1 => walk_at "ev"); (case h2 => first | exact ands_f | ((with_reducible refine' ands_t ?h3); (case h3 => walk_at "ev"))))
  | ((with_reducible refine' er_br ?h1 ?h2); (case h1 => walk_at "ev"); (case h2 => first | ((with_reducible refine' bre_t ?h3); (case h3 => walk_at "ev")) | ((with_reducible refine' bre_f ?h3); (case h3 => walk_at "ev")))))
local macro_rules | `(tactic| walk_at "ex") => `(tactic| first
  | ((with_reducible refine' es_skip2 ?h1 ?h2); (case h1 => exact rfl); (case h2 => exact rfl))
  | ((with_reducible refine' es_sq ?h1 ?h2); (case h1 => walk_at "ex"); (case h2 => first | exact nxt_rt | exact nxt_bk | exact nxt_ct | ((with_reducible refine' nxt_nx ?h3); (case h3 => walk_at "ex"))))
  | ((with_reducible refine' es_ret ?h1); (case h1 => walk_at "ev"))
  | ((with_reducible refine' es_asg ?h1 ?h2); (case h1 => walk_at "ev"); (case h2 => exact rfl))
  | ((with_reducible refine' es_seti ?h1 ?h2 ?h3 ?h4); (case h1 => walk_at "ev"); (case h2 => walk_at "ev"); (case h3 => walk_at "ev"); (case h4 => exact s_set (by first | assumption | exact set_get (by assumption)) rfl))
  | ((with_reducible refine' es_drop ?h1); (case h1 => walk_at "ev"))
  | ((with_reducible refine' es_br ?h1 ?h2); (case h1 => walk_at "ev"); (case h2 => first | ((with_reducible refine' brs_t ?h3); (case h3 => walk_at "ex")) | ((with_reducible refine' brs_f ?h3); (case h3 => walk_at "ex")))))


/-! ## instructions, books, memories -/
structure Ins where
  nm : Str
  a : Int
  b : Int
  c : Int
  w : Int
  g : Int
def dIns (i : Ins) : D := .tup (.str i.nm :: shape i.nm i.a i.b i.c i.w i.g)
structure Ins.ok (n : Int) (i : Ins) : Prop where
  nm : i.nm ∈ nms
  a0 : 0 ≤ i.a
  a1 : i.a < 8
  b0 : 0 ≤ i.b
  b1 : i.b < 8
  c0 : 0 ≤ i.c
  c1 : i.c < 8
  w0 : 0 ≤ i.w
  w1 : i.w < 65536
  g0 : 0 ≤ i.g
  g1 : i.g ≤ n
def dRows (rs : List Ins) : D := .tup (rs.map dIns)
def dBk (bk : List (List Ins)) : D := .tup (bk.map dRows)
structure OkB (bk : List (List Ins)) : Prop where
  l0 : 1 ≤ bk.length
  l1 : bk.length ≤ 4
  rs : ∀ r ∈ bk, r.length ≤ 40 ∧ ∀ i ∈ r, i.ok r.length
def Okp (n : Int) (x : D) : Prop := ∃ v c m, x = .tup [.int v, .str c] ∧ (lookK (kdK05 2) c).getD (.int n) = .int m ∧ 0 ≤ v ∧ v ≤ m
theorem okR {n v : Int} (h0 : 0 ≤ v) (h1 : v < 8) : Okp n (.tup [.int v, .str "r"]) := ⟨v, "r", 7, rfl, rfl, h0, by omega⟩
theorem okW {n v : Int} (h0 : 0 ≤ v) (h1 : v < 65536) : Okp n (.tup [.int v, .str "w"]) := ⟨v, "w", 65535, rfl, rfl, h0, by omega⟩
theorem okT {n v : Int} (h0 : 0 ≤ v) (h1 : v ≤ n) : Okp n (.tup [.int v, .str "t"]) := ⟨v, "t", n, rfl, rfl, h0, by omega⟩
theorem fa_nil {p : D → Prop} : ∀ x ∈ ([] : List D), p x := fun _ h => absurd h List.not_mem_nil
theorem fa_cons {p : D → Prop} {a : D} {l : List D} (h : p a) (r : ∀ x ∈ l, p x) : ∀ x ∈ a :: l, p x := List.forall_mem_cons.2 ⟨h, r⟩
theorem er_nkin {q : Pr} {W k : Nat} {e : Env'} {S S1 : Store} {a : C} {g : Nat} {w : Str} (h1 : ev (pm q W k) a e S = some (.str w, S1)) (h3 : (lookK (q.kd g) w).isSome = true) : ev (pm q W k) (.kin g true a) e S = some (.bl false, S1) :=
  er_kin h1 (by simp [h3])
section
variable {q : Pr} (Q : HK q) {W : Nat}
include Q
theorem instr_core (k : Nat) (S : Store) {nm : Str} {n : Int} (ps : List Int) (z : Str) (hz : lookK (kdK05 1) nm = some (.str z)) (hl : ((D.str nm :: ps.map D.int).length : Int) = z.length + 1) (h4 : ps.length ≤ 4) (hs : z.length ≤ 10)
    (hx : ∀ x ∈ zipF (ps.map D.int) (z.cps.toList.map fun c => D.str ⟨#[c]⟩), Okp n x) : ∃ S', run q W (k + 3) 20 [.tup (.str nm :: ps.map D.int), .int n] S = some (.bl true, S') ∧ Kp [] S S' := by
  have k1 : lookK (q.kd 1) nm = some (.str z) := by rw [Q.k1]; exact hz
  have k2 : (lookK (q.kd 1) nm).isSome = true := by rw [k1]; rfl
  have at0 : atI (D.str nm :: ps.map D.int) 0 = some (.str nm) := atN (n := 0) rfl
  have ne0 : ¬ ((D.str nm :: ps.map D.int).length : Int) = 0 := by simp; omega
  have d1 : (D.str nm :: ps.map D.int).drop ((1 : Int).toNat) = ps.map D.int := rfl
  have lz : biop .len [.str z] S = some (.int z.length, S) := by
    show okI (decide (z.length ≤ sizeLine)) _ _ = _
    rw [decide_eq_true (Nat.le_trans hs (by decide))]; rfl
  have i1 : ev (pm q W (k + 2)) (.izip (.slc (.var 0) (.lit (.int 1)) .absent) (.var 2)) [some (.tup (.str nm :: ps.map D.int)), some (.int n), some (.str z), none, none] S = some (itD (zipF (ps.map D.int) (z.cps.toList.map fun c => D.str ⟨#[c]⟩)) [], S) := by
    have a1 : ev (pm q W (k + 2)) (.slc (.var 0) (.lit (.int 1)) .absent) [some (.tup (.str nm :: ps.map D.int)), some (.int n), some (.str z), none, none] S = some (.tup ((D.str nm :: ps.map D.int).drop ((1 : Int).toNat)), S) := er_slc_from (er_var rfl) rfl (er_lit rfl) (show (0 : Int) ≤ 1 by decide)
    rw [d1] at a1
    exact er_izipS a1 (er_var rfl)
  have zl : ∀ (xs ys : List D), (zipF xs ys).length ≤ xs.length := by
    intro xs
    induction xs with
    | nil => intro ys; cases ys <;> exact Nat.le_refl 0
    | cons x xs ih => intro ys; cases ys with
      | nil => exact Nat.zero_le _
      | cons y ys => simpa [zipF] using ih ys
  obtain ⟨S', c1, c2, c3⟩ := er_lcM (q := q) (W := W) (k := k + 2) (a := .call 16 [0, 1, 2] (.cons (.var 3) (.cons (.lit (.int 0)) (.cons (.kgetd 2 (.var 4) (.var 1)) .nil))) .nil) (t := .tp 2 (.cons (.nm 3) (.cons (.nm 4) .nil))) (own := [3, 4]) (fun _ => .bl true)
    i1 (fun _ _ => rfl) (Nat.le_trans (zl _ _) (by simp; exact Nat.le_trans h4 (by decide))) (fun d hd S hS => by
      obtain ⟨v, c, m, rfl, g1, g2, g3⟩ := hx d hd
      have g4 : (lookK (q.kd 2) c).getD (.int n) = .int m := by rw [Q.k2]; exact g1
      have a1 := betw_p Q (W := W) k S g2 g3
      have a2 : ev (pm q W (k + 2)) (.kgetd 2 (.var 4) (.var 1)) [some (.tup (.str nm :: ps.map D.int)), some (.int n), some (.str z), some (.int v), some (.str c)] S = some (.int m, S) := er_kgetd (er_var rfl) (er_var rfl) g4
      exact ⟨[some (.tup (.str nm :: ps.map D.int)), some (.int n), some (.str z), some (.int v), some (.str c)], S, rfl, by walk_at "ev", Kp.refl _ _⟩)
  have c4 := b_all (l_lst c3) (fun d hd => by obtain ⟨_, _, rfl⟩ := List.mem_map.mp hd; rfl)
  have b1 : ev (pm q W (k + 2)) (.kin 1 true (.idx (.var 0) (.lit (.int 0)))) [some (.tup (.str nm :: ps.map D.int)), some (.int n), none, none, none] S = some (.bl false, S) := er_nkin (by walk_at "ev") k2
  have b2 : ev (pm q W (k + 2)) (.kget 1 (.idx (.var 0) (.lit (.int 0)))) [some (.tup (.str nm :: ps.map D.int)), some (.int n), none, none, none] S = some (.str z, S) := er_kget (by walk_at "ev") k1
  refine ⟨S', ?_, c2⟩
  refine' run_rt (e0 := [some _, some _, none, none, none]) Q.f20 rfl rfl ?h
  case h => unfold b_20; walk_at "ex"
theorem instr_p (k : Nat) (S : Store) {i : Ins} {n : Int} (h : i.ok n) : ∃ S', run q W (k + 3) 20 [dIns i, .int n] S = some (.bl true, S') ∧ Kp [] S S' := by
  obtain ⟨nm, a, b, c, w, g⟩ := i
  obtain ⟨hm, a0, a1, b0, b1, c0, c1, w0, w1, g0, g1⟩ := h
  simp only at hm a0 a1 b0 b1 c0 c1 w0 w1 g0 g1
  simp only [nms, List.mem_cons, List.not_mem_nil, or_false] at hm
  have R3 : ∀ x ∈ [D.tup [.int a, .str "r"], D.tup [.int b, .str "r"], D.tup [.int c, .str "r"]], Okp n x := fa_cons (okR a0 a1) (fa_cons (okR b0 b1) (fa_cons (okR c0 c1) fa_nil))
  have R2W : ∀ x ∈ [D.tup [.int a, .str "r"], D.tup [.int b, .str "r"], D.tup [.int w, .str "w"]], Okp n x := fa_cons (okR a0 a1) (fa_cons (okR b0 b1) (fa_cons (okW w0 w1) fa_nil))
  have R3W : ∀ x ∈ [D.tup [.int a, .str "r"], D.tup [.int b, .str "r"], D.tup [.int c, .str "r"], D.tup [.int w, .str "w"]], Okp n x := fa_cons (okR a0 a1) (fa_cons (okR b0 b1) (fa_cons (okR c0 c1) (fa_cons (okW w0 w1) fa_nil)))
  rcases hm with rfl | rfl | rfl | rfl | rfl | rfl | rfl | rfl | rfl | rfl | rfl | rfl | rfl | rfl | rfl
  · exact instr_core Q k S [a, w] "rw" rfl rfl (Nat.le_of_ble_eq_true rfl) (Nat.le_of_ble_eq_true rfl) (fa_cons (okR a0 a1) (fa_cons (okW w0 w1) fa_nil))
  · exact instr_core Q k S [a, b, c] "rrr" rfl rfl (Nat.le_of_ble_eq_true rfl) (Nat.le_of_ble_eq_true rfl) R3
  · exact instr_core Q k S [a, b, c] "rrr" rfl rfl (Nat.le_of_ble_eq_true rfl) (Nat.le_of_ble_eq_true rfl) R3
  · exact instr_core Q k S [a, b, c] "rrr" rfl rfl (Nat.le_of_ble_eq_true rfl) (Nat.le_of_ble_eq_true rfl) R3
  · exact instr_core Q k S [a, b, c] "rrr" rfl rfl (Nat.le_of_ble_eq_true rfl) (Nat.le_of_ble_eq_true rfl) R3
  · exact instr_core Q k S [a, b, c] "rrr" rfl rfl (Nat.le_of_ble_eq_true rfl) (Nat.le_of_ble_eq_true rfl) R3
  · exact instr_core Q k S [a, b, w] "rrw" rfl rfl (Nat.le_of_ble_eq_true rfl) (Nat.le_of_ble_eq_true rfl) R2W
  · exact instr_core Q k S [a, b, w] "rrw" rfl rfl (Nat.le_of_ble_eq_true rfl) (Nat.le_of_ble_eq_true rfl) R2W
  · exact instr_core Q k S [a, b, c, w] "rrrw" rfl rfl (Nat.le_of_ble_eq_true rfl) (Nat.le_of_ble_eq_true rfl) R3W
  · exact instr_core Q k S [a, b, c, w] "rrrw" rfl rfl (Nat.le_of_ble_eq_true rfl) (Nat.le_of_ble_eq_true rfl) R3W
  · exact instr_core Q k S [] "" rfl rfl (Nat.le_of_ble_eq_true rfl) (Nat.le_of_ble_eq_true rfl) fa_nil
  · exact instr_core Q k S [a, g] "rt" rfl rfl (Nat.le_of_ble_eq_true rfl) (Nat.le_of_ble_eq_true rfl) (fa_cons (okR a0 a1) (fa_cons (okT g0 g1) fa_nil))
  · exact instr_core Q k S [g] "t" rfl rfl (Nat.le_of_ble_eq_true rfl) (Nat.le_of_ble_eq_true rfl) (fa_cons (okT g0 g1) fa_nil)
  · exact instr_core Q k S [] "" rfl rfl (Nat.le_of_ble_eq_true rfl) (Nat.le_of_ble_eq_true rfl) fa_nil
  · exact instr_core Q k S [] "" rfl rfl (Nat.le_of_ble_eq_true rfl) (Nat.le_of_ble_eq_true rfl) fa_nil
theorem rows_p (k : Nat) (S : Store) {rs : List Ins} (h1 : rs.length ≤ 40) (h2 : ∀ i ∈ rs, i.ok rs.length) : ∃ S', run q W (k + 4) 21 [dRows rs] S = some (.bl true, S') ∧ Kp [] S S' := by
  have hl : ((rs.map dIns).length : Int) = rs.length := by simp
  obtain ⟨S', c1, c2, c3⟩ := er_lcM (q := q) (W := W) (k := k + 3) (i := .itv (.var 0)) (a := .call 20 [0, 1] (.cons (.var 1) (.cons (.bi .len (.cons (.var 0) .nil)) .nil)) .nil) (t := .nm 1) (own := [1]) (e := [some (dRows rs), none]) (S := S) (fun _ => .bl true)
    (itv_tup (er_var rfl)) (fun _ _ => rfl) (by simp; exact Nat.le_trans h1 (by decide)) (fun d hd S hS => by
      obtain ⟨i, hi, rfl⟩ := List.mem_map.mp hd
      obtain ⟨S2, a2, a3⟩ := instr_p Q (W := W) k S (h2 i hi)
      have a4 : biop .len [dRows rs] S = some (.int rs.length, S) := by rw [← hl]; rfl
      exact ⟨[some (dRows rs), some (dIns i)], S2, rfl, by walk_at "ev", a3⟩)
  have c4 := b_all (l_lst c3) (fun d hd => by obtain ⟨_, _, rfl⟩ := List.mem_map.mp hd; rfl)
  refine ⟨S', ?_, c2⟩
  have a4 : biop .len [dRows rs] S = some (.int rs.length, S) := by rw [← hl]; rfl
  have a5 : ¬ ((40 : Int) < (rs.length : Int)) := by omega
  refine' run_rt (e0 := [some _, none]) Q.f21 rfl rfl ?h
  case h => unfold b_21; walk_at "ex"
theorem book_p (k : Nat) (S : Store) {bk : List (List Ins)} (h : OkB bk) : ∃ S', run q W (k + 5) 22 [dBk bk] S = some (.bl true, S') ∧ Kp [] S S' := by
  have hl : ((bk.map dRows).length : Int) = bk.length := by simp
  have l0 := h.l0
  have l1 := h.l1
  obtain ⟨S', c1, c2, c3⟩ := er_lcM (q := q) (W := W) (k := k + 4) (i := .itv (.var 0)) (a := .call 21 [0] (.cons (.var 1) .nil) .nil) (t := .nm 1) (own := [1]) (e := [some (dBk bk), none]) (S := S) (fun _ => .bl true)
    (itv_tup (er_var rfl)) (fun _ _ => rfl) (by simp; exact Nat.le_trans l1 (by decide)) (fun d hd S hS => by
      obtain ⟨r, hr, rfl⟩ := List.mem_map.mp hd
      obtain ⟨S2, a2, a3⟩ := rows_p Q (W := W) k S (h.rs r hr).1 (h.rs r hr).2
      exact ⟨[some (dBk bk), some (dRows r)], S2, rfl, by walk_at "ev", a3⟩)
  have c4 := b_all (l_lst c3) (fun d hd => by obtain ⟨_, _, rfl⟩ := List.mem_map.mp hd; rfl)
  have a4 : biop .len [dBk bk] S = some (.int bk.length, S) := by rw [← hl]; rfl
  have b1 : (1 : Int) ≤ bk.length := by omega
  have b2 : (bk.length : Int) ≤ 4 := by omega
  refine ⟨S', ?_, c2⟩
  refine' run_rt (e0 := [some _, none]) Q.f22 rfl rfl ?h
  case h => unfold b_22; walk_at "ex"
theorem mem_p (k : Nat) (S : Store) {ws : List Int} (h : ∀ v ∈ ws, 0 ≤ v ∧ v < 65536) (l0 : 1 ≤ ws.length) (l1 : ws.length ≤ 32) : ∃ S', run q W (k + 5) 24 [.tup (ws.map .int)] S = some (.bl true, S') ∧ Kp [] S S' := by
  obtain ⟨S', a1, a2⟩ := words_p Q (W := W) k S h (by omega)
  have hl : biop .len [.tup (ws.map D.int)] S = some (.int ws.length, S) := by show some (D.int ((ws.map D.int).length : Nat), S) = _; simp
  have b1 : (1 : Int) ≤ ws.length := by omega
  have b2 : (ws.length : Int) ≤ 32 := by omega
  refine ⟨S', ?_, a2⟩
  refine' run_rt (e0 := [some _]) Q.f24 rfl rfl ?h
  case h => unfold b_24; walk_at "ex"
theorem run_nx {k f : Nat} {ds : List D} {S : Store} {np ns : Nat} {b : St} (h : q.fs f = some (np, ns, b)) (hn : ds.length = np) {e' : Env'} {S' : Store} {e0 : Env'} (he : env0 np ns ds = e0) (hx : ex (pm q W k) b e0 S = some (.nx, e', S')) :
    run q W (k + 1) f ds S = some (.non, S') := by
  rw [run_at q W k f ds S h hn, he, hx]; rfl
theorem ckb_p (k : Nat) (S : Store) {bk : List (List Ins)} (h : OkB bk) : ∃ S', run q W (k + 6) 57 [dBk bk] S = some (.non, S') ∧ Kp [] S S' := by
  obtain ⟨S', a1, a2⟩ := book_p Q (W := W) k S h
  refine ⟨S', ?_, a2⟩
  refine' run_nx Q Q.f57 rfl rfl ?h
  case h => unfold b_57; walk_at "ex"
theorem ckm_p (k : Nat) (S : Store) {ws : List Int} (h : ∀ v ∈ ws, 0 ≤ v ∧ v < 65536) (l0 : 1 ≤ ws.length) (l1 : ws.length ≤ 32) : ∃ S', run q W (k + 6) 58 [.tup (ws.map .int)] S = some (.non, S') ∧ Kp [] S S' := by
  obtain ⟨S', a1, a2⟩ := mem_p Q (W := W) k S h l0 l1
  refine ⟨S', ?_, a2⟩
  refine' run_nx Q Q.f58 rfl rfl ?h
  case h => unfold b_58; walk_at "ex"
theorem ckn_p (k : Nat) (S : Store) {v lo hi : Int} (h1 : lo ≤ v) (h2 : v ≤ hi) : run q W (k + 3) 59 [.int v, .int lo, .int hi] S = some (.non, S) := by
  have a1 := betw_p Q (W := W) k S h1 h2
  refine' run_nx Q Q.f59 rfl rfl ?h
  case h => unfold b_59; walk_at "ex"
end
end Tm

set_option Elab.async false
set_option linter.all false
set_option maxRecDepth 100000
set_option maxHeartbeats 8000000
namespace Tm
open PySem L2
local macro_rules | `(tactic| walk_at "sm") => `(tactic| first | assumption | (unfold Sm; first | omega | decide))
local macro_rules | `(tactic| walk_at "in") => `(tactic| first | assumption | omega | decide)
local macro_rules | `(tactic| walk_at "lst") => `(tactic| first | assumption | exact l_last | exact l_lst (by assumption) | exact l_ro (by assumption) | exact l_lst (set_get (by assumption)))
local macro_rules | `(tactic| walk_at "op") => `(tactic| first
  | with_reducible exact o_add
  | with_reducible exact o_sub
  | ((with_reducible refine' o_addT ?h); (case h => first | assumption | exact Nat.le_of_ble_eq_true rfl))
  | with_reducible exact o_band
  | with_reducible exact o_bxor
  | with_reducible exact o_band
  | with_reducible exact o_bxor
  | ((with_reducible refine' o_mod ?h); (case h => walk_at "in"))
  | ((with_reducible refine' o_div ?h ?g); (case h => walk_at "in"); (case g => walk_at "sm"))
  | ((with_reducible refine' o_mul ?h ?g); (case h => walk_at "sm"); (case g => walk_at "sm"))
  | ((with_reducible refine' o_pow ?h ?g); (case h => walk_at "in"); (case g => decide)))
local macro_rules | `(tactic| walk_at "cmp") => `(tactic| first
  | with_reducible assumption
  | with_reducible exact c_isN
  | with_reducible exact c_isnN
  | with_reducible exact c_isT
  | with_reducible exact c_isnT
  | with_reducible exact c_isB
  | ((with_reducible refine' c_eq_t ?h); (case h => walk_at "in"))
  | ((with_reducible refine' c_lt_t ?h); (case h => walk_at "in"))
  | ((with_reducible refine' c_gt_t ?h); (case h => walk_at "in"))
  | ((with_reducible refine' c_ne_t ?h); (case h => walk_at "in"))
  | ((with_reducible refine' c_le_t ?h); (case h => walk_at "in"))
  | ((with_reducible refine' c_ge_t ?h); (case h => walk_at "in"))
  | ((with_reducible refine' c_eq_f ?h); (case h => walk_at "in"))
  | ((with_reducible refine' c_lt_f ?h); (case h => walk_at "in"))
  | ((with_reducible refine' c_gt_f ?h); (case h => walk_at "in"))
  | ((with_reducible refine' c_ne_f ?h); (case h => walk_at "in"))
  | ((with_reducible refine' c_le_f ?h); (case h => walk_at "in"))
  | ((with_reducible refine' c_ge_f ?h); (case h => walk_at "in"))
  | ((with_reducible refine' c_str_t ?h); (case h => with_reducible exact rfl))
  | ((with_reducible refine' c_str_f ?h); (case h => first | assumption | decide))
  | ((with_reducible refine' c_strn_f ?h); (case h => with_reducible exact rfl))
  | ((with_reducible refine' c_strn_t ?h); (case h => first | assumption | decide))
  | ((with_reducible refine' c_in (t := true) ?h ?g ?f ?e); (case h => walk_at "lst"); (case g => exact rfl); (case f => exact rfl); (case e => first | assumption | decide))
  | ((with_reducible refine' c_in (t := false) ?h ?g ?f ?e); (case h => walk_at "lst"); (case g => exact rfl); (case f => exact rfl); (case e => first | assumption | decide))
  | ((with_reducible refine' c_inT (t := true) ?g ?f ?e); (case g => exact rfl); (case f => exact rfl); (case e => first | assumption | decide))
  | ((with_reducible refine' c_inT (t := false) ?g ?f ?e); (case g => exact rfl); (case f => exact rfl); (case e => first | assumption | decide))
  | ((with_reducible refine' c_ninT (t := true) ?g ?f ?e); (case g => exact rfl); (case f => exact rfl); (case e => first | assumption | decide))
  | ((with_reducible refine' c_ninT (t := false) ?g ?f ?e); (case g => exact rfl); (case f => exact rfl); (case e => first | assumption | decide))
  | ((with_reducible refine' c_nin (t := true) ?h ?g ?f ?e); (case h => walk_at "lst"); (case g => exact rfl); (case f => exact rfl); (case e => first | assumption | decide))
  | ((with_reducible refine' c_nin (t := false) ?h ?g ?f ?e); (case h => walk_at "lst"); (case g => exact rfl); (case f => exact rfl); (case e => first | assumption | decide)))
local macro_rules | `(tactic| walk_at "bi") => `(tactic| first | with_reducible assumption | ((with_reducible refine' b_tupL ?h); (case h => walk_at "lst")) | with_reducible exact b_int | with_reducible exact b_bool | with_reducible exact b_abs | with_reducible exact b_max | with_reducible exact b_min | with_reducible exact b_lenT | ((with_reducible refine' b_lenL ?h); (case h => walk_at "lst")) | with_reducible apply_assumption)
local macro_rules | `(tactic| walk_at "pick") => `(tactic| first | with_reducible exact pk1 | with_reducible exact pk2 | with_reducible exact pk3 | with_reducible exact pk4 | with_reducible exact pk5 | with_reducible exact pn1 | with_reducible exact pn2 | with_reducible exact pn3)
local macro_rules | `(tactic| walk_at "call") => `(tactic| first | with_reducible assumption | with_reducible apply_assumption)
local macro_rules | `(tactic| walk_at "ev") => `(tactic| first
  | (with_reducible assumption)
  | ((with_reducible refine' er_env ?he ?h); (case h => with_reducible assumption); (case he => exact rfl))
  | (with_reducible exact er_nil)
  | ((with_reducible refine' er_glob ?h); (case h => assumption))
  | ((with_reducible refine' er_lit ?h); (case h => exact rfl))
  | ((with_reducible refine' er_var ?h); (case h => exact rfl))
  | ((with_reducible refine' er_cons ?h1 ?h2); (case h1 => walk_at "ev"); (case h2 => walk_at "ev"))
  | ((with_reducible refine' er_tup ?h1 ?h2); (case h1 => walk_at "ev"); (case h2 => exact Nat.le_of_ble_eq_true rfl))
  | ((with_reducible refine' er_lst ?h1 ?h2); (case h1 => walk_at "ev"); (case h2 => exact Nat.le_of_ble_eq_true rfl))
  | ((with_reducible refine' er_neg ?h1); (case h1 => walk_at "ev"))
  | ((with_reducible refine' er_isty ?h1 ?h2); (case h1 => walk_at "ev"); (case h2 => first | exact rfl | exact ty_ref (by walk_at "lst")))
  | ((with_reducible refine' er_chain_t ?h1 ?h2 ?h3 ?h4 ?h5); (case h1 => walk_at "ev"); (case h2 => walk_at "ev"); (case h3 => walk_at "cmp"); (case h4 => walk_at "ev"); (case h5 => walk_at "cmp"))
  | ((with_reducible refine' er_slc_to ?h1 ?h2 ?h3 ?h4); (case h1 => walk_at "ev"); (case h2 => exact rfl); (case h3 => walk_at "ev"); (case h4 => first | assumption | omega))
  | ((with_reducible refine' er_slc_from ?h1 ?h2 ?h3 ?h4); (case h1 => walk_at "ev"); (case h2 => exact rfl); (case h3 => walk_at "ev"); (case h4 => first | assumption | omega))
  | ((with_reducible refine' er_app ?h1 ?h2 ?h3); (case h1 => walk_at "ev"); (case h2 => walk_at "ev"); (case h3 => exact push_at (by assumption) (by assumption)))
  | ((with_reducible refine' er_callv ?h1 ?h2 ?h3 ?h4); (case h1 => walk_at "ev"); (case h2 => walk_at "ev"); (case h3 => assumption); (case h4 => walk_at "call"))
  | ((with_reducible refine' er_bin ?h1 ?h2 ?h3); (case h1 => walk_at "ev"); (case h2 => walk_at "ev"); (case h3 => walk_at "op"))
  | ((with_reducible refine' er_idx ?h1 ?h2 ?h3); (case h1 => walk_at "ev"); (case h2 => walk_at "ev"); (case h3 => first | exact i_tup (by first | assumption | rfl) | exact i_lst (by walk_at "lst") (by first | assumption | rfl)))
  | ((with_reducible refine' er_call ?h1 ?h2 ?h3 ?h4); (case h1 => walk_at "ev"); (case h2 => walk_at "ev"); (case h3 => walk_at "pick"); (case h4 => walk_at "call"))
  | ((with_reducible refine' er_bi ?h1 ?h2); (case h1 => walk_at "ev"); (case h2 => walk_at "bi"))
  | ((with_reducible refine' er_cmp ?h1 ?h2 ?h3); (case h1 => walk_at "ev"); (case h2 => walk_at "ev"); (case h3 => walk_at "cmp"))
  | ((with_reducible refine' er_nots ?h1 ?h2); (case h1 => walk_at "ev"); (case h2 => first | exact Neg.t | exact Neg.f))
  | ((with_reducible refine' er_ors ?h1 ?h2); (case h1 => walk_at "ev"); (case h2 => first | exact ors_t | ((with_reducible refine' ors_f ?h3); (case h3 => walk_at "ev"))))
  | ((with_reducible refine' er_ands ?h1 ?h2); (case h1 => walk_at "ev"); (case h2 => first | exact ands_f | ((with_reducible refine' ands_t ?h3); (case h3 => walk_at "ev"))))
  | ((with_reducible refine' er_br ?h1 ?h2); (case h1 => walk_at "ev"); (case h2 => first | ((with_reducible refine' bre_t ?h3); (case h3 => walk_at "ev")) | ((with_reducible refine' bre_f ?h3); (case h3 => walk_at "ev")))))
local macro_rules | `(tactic| walk_at "ex") => `(tactic| first
  | ((with_reducible refine' es_skip2 ?h1 ?h2); (case h1 => exact rfl); (case h2 => exact rfl))
  | ((with_reducible refine' es_sq ?h1 ?h2); (case h1 => walk_at "ex"); (case h2 => first | exact nxt_rt | exact nxt_bk | exact nxt_ct | ((with_reducible refine' nxt_nx ?h3); (case h3 => walk_at "ex"))))
  | ((with_reducible refine' es_ret ?h1); (case h1 => walk_at "ev"))
  | ((with_reducible refine' es_asg ?h1 ?h2); (case h1 => walk_at "ev"); (case h2 => exact rfl))
  | ((with_reducible refine' es_seti ?h1 ?h2 ?h3 ?h4); (case h1 => walk_at "ev"); (case h2 => walk_at "ev"); (case h3 => walk_at "ev"); (case h4 => exact s_set (by first | assumption | exact set_get (by assumption)) rfl))
  | ((with_reducible refine' es_drop ?h1); (case h1 => walk_at "ev"))
  | ((with_reducible refine' es_br ?h1 ?h2); (case h1 => walk_at "ev"); (case h2 => first | ((with_reducible refine' brs_t ?h3); (case h3 => walk_at "ex")) | ((with_reducible refine' brs_f ?h3); (case h3 => walk_at "ex")))))


/-! ## stands of the plain machine -/
structure Cr where
  row : Nat
  regs : List Int
  late : List (Int × Int)
structure Sd where
  cs : List Cr
  mem : List Int
def dPr (p : Int × Int) : D := .tup [.int p.1, .int p.2]
def dCr (c : Cr) : D := .tup [.int c.row, .tup (c.regs.map .int), .tup (c.late.map dPr)]
def dSd (s : Sd) : D := .tup [.tup (s.cs.map dCr), .tup (s.mem.map .int)]
def Wd (v : Int) : Prop := 0 ≤ v ∧ v < 65536
structure OkC (rs : List Ins) (n t : Nat) (c : Cr) : Prop where
  row : c.row ≤ rs.length
  len : c.regs.length = 8
  wds : ∀ v ∈ c.regs, Wd v
  lt : ∀ p ∈ c.late, 0 ≤ p.1 ∧ p.1 < n ∧ Wd p.2
  ll : c.late.length ≤ t
structure OkM (m : List Int) : Prop where
  l0 : 1 ≤ m.length
  l1 : m.length ≤ 32
  wds : ∀ v ∈ m, Wd v
structure OkS (bk : List (List Ins)) (t : Nat) (s : Sd) : Prop where
  len : s.cs.length = bk.length
  mem : OkM s.mem
  cs : ∀ p ∈ bk.zip s.cs, OkC p.1 s.mem.length t p.2
def isStop (rs : List Ins) (row : Nat) : Bool := match rs[row]? with
  | none => true
  | some i => decide (i.nm = "stop")
abbrev alones : List Str := ["fence", "swap", "addto"]
def canDo (rs : List Ins) (c : Cr) : Bool := match rs[c.row]? with
  | none => false
  | some i => if i.nm = "stop" then false else c.late.isEmpty || !(alones.any fun y => decide (y = i.nm))
def canFl (c : Cr) : Bool := !c.late.isEmpty
def rg (l : List Int) (j : Int) : Int := l.getD j.toNat 0
theorem rg_at {l : List Int} {j : Int} (h0 : 0 ≤ j) (h1 : j.toNat < l.length) : atI (l.map D.int) j = some (.int (rg l j)) := by
  refine at_pos h0 ?_
  rw [List.getElem?_map, List.getElem?_eq_getElem h1]
  simp [rg, h1]
theorem rg_wd {l : List Int} {j : Int} (h : ∀ v ∈ l, Wd v) : Wd (rg l j) := by
  unfold rg
  by_cases q : j.toNat < l.length
  · rw [List.getD_eq_getElem?_getD, List.getElem?_eq_getElem q]; exact h _ (List.getElem_mem q)
  · rw [List.getD_eq_getElem?_getD, List.getElem?_eq_none (by omega)]; exact ⟨by decide, by decide⟩
def ldW (late : List (Int × Int)) (m : List Int) (cell : Int) : Int := match late.reverse.find? (fun p => decide (p.1 = cell)) with
  | some p => p.2
  | none => rg m cell
/-- an instruction, done -/
def cellS (i : Ins) (c : Cr) (m : List Int) : Int := (rg c.regs i.b + i.w) % m.length
def cellW (i : Ins) (c : Cr) (m : List Int) : Int := (rg c.regs i.c + i.w) % m.length
def doI (i : Ins) (c : Cr) (m : List Int) : Cr × List Int :=
  if i.nm = "set" then (⟨c.row + 1, c.regs.set i.a.toNat i.w, c.late⟩, m)
  else if i.nm = "add" ∨ i.nm = "sub" ∨ i.nm = "and" ∨ i.nm = "xor" ∨ i.nm = "below" then (⟨c.row + 1, c.regs.set i.a.toNat (sumOf i.nm (rg c.regs i.b) (rg c.regs i.c)), c.late⟩, m)
  else if i.nm = "load" then (⟨c.row + 1, c.regs.set i.a.toNat (ldW c.late m (cellS i c m)), c.late⟩, m)
  else if i.nm = "store" then (⟨c.row + 1, c.regs, c.late ++ [(cellS i c m, rg c.regs i.a)]⟩, m)
  else if i.nm = "swap" then (⟨c.row + 1, c.regs.set i.a.toNat (rg m (cellW i c m)), c.late⟩, m.set (cellW i c m).toNat (rg c.regs i.b))
  else if i.nm = "addto" then (⟨c.row + 1, c.regs.set i.a.toNat (rg m (cellW i c m)), c.late⟩, m.set (cellW i c m).toNat ((rg m (cellW i c m) + rg c.regs i.b) % 65536))
  else if i.nm = "ifzero" then (⟨if rg c.regs i.a = 0 then i.g.toNat else c.row + 1, c.regs, c.late⟩, m)
  else if i.nm = "jump" then (⟨i.g.toNat, c.regs, c.late⟩, m)
  else (⟨c.row + 1, c.regs, c.late⟩, m)
def aftDo (bk : List (List Ins)) (s : Sd) (j : Nat) : Sd := match bk[j]?, s.cs[j]? with
  | some rs, some c => match rs[c.row]? with
    | some i => ⟨s.cs.set j (doI i c s.mem).1, (doI i c s.mem).2⟩
    | none => s
  | _, _ => s
def aftFl (s : Sd) (j : Nat) : Sd := match s.cs[j]? with
  | some c => match c.late with
    | p :: r => ⟨s.cs.set j ⟨c.row, c.regs, r⟩, s.mem.set p.1.toNat p.2⟩
    | [] => s
  | none => s
theorem rows_at {rs : List Ins} {j : Nat} {i : Ins} (h : rs[j]? = some i) : atI (rs.map dIns) (j : Int) = some (.tup (.str i.nm :: shape i.nm i.a i.b i.c i.w i.g)) := atN (by rw [List.getElem?_map, h]; rfl)
theorem map_at {α : Type} {f : α → D} {l : List α} {j : Nat} {x : α} (h : l[j]? = some x) : atI (l.map f) (j : Int) = some (f x) := atN (by rw [List.getElem?_map, h]; rfl)
theorem nm_at {nm : Str} {r : List D} : atI (D.str nm :: r) 0 = some (.str nm) := atN (n := 0) rfl
section
variable {q : Pr} (Q : HK q) {W : Nat}
include Q
theorem first_p (k : Nat) (S : Store) (bk : List (List Ins)) (m : List Int) (h : bk.length ≤ 4) : ∃ S', run q W (k + 1) 60 [dBk bk, .tup (m.map .int)] S = some (dSd ⟨bk.map fun _ => ⟨0, [0, 0, 0, 0, 0, 0, 0, 0], []⟩, m⟩, S') ∧ Kp [] S S' := by
  have g4 := Q.g4
  obtain ⟨S', c1, c2, c3⟩ := er_lcG (q := q) (W := W) (k := k) (i := .itv (.var 0)) (a := .tup (.cons (.lit (.int 0)) (.cons (.glob 4) (.cons (.tup .nil) .nil)))) (t := .nm 2) (own := [2]) (e := [some (dBk bk), some (.tup (m.map .int)), none]) (S := S) dRows (fun _ => dCr ⟨0, [0, 0, 0, 0, 0, 0, 0, 0], []⟩)
    (itv_tup (er_var rfl)) (fun _ _ => rfl) (Nat.le_trans h (by decide)) (fun d hd S hS => ⟨[some (dBk bk), some (.tup (m.map .int)), some (dRows d)], S, rfl, by
      refine' er_tup (ds := [.int 0, .tup [.int 0, .int 0, .int 0, .int 0, .int 0, .int 0, .int 0, .int 0], .tup []]) ?h1 ?h2
      case h1 => walk_at "ev"
      case h2 => exact Nat.le_of_ble_eq_true rfl, Kp.refl _ _⟩)
  have c4 := l_lst c3
  refine ⟨S', ?_, c2⟩
  have e : dSd ⟨bk.map fun _ => ⟨0, [0, 0, 0, 0, 0, 0, 0, 0], []⟩, m⟩ = .tup [.tup (bk.map (fun _ => dCr ⟨0, [0, 0, 0, 0, 0, 0, 0, 0], []⟩)), .tup (m.map .int)] := by
    unfold dSd; simp
  rw [e]
  refine' run_rt (e0 := [some _, some _, none]) Q.f60 rfl rfl ?h
  case h => unfold b_60; walk_at "ex"
theorem stop_p (k : Nat) (S : Store) {rs : List Ins} {row : Nat} (h : row ≤ rs.length) : run q W (k + 1) 61 [dRows rs, .int row] S = some (.bl (isStop rs row), S) := by
  have hl : biop .len [dRows rs] S = some (.int rs.length, S) := by show some (D.int ((rs.map dIns).length : Nat), S) = _; simp
  by_cases e : row = rs.length
  · subst e
    have : isStop rs rs.length = true := by unfold isStop; rw [List.getElem?_eq_none (Nat.le_refl _)]
    rw [this]
    refine' run_rt (e0 := [some _, some _]) Q.f61 rfl rfl ?h
    case h => unfold b_61; walk_at "ex"
  · have hr : rs[row]? = some rs[row] := List.getElem?_eq_getElem (by omega)
    have ne : ¬ (row : Int) = rs.length := by omega
    have a1 := rows_at hr
    have a2 := nm_at (nm := rs[row].nm) (r := shape rs[row].nm rs[row].a rs[row].b rs[row].c rs[row].w rs[row].g)
    have hs : isStop rs row = decide (rs[row].nm = "stop") := by unfold isStop; rw [hr]
    rw [hs]
    have b1 : ev (pm q W k) (.idx (.idx (.var 0) (.var 1)) (.lit (.int 0))) [some (dRows rs), some (.int row)] S = some (.str rs[row].nm, S) := er_idx (er_idx (er_var rfl) (er_var rfl) (i_tup a1)) (er_lit rfl) (i_tup a2)
    by_cases z : rs[row].nm = "stop"
    · rw [decide_eq_true z]
      have c1 : cmpop .eq (.str rs[row].nm) (.str "stop") S = some true := c_str_t z
      refine' run_rt (e0 := [some _, some _]) Q.f61 rfl rfl ?h
      case h => unfold b_61; walk_at "ex"
    · rw [decide_eq_false z]
      have c1 : cmpop .eq (.str rs[row].nm) (.str "stop") S = some false := c_str_f z
      refine' run_rt (e0 := [some _, some _]) Q.f61 rfl rfl ?h
      case h => unfold b_61; walk_at "ex"
end
end Tm

set_option Elab.async false
set_option linter.all false
set_option maxRecDepth 100000
set_option maxHeartbeats 8000000
namespace Tm
open PySem L2
local macro_rules | `(tactic| walk_at "sm") => `(tactic| first | assumption | (unfold Sm; first | omega | decide))
local macro_rules | `(tactic| walk_at "in") => `(tactic| first | assumption | omega | decide)
local macro_rules | `(tactic| walk_at "lst") => `(tactic| first | assumption | exact l_last | exact l_lst (by assumption) | exact l_ro (by assumption) | exact l_lst (set_get (by assumption)))
local macro_rules | `(tactic| walk_at "op") => `(tactic| first
  | with_reducible exact o_add
  | with_reducible exact o_sub
  | ((with_reducible refine' o_addT ?h); (case h => first | assumption | exact Nat.le_of_ble_eq_true rfl))
  | with_reducible exact o_band
  | with_reducible exact o_bxor
  | with_reducible exact o_band
  | with_reducible exact o_bxor
  | ((with_reducible refine' o_mod ?h); (case h => walk_at "in"))
  | ((with_reducible refine' o_div ?h ?g); (case h => walk_at "in"); (case g => walk_at "sm"))
  | ((with_reducible refine' o_mul ?h ?g); (case h => walk_at "sm"); (case g => walk_at "sm"))
  | ((with_reducible refine' o_pow ?h ?g); (case h => walk_at "in"); (case g => decide)))
local macro_rules | `(tactic| walk_at "cmp") => `(tactic| first
  | with_reducible assumption
  | with_reducible exact c_isN
  | with_reducible exact c_isnN
  | with_reducible exact c_isT
  | with_reducible exact c_isnT
  | with_reducible exact c_isB
  | ((with_reducible refine' c_eq_t ?h); (case h => walk_at "in"))
  | ((with_reducible refine' c_lt_t ?h); (case h => walk_at "in"))
  | ((with_reducible refine' c_gt_t ?h); (case h => walk_at "in"))
  | ((with_reducible refine' c_ne_t ?h); (case h => walk_at "in"))
  | ((with_reducible refine' c_le_t ?h); (case h => walk_at "in"))
  | ((with_reducible refine' c_ge_t ?h); (case h => walk_at "in"))
  | ((with_reducible refine' c_eq_f ?h); (case h => walk_at "in"))
  | ((with_reducible refine' c_lt_f ?h); (case h => walk_at "in"))
  | ((with_reducible refine' c_gt_f ?h); (case h => walk_at "in"))
  | ((with_reducible refine' c_ne_f ?h); (case h => walk_at "in"))
  | ((with_reducible refine' c_le_f ?h); (case h => walk_at "in"))
  | ((with_reducible refine' c_ge_f ?h); (case h => walk_at "in"))
  | ((with_reducible refine' c_str_t ?h); (case h => with_reducible exact rfl))
  | ((with_reducible refine' c_str_f ?h); (case h => first | assumption | decide))
  | ((with_reducible refine' c_strn_f ?h); (case h => with_reducible exact rfl))
  | ((with_reducible refine' c_strn_t ?h); (case h => first | assumption | decide))
  | ((with_reducible refine' c_in (t := true) ?h ?g ?f ?e); (case h => walk_at "lst"); (case g => exact rfl); (case f => exact rfl); (case e => first | assumption | decide))
  | ((with_reducible refine' c_in (t := false) ?h ?g ?f ?e); (case h => walk_at "lst"); (case g => exact rfl); (case f => exact rfl); (case e => first | assumption | decide))
  | ((with_reducible refine' c_inT (t := true) ?g ?f ?e); (case g => exact rfl); (case f => exact rfl); (case e => first | assumption | decide))
  | ((with_reducible refine' c_inT (t := false) ?g ?f ?e); (case g => exact rfl); (case f => exact rfl); (case e => first | assumption | decide))
  | ((with_reducible refine' c_ninT (t := true) ?g ?f ?e); (case g => exact rfl); (case f => exact rfl); (case e => first | assumption | decide))
  | ((with_reducible refine' c_ninT (t := false) ?g ?f ?e); (case g => exact rfl); (case f => exact rfl); (case e => first | assumption | decide))
  | ((with_reducible refine' c_nin (t := true) ?h ?g ?f ?e); (case h => walk_at "lst"); (case g => exact rfl); (case f => exact rfl); (case e => first | assumption | decide))
  | ((with_reducible refine' c_nin (t := false) ?h ?g ?f ?e); (case h => walk_at "lst"); (case g => exact rfl); (case f => exact rfl); (case e => first | assumption | decide)))
local macro_rules | `(tactic| walk_at "bi") => `(tactic| first | with_reducible assumption | ((with_reducible refine' b_tupL ?h); (case h => walk_at "lst")) | with_reducible exact b_int | with_reducible exact b_bool | with_reducible exact b_abs | with_reducible exact b_max | with_reducible exact b_min | with_reducible exact b_lenT | ((with_reducible refine' b_lenL ?h); (case h => walk_at "lst")) | with_reducible apply_assumption)
local macro_rules | `(tactic| walk_at "pick") => `(tactic| first | with_reducible exact pk1 | with_reducible exact pk2 | with_reducible exact pk3 | with_reducible exact pk4 | with_reducible exact pk5 | with_reducible exact pn1 | with_reducible exact pn2 | with_reducible exact pn3)
local macro_rules | `(tactic| walk_at "call") => `(tactic| first | with_reducible assumption | with_reducible apply_assumption)
local macro_rules | `(tactic| walk_at "ev") => `(tactic| first
  | (with_reducible assumption)
  | ((with_reducible refine' er_env ?he ?h); (case h => with_reducible assumption); (case he => exact rfl))
  | (with_reducible exact er_nil)
  | ((with_reducible refine' er_glob ?h); (case h => assumption))
  | ((with_reducible refine' er_lit ?h); (case h => exact rfl))
  | ((with_reducible refine' er_var ?h); (case h => exact rfl))
  | ((with_reducible refine' er_cons ?h1 ?h2); (case h1 => walk_at "ev"); (case h2 => walk_at "ev"))
  | ((with_reducible refine' er_tup ?h1 ?h2); (case h1 => walk_at "ev"); (case h2 => exact Nat.le_of_ble_eq_true rfl))
  | ((with_reducible refine' er_lst ?h1 ?h2); (case h1 => walk_at "ev"); (case h2 => exact Nat.le_of_ble_eq_true rfl))
  | ((with_reducible refine' er_neg ?h1); (case h1 => walk_at "ev"))
  | ((with_reducible refine' er_isty ?h1 ?h2); (case h1 => walk_at "ev"); (case h2 => first | exact rfl | exact ty_ref (by walk_at "lst")))
  | ((with_reducible refine' er_chain_t ?h1 ?h2 ?h3 ?h4 ?h5); (case h1 => walk_at "ev"); (case h2 => walk_at "ev"); (case h3 => walk_at "cmp"); (case h4 => walk_at "ev"); (case h5 => walk_at "cmp"))
  | ((with_reducible refine' er_slc_to ?h1 ?h2 ?h3 ?h4); (case h1 => walk_at "ev"); (case h2 => exact rfl); (case h3 => walk_at "ev"); (case h4 => first | assumption | omega))
  | ((with_reducible refine' er_slc_from ?h1 ?h2 ?h3 ?h4); (case h1 => walk_at "ev"); (case h2 => exact rfl); (case h3 => walk_at "ev"); (case h4 => first | assumption | omega))
  | ((with_reducible refine' er_app ?h1 ?h2 ?h3); (case h1 => walk_at "ev"); (case h2 => walk_at "ev"); (case h3 => exact push_at (by assumption) (by assumption)))
  | ((with_reducible refine' er_callv ?h1 ?h2 ?h3 ?h4); (case h1 => walk_at "ev"); (case h2 => walk_at "ev"); (case h3 => assumption); (case h4 => walk_at "call"))
  | ((with_reducible refine' er_bin ?h1 ?h2 ?h3); (case h1 => walk_at "ev"); (case h2 => walk_at "ev"); (case h3 => walk_at "op"))
  | ((with_reducible refine' er_idx ?h1 ?h2 ?h3); (case h1 => walk_at "ev"); (case h2 => walk_at "ev"); (case h3 => first | exact i_tup (by first | assumption | rfl) | exact i_lst (by walk_at "lst") (by first | assumption | rfl)))
  | ((with_reducible refine' er_call ?h1 ?h2 ?h3 ?h4); (case h1 => walk_at "ev"); (case h2 => walk_at "ev"); (case h3 => walk_at "pick"); (case h4 => walk_at "call"))
  | ((with_reducible refine' er_bi ?h1 ?h2); (case h1 => walk_at "ev"); (case h2 => walk_at "bi"))
  | ((with_reducible refine' er_cmp ?h1 ?h2 ?h3); (case h1 => walk_at "ev"); (case h2 => walk_at "ev"); (case h3 => walk_at "cmp"))
  | ((with_reducible refine' er_nots ?h1 ?h2); (case h1 => walk_at "ev"); (case h2 => first | exact Neg.t | exact Neg.f))
  | ((with_reducible refine' er_ors ?h1 ?h2); (case h1 => walk_at "ev"); (case h2 => first | exact ors_t | ((with_reducible refine' ors_f ?h3); (case h3 => walk_at "ev"))))
  | ((with_reducible refine' er_ands ?h1 ?h2); (case h1 => walk_at "ev"); (case h2 => first | exact ands_f | ((with_reducible refine' ands_t ?h3); (case h3 => walk_at "ev"))))
  | ((with_reducible refine' er_br ?h1 ?h2); (case h1 => walk_at "ev"); (case h2 => first | ((with_reducible refine' bre_t ?h3); (case h3 => walk_at "ev")) | ((with_reducible refine' bre_f ?h3); (case h3 => walk_at "ev")))))
local macro_rules | `(tactic| walk_at "ex") => `(tactic| first
  | ((with_reducible refine' es_skip2 ?h1 ?h2); (case h1 => exact rfl); (case h2 => exact rfl))
  | ((with_reducible refine' es_sq ?h1 ?h2); (case h1 => walk_at "ex"); (case h2 => first | exact nxt_rt | exact nxt_bk | exact nxt_ct | ((with_reducible refine' nxt_nx ?h3); (case h3 => walk_at "ex"))))
  | ((with_reducible refine' es_ret ?h1); (case h1 => walk_at "ev"))
  | ((with_reducible refine' es_asg ?h1 ?h2); (case h1 => walk_at "ev"); (case h2 => exact rfl))
  | ((with_reducible refine' es_seti ?h1 ?h2 ?h3 ?h4); (case h1 => walk_at "ev"); (case h2 => walk_at "ev"); (case h3 => walk_at "ev"); (case h4 => exact s_set (by first | assumption | exact set_get (by assumption)) rfl))
  | ((with_reducible refine' es_drop ?h1); (case h1 => walk_at "ev"))
  | ((with_reducible refine' es_br ?h1 ?h2); (case h1 => walk_at "ev"); (case h2 => first | ((with_reducible refine' brs_t ?h3); (case h3 => walk_at "ex")) | ((with_reducible refine' brs_f ?h3); (case h3 => walk_at "ex")))))


def endB (p : List Ins × Cr) : Bool := isStop p.1 p.2.row && p.2.late.isEmpty
theorem len_tup {α : Type} {f : α → D} {l : List α} {S : Store} : biop .len [.tup (l.map f)] S = some (.int l.length, S) := by
  show some (D.int ((l.map f).length : Nat), S) = _; simp
section
variable {q : Pr} (Q : HK q) {W : Nat}
include Q
theorem ended_p (k : Nat) (S : Store) {bk : List (List Ins)} {s : Sd} (h : ∀ p ∈ bk.zip s.cs, p.2.row ≤ p.1.length) (hl : bk.length ≤ 4) : ∃ S', run q W (k + 2) 62 [dBk bk, dSd s] S = some (.bl ((bk.zip s.cs).all endB), S') ∧ Kp [] S S' := by
  have i1 : ev (pm q W (k + 1)) (.izip (.var 0) (.idx (.var 1) (.lit (.int 0)))) [some (dBk bk), some (dSd s), none, none] S = some (itD ((bk.zip s.cs).map fun p => .tup [dRows p.1, dCr p.2]) [], S) := by
    rw [← zipF_map]
    exact er_izipT (er_var rfl) (er_idx (er_var rfl) (er_lit rfl) (i_tup (atN (n := 0) rfl)))
  obtain ⟨S', c1, c2, c3⟩ := er_lcG (q := q) (W := W) (k := k + 1) (a := .and_ (.call 61 [0, 1] (.cons (.var 2) (.cons (.idx (.var 3) (.lit (.int 0))) .nil)) .nil) (.cmp .eq (.bi .len (.cons (.idx (.var 3) (.lit (.int 2))) .nil)) (.lit (.int 0)))) (t := .tp 2 (.cons (.nm 2) (.cons (.nm 3) .nil))) (own := [2, 3]) (S := S)
    (fun p : List Ins × Cr => .tup [dRows p.1, dCr p.2]) (fun p => .bl (endB p)) i1 (fun _ _ => rfl) (by simp; exact Nat.le_trans (Nat.min_le_left _ _) (Nat.le_trans hl (by decide))) (fun p hp S hS => by
      refine ⟨[some (dBk bk), some (dSd s), some (dRows p.1), some (dCr p.2)], S, rfl, ?_, Kp.refl _ _⟩
      have a1 := stop_p Q (W := W) k S (h p hp)
      have a2 : atI [D.int p.2.row, .tup (p.2.regs.map .int), .tup (p.2.late.map dPr)] 0 = some (.int p.2.row) := atN (n := 0) rfl
      have a3 : atI [D.int p.2.row, .tup (p.2.regs.map .int), .tup (p.2.late.map dPr)] 2 = some (.tup (p.2.late.map dPr)) := atN (n := 2) rfl
      have b0 : ev (pm q W (k + 1)) (.idx (.var 3) (.lit (.int 0))) [some (dBk bk), some (dSd s), some (dRows p.1), some (dCr p.2)] S = some (.int p.2.row, S) := er_idx (er_var rfl) (er_lit rfl) (i_tup a2)
      have b1 : ev (pm q W (k + 1)) (.call 61 [0, 1] (.cons (.var 2) (.cons (.idx (.var 3) (.lit (.int 0))) .nil)) .nil) [some (dBk bk), some (dSd s), some (dRows p.1), some (dCr p.2)] S = some (.bl (isStop p.1 p.2.row), S) := by walk_at "ev"
      have b2 : ev (pm q W (k + 1)) (.bi .len (.cons (.idx (.var 3) (.lit (.int 2))) .nil)) [some (dBk bk), some (dSd s), some (dRows p.1), some (dCr p.2)] S = some (.int p.2.late.length, S) := er_bi (er_cons (er_idx (er_var rfl) (er_lit rfl) (i_tup a3)) er_nil) len_tup
      unfold endB
      cases hs : isStop p.1 p.2.row
      · rw [hs] at b1
        rw [Bool.false_and]
        exact er_and_f b1
      · rw [hs] at b1
        rw [Bool.true_and]
        refine er_and_t b1 (er_cmp b2 (er_lit rfl) ?_)
        cases hl : p.2.late with
        | nil => exact c_eq_t rfl
        | cons x r => exact c_eq_f (by simp; omega))
  have c4 : biop .all [.ref S.length] S' = some (.bl ((bk.zip s.cs).all endB), S') := by
    have := b_allB (bs := (bk.zip s.cs).map endB) (l_lst (by rw [c3, List.map_map]; rfl))
    rw [this]; congr 3; rw [List.all_map]; rfl
  refine ⟨S', ?_, c2⟩
  refine' run_rt (e0 := [some _, some _, none, none]) Q.f62 rfl rfl ?h
  case h => unfold b_62; walk_at "ex"
theorem cell_p (k : Nat) (S : Store) {n x y : Int} (h : 0 < n) : run q W (k + 1) 2 [.int n, .int x, .int y] S = some (.int ((x + y) % n), S) := by
  refine' run_rt Q.f2 rfl rfl ?h
  case h => unfold b_2; walk_at "ex"
theorem flush_p (k : Nat) (S : Store) {s : Sd} {j : Nat} {c : Cr} (hc : s.cs[j]? = some c) : run q W (k + 1) 68 [dSd s, .int j] S = some (.bl (canFl c), S) := by
  have b2 : ev (pm q W k) (.bi .len (.cons (.idx (.idx (.idx (.var 0) (.lit (.int 0))) (.var 1)) (.lit (.int 2))) .nil)) [some (dSd s), some (.int j)] S = some (.int c.late.length, S) :=
    er_bi (er_cons (er_idx (er_idx (er_idx (er_var rfl) (er_lit rfl) (i_tup (atN (n := 0) rfl))) (er_var rfl) (i_tup (map_at hc))) (er_lit rfl) (i_tup (atN (n := 2) rfl))) er_nil) len_tup
  have b3 : cmpop .gt (.int c.late.length) (.int 0) S = some (canFl c) := by
    unfold canFl
    cases c.late with
    | nil => exact c_gt_f (by decide)
    | cons x r => exact c_gt_t (by simp)
  refine' run_rt (e0 := [some _, some _]) Q.f68 rfl rfl ?h
  case h => unfold b_68; walk_at "ex"
theorem cando_p (k : Nat) (S : Store) {bk : List (List Ins)} {s : Sd} {j : Nat} {c : Cr} {rs : List Ins} (hr : bk[j]? = some rs) (hc : s.cs[j]? = some c) (h : c.row ≤ rs.length) : run q W (k + 2) 67 [dBk bk, dSd s, .int j] S = some (.bl (canDo rs c), S) := by
  have a1 := stop_p Q (W := W) k S h
  have b0 : ev (pm q W (k + 1)) (.idx (.idx (.var 1) (.lit (.int 0))) (.var 2)) [some (dBk bk), some (dSd s), some (.int j), none, none, none] S = some (dCr c, S) := er_idx (er_idx (er_var rfl) (er_lit rfl) (i_tup (atN (n := 0) rfl))) (er_var rfl) (i_tup (map_at hc))
  have b1 : ∀ x3 x4 x5, ev (pm q W (k + 1)) (.idx (.var 0) (.var 2)) [some (dBk bk), some (dSd s), some (.int j), x3, x4, x5] S = some (dRows rs, S) := fun _ _ _ => er_idx (er_var rfl) (er_var rfl) (i_tup (map_at hr))
  have go : ∀ r, ex (pm q W (k + 1)) (.seq (.ifs (.call 61 [0, 1] (.cons (.idx (.var 0) (.var 2)) (.cons (.var 3) .nil)) .nil) (.seq (.ret (.lit (.bl false))) .skip) .skip) (.seq (.ret (.or_ (.cmp .eq (.bi .len (.cons (.var 5) .nil)) (.lit (.int 0))) (.cmp .nin (.idx (.idx (.idx (.var 0) (.var 2)) (.var 3)) (.lit (.int 0))) (.glob 5)))) .skip))
      [some (dBk bk), some (dSd s), some (.int j), some (.int c.row), some (.tup (c.regs.map .int)), some (.tup (c.late.map dPr))] S = some (.rt r, [some (dBk bk), some (dSd s), some (.int j), some (.int c.row), some (.tup (c.regs.map .int)), some (.tup (c.late.map dPr))], S) → run q W (k + 2) 67 [dBk bk, dSd s, .int j] S = some (r, S) := by
    intro r hx
    refine' run_rt (e0 := [some _, some _, some _, none, none, none]) Q.f67 rfl rfl ?h
    case h => unfold b_67; exact es_nx (es_asg b0 rfl) hx
  have b2 : ev (pm q W (k + 1)) (.call 61 [0, 1] (.cons (.idx (.var 0) (.var 2)) (.cons (.var 3) .nil)) .nil) [some (dBk bk), some (dSd s), some (.int j), some (.int c.row), some (.tup (c.regs.map .int)), some (.tup (c.late.map dPr))] S = some (.bl (isStop rs c.row), S) :=
    er_call (er_cons (b1 _ _ _) (er_cons (er_var rfl) er_nil)) er_nil rfl a1
  refine go _ ?_
  have g5 := Q.g5
  unfold canDo
  by_cases hz : c.row < rs.length
  · have hx : rs[c.row]? = some rs[c.row] := List.getElem?_eq_getElem hz
    have hs : isStop rs c.row = decide (rs[c.row].nm = "stop") := by unfold isStop; rw [hx]
    rw [hx]
    simp only
    rw [hs] at b2
    by_cases z : rs[c.row].nm = "stop"
    · rw [decide_eq_true z] at b2
      rw [if_pos z]
      walk_at "ex"
    · rw [decide_eq_false z] at b2
      rw [if_neg z]
      have b3 : ev (pm q W (k + 1)) (.bi .len (.cons (.var 5) .nil)) [some (dBk bk), some (dSd s), some (.int j), some (.int c.row), some (.tup (c.regs.map .int)), some (.tup (c.late.map dPr))] S = some (.int c.late.length, S) := er_bi (er_cons (er_var rfl) er_nil) len_tup
      have b4 : ev (pm q W (k + 1)) (.cmp .nin (.idx (.idx (.idx (.var 0) (.var 2)) (.var 3)) (.lit (.int 0))) (.glob 5)) [some (dBk bk), some (dSd s), some (.int j), some (.int c.row), some (.tup (c.regs.map .int)), some (.tup (c.late.map dPr))] S = some (.bl (!(alones.any fun y => decide (y = rs[c.row].nm))), S) :=
        er_cmp (er_idx (er_idx (b1 _ _ _) (er_var rfl) (i_tup (rows_at hx))) (er_lit rfl) (i_tup nm_at)) (er_glob g5) (c_ninT rfl rfl rfl)
      cases hl : c.late with
      | nil =>
        have : (c.late.length : Int) = 0 := by rw [hl]; rfl
        rw [hl] at b2 b3
        exact es_nx (es_if_f b2 es_skip) (es_rt (es_ret (er_or_t (er_cmp b3 (er_lit rfl) (c_eq_t rfl)))))
      | cons x r =>
        rw [hl] at b2 b3 b4
        exact es_nx (es_if_f b2 es_skip) (es_rt (es_ret (er_or_f (er_cmp b3 (er_lit rfl) (c_eq_f (by simp; omega))) b4)))
  · have hx : rs[c.row]? = none := List.getElem?_eq_none (by omega)
    have hs : isStop rs c.row = true := by unfold isStop; rw [hx]
    rw [hx]
    simp only
    rw [hs] at b2
    walk_at "ex"
end
end Tm

set_option Elab.async false
set_option linter.all false
set_option maxRecDepth 100000
set_option maxHeartbeats 8000000
namespace Tm
open PySem L2
local macro_rules | `(tactic| walk_at "sm") => `(tactic| first | assumption | (unfold Sm; first | omega | decide))
local macro_rules | `(tactic| walk_at "in") => `(tactic| first | assumption | omega | decide)
local macro_rules | `(tactic| walk_at "lst") => `(tactic| first | assumption | exact l_last | exact l_lst (by assumption) | exact l_ro (by assumption) | exact l_lst (set_get (by assumption)))
local macro_rules | `(tactic| walk_at "op") => `(tactic| first
  | with_reducible exact o_add
  | with_reducible exact o_sub
  | ((with_reducible refine' o_addT ?h); (case h => first | assumption | exact Nat.le_of_ble_eq_true rfl))
  | with_reducible exact o_band
  | with_reducible exact o_bxor
  | with_reducible exact o_band
  | with_reducible exact o_bxor
  | ((with_reducible refine' o_mod ?h); (case h => walk_at "in"))
  | ((with_reducible refine' o_div ?h ?g); (case h => walk_at "in"); (case g => walk_at "sm"))
  | ((with_reducible refine' o_mul ?h ?g); (case h => walk_at "sm"); (case g => walk_at "sm"))
  | ((with_reducible refine' o_pow ?h ?g); (case h => walk_at "in"); (case g => decide)))
local macro_rules | `(tactic| walk_at "cmp") => `(tactic| first
  | with_reducible assumption
  | with_reducible exact c_isN
  | with_reducible exact c_isnN
  | with_reducible exact c_isT
  | with_reducible exact c_isnT
  | with_reducible exact c_isB
  | ((with_reducible refine' c_eq_t ?h); (case h => walk_at "in"))
  | ((with_reducible refine' c_lt_t ?h); (case h => walk_at "in"))
  | ((with_reducible refine' c_gt_t ?h); (case h => walk_at "in"))
  | ((with_reducible refine' c_ne_t ?h); (case h => walk_at "in"))
  | ((with_reducible refine' c_le_t ?h); (case h => walk_at "in"))
  | ((with_reducible refine' c_ge_t ?h); (case h => walk_at "in"))
  | ((with_reducible refine' c_eq_f ?h); (case h => walk_at "in"))
  | ((with_reducible refine' c_lt_f ?h); (case h => walk_at "in"))
  | ((with_reducible refine' c_gt_f ?h); (case h => walk_at "in"))
  | ((with_reducible refine' c_ne_f ?h); (case h => walk_at "in"))
  | ((with_reducible refine' c_le_f ?h); (case h => walk_at "in"))
  | ((with_reducible refine' c_ge_f ?h); (case h => walk_at "in"))
  | ((with_reducible refine' c_str_t ?h); (case h => with_reducible exact rfl))
  | ((with_reducible refine' c_str_f ?h); (case h => first | assumption | decide))
  | ((with_reducible refine' c_strn_f ?h); (case h => with_reducible exact rfl))
  | ((with_reducible refine' c_strn_t ?h); (case h => first | assumption | decide))
  | ((with_reducible refine' c_in (t := true) ?h ?g ?f ?e); (case h => walk_at "lst"); (case g => exact rfl); (case f => exact rfl); (case e => first | assumption | decide))
  | ((with_reducible refine' c_in (t := false) ?h ?g ?f ?e); (case h => walk_at "lst"); (case g => exact rfl); (case f => exact rfl); (case e => first | assumption | decide))
  | ((with_reducible refine' c_inT (t := true) ?g ?f ?e); (case g => exact rfl); (case f => exact rfl); (case e => first | assumption | decide))
  | ((with_reducible refine' c_inT (t := false) ?g ?f ?e); (case g => exact rfl); (case f => exact rfl); (case e => first | assumption | decide))
  | ((with_reducible refine' c_ninT (t := true) ?g ?f ?e); (case g => exact rfl); (case f => exact rfl); (case e => first | assumption | decide))
  | ((with_reducible refine' c_ninT (t := false) ?g ?f ?e); (case g => exact rfl); (case f => exact rfl); (case e => first | assumption | decide))
  | ((with_reducible refine' c_nin (t := true) ?h ?g ?f ?e); (case h => walk_at "lst"); (case g => exact rfl); (case f => exact rfl); (case e => first | assumption | decide))
  | ((with_reducible refine' c_nin (t := false) ?h ?g ?f ?e); (case h => walk_at "lst"); (case g => exact rfl); (case f => exact rfl); (case e => first | assumption | decide)))
local macro_rules | `(tactic| walk_at "bi") => `(tactic| first | with_reducible assumption | ((with_reducible refine' b_tupL ?h); (case h => walk_at "lst")) | with_reducible exact b_int | with_reducible exact b_bool | with_reducible exact b_abs | with_reducible exact b_max | with_reducible exact b_min | with_reducible exact b_lenT | ((with_reducible refine' b_lenL ?h); (case h => walk_at "lst")) | with_reducible apply_assumption)
local macro_rules | `(tactic| walk_at "pick") => `(tactic| first | with_reducible exact pk1 | with_reducible exact pk2 | with_reducible exact pk3 | with_reducible exact pk4 | with_reducible exact pk5 | with_reducible exact pn1 | with_reducible exact pn2 | with_reducible exact pn3)
local macro_rules | `(tactic| walk_at "call") => `(tactic| first | with_reducible assumption | with_reducible apply_assumption)
local macro_rules | `(tactic| walk_at "ev") => `(tactic| first
  | (with_reducible assumption)
  | ((with_reducible refine' er_env ?he ?h); (case h => with_reducible assumption); (case he => exact rfl))
  | (with_reducible exact er_nil)
  | ((with_reducible refine' er_glob ?h); (case h => assumption))
  | ((with_reducible refine' er_lit ?h); (case h => exact rfl))
  | ((with_reducible refine' er_var ?h); (case h => exact rfl))
  | ((with_reducible refine' er_cons ?h1 ?h2); (case h1 => walk_at "ev"); (case h2 => walk_at "ev"))
  | ((with_reducible refine' er_tup ?h1 ?h2); (case h1 => walk_at "ev"); (case h2 => exact Nat.le_of_ble_eq_true rfl))
  | ((with_reducible refine' er_lst ?h1 ?h2); (case h1 => walk_at "ev"); (case h2 => exact Nat.le_of_ble_eq_true rfl))
  | ((with_reducible refine' er_neg ?h1); (case h1 => walk_at "ev"))
  | ((with_reducible refine' er_isty ?h1 ?h2); (case h1 => walk_at "ev"); (case h2 => first | exact rfl | exact ty_ref (by walk_at "lst")))
  | ((with_reducible refine' er_chain_t ?h1 ?h2 ?h3 ?h4 ?h5); (case h1 => walk_at "ev"); (case h2 => walk_at "ev"); (case h3 => walk_at "cmp"); (case h4 => walk_at "ev"); (case h5 => walk_at "cmp"))
  | ((with_reducible refine' er_slc_to ?h1 ?h2 ?h3 ?h4); (case h1 => walk_at "ev"); (case h2 => exact rfl); (case h3 => walk_at "ev"); (case h4 => first | assumption | omega))
  | ((with_reducible refine' er_slc_from ?h1 ?h2 ?h3 ?h4); (case h1 => walk_at "ev"); (case h2 => exact rfl); (case h3 => walk_at "ev"); (case h4 => first | assumption | omega))
  | ((with_reducible refine' er_app ?h1 ?h2 ?h3); (case h1 => walk_at "ev"); (case h2 => walk_at "ev"); (case h3 => exact push_at (by assumption) (by assumption)))
  | ((with_reducible refine' er_callv ?h1 ?h2 ?h3 ?h4); (case h1 => walk_at "ev"); (case h2 => walk_at "ev"); (case h3 => assumption); (case h4 => walk_at "call"))
  | ((with_reducible refine' er_bin ?h1 ?h2 ?h3); (case h1 => walk_at "ev"); (case h2 => walk_at "ev"); (case h3 => walk_at "op"))
  | ((with_reducible refine' er_idx ?h1 ?h2 ?h3); (case h1 => walk_at "ev"); (case h2 => walk_at "ev"); (case h3 => first | exact i_tup (by first | assumption | rfl) | exact i_lst (by walk_at "lst") (by first | assumption | rfl)))
  | ((with_reducible refine' er_call ?h1 ?h2 ?h3 ?h4); (case h1 => walk_at "ev"); (case h2 => walk_at "ev"); (case h3 => walk_at "pick"); (case h4 => walk_at "call"))
  | ((with_reducible refine' er_bi ?h1 ?h2); (case h1 => walk_at "ev"); (case h2 => walk_at "bi"))
  | ((with_reducible refine' er_cmp ?h1 ?h2 ?h3); (case h1 => walk_at "ev"); (case h2 => walk_at "ev"); (case h3 => walk_at "cmp"))
  | ((with_reducible refine' er_nots ?h1 ?h2); (case h1 => walk_at "ev"); (case h2 => first | exact Neg.t | exact Neg.f))
  | ((with_reducible refine' er_ors ?h1 ?h2); (case h1 => walk_at "ev"); (case h2 => first | exact ors_t | ((with_reducible refine' ors_f ?h3); (case h3 => walk_at "ev"))))
  | ((with_reducible refine' er_ands ?h1 ?h2); (case h1 => walk_at "ev"); (case h2 => first | exact ands_f | ((with_reducible refine' ands_t ?h3); (case h3 => walk_at "ev"))))
  | ((with_reducible refine' er_br ?h1 ?h2); (case h1 => walk_at "ev"); (case h2 => first | ((with_reducible refine' bre_t ?h3); (case h3 => walk_at "ev")) | ((with_reducible refine' bre_f ?h3); (case h3 => walk_at "ev")))))
local macro_rules | `(tactic| walk_at "ex") => `(tactic| first
  | ((with_reducible refine' es_skip2 ?h1 ?h2); (case h1 => exact rfl); (case h2 => exact rfl))
  | ((with_reducible refine' es_sq ?h1 ?h2); (case h1 => walk_at "ex"); (case h2 => first | exact nxt_rt | exact nxt_bk | exact nxt_ct | ((with_reducible refine' nxt_nx ?h3); (case h3 => walk_at "ex"))))
  | ((with_reducible refine' es_ret ?h1); (case h1 => walk_at "ev"))
  | ((with_reducible refine' es_asg ?h1 ?h2); (case h1 => walk_at "ev"); (case h2 => exact rfl))
  | ((with_reducible refine' es_seti ?h1 ?h2 ?h3 ?h4); (case h1 => walk_at "ev"); (case h2 => walk_at "ev"); (case h3 => walk_at "ev"); (case h4 => exact s_set (by first | assumption | exact set_get (by assumption)) rfl))
  | ((with_reducible refine' es_drop ?h1); (case h1 => walk_at "ev"))
  | ((with_reducible refine' es_br ?h1 ?h2); (case h1 => walk_at "ev"); (case h2 => first | ((with_reducible refine' brs_t ?h3); (case h3 => walk_at "ex")) | ((with_reducible refine' brs_f ?h3); (case h3 => walk_at "ex")))))


theorem er_irevT {q : Pr} {W k : Nat} {e : Env'} {S S1 : Store} {a : C} {xs : List D} (h1 : ev (pm q W k) a e S = some (.tup xs, S1)) : ev (pm q W k) (.irev a) e S = some (itD xs.reverse [], S1) := by
  simp only [ev, h1, Option.bind_some, itOf, Option.map_some]
def nextR (i : Ins) (c : Cr) : Int := if i.nm = "jump" then i.g else if i.nm = "ifzero" then (if rg c.regs i.a = 0 then i.g else c.row + 1) else c.row + 1
def b_884l : St := (.seq (.ifs (.and_ (.cmp .isn (.var 3) (.lit .non)) (.cmp .eq (.idx (.var 3) (.lit (.int 0))) (.var 2))) (.seq (.ret (.idx (.var 3) (.lit (.int 1)))) .skip) .skip) .skip)
section
variable {q : Pr} (Q : HK q) {W : Nat}
include Q
theorem reads_p (k : Nat) (S : Store) {nm : Str} (hm : nm ∈ sms) (a b c : Int) : ∃ S', run q W (k + 1) 0 [.tup [.str nm, .int a, .int b, .int c]] S = some (.tup [.int b, .int c], S') ∧ Kp [] S S' := by
  have hk : (lookK (q.kd 0) nm).getD (.tup []) = .tup [.int 2, .int 3] := by
    rw [Q.k0]
    simp only [sms, List.mem_cons, List.not_mem_nil, or_false] at hm
    rcases hm with rfl | rfl | rfl | rfl | rfl <;> rfl
  have i1 : ev (pm q W k) (.itv (.kgetd 0 (.idx (.var 0) (.lit (.int 0))) (.tup .nil))) [some (.tup [.str nm, .int a, .int b, .int c]), none] S = some (itD ([((2 : Int), D.int b), (3, .int c)].map fun p => D.int p.1) [], S) :=
    itv_tup (er_kgetd (er_idx (er_var rfl) (er_lit rfl) (i_tup nm_at)) (er_tup er_nil (Nat.zero_le _)) hk)
  obtain ⟨S', c1, c2, c3⟩ := er_lcG (q := q) (W := W) (k := k) (a := .idx (.var 0) (.var 1)) (t := .nm 1) (own := [1]) (S := S) (fun p : Int × D => D.int p.1) (fun p => p.2) i1 (fun _ _ => rfl) (Nat.le_of_ble_eq_true rfl) (fun p hp S hS => by
    refine ⟨[some (.tup [.str nm, .int a, .int b, .int c]), some (.int p.1)], S, rfl, er_idx (er_var rfl) (er_var rfl) ?_, Kp.refl _ _⟩
    simp only [List.mem_cons, List.not_mem_nil, or_false] at hp
    rcases hp with rfl | rfl <;> rfl)
  have c4 := l_lst c3
  refine ⟨S', ?_, c2⟩
  refine' run_rt (e0 := [some _, none]) Q.f0 rfl rfl ?h
  case h => unfold b_0; exact es_rt (es_ret (er_bi (er_cons c1 er_nil) (b_tupL c4)))
theorem reads_set (k : Nat) (S : Store) (a w : Int) : ∃ S', run q W (k + 1) 0 [.tup [.str "set", .int a, .int w]] S = some (.tup [], S') ∧ Kp [] S S' := by
  have hk : (lookK (q.kd 0) "set").getD (.tup []) = .tup [] := by rw [Q.k0]; rfl
  have i1 : ev (pm q W k) (.itv (.kgetd 0 (.idx (.var 0) (.lit (.int 0))) (.tup .nil))) [some (.tup [.str "set", .int a, .int w]), none] S = some (itD (([] : List D).map fun p => p) [], S) :=
    itv_tup (er_kgetd (er_idx (er_var rfl) (er_lit rfl) (i_tup nm_at)) (er_tup er_nil (Nat.zero_le _)) hk)
  obtain ⟨S', c1, c2, c3⟩ := er_lcG (q := q) (W := W) (k := k) (a := .idx (.var 0) (.var 1)) (t := .nm 1) (own := [1]) (S := S) (fun p : D => p) (fun p => p) i1 (fun _ _ => rfl) (by decide) (fun p hp => by cases hp)
  have c4 := l_lst c3
  refine ⟨S', ?_, c2⟩
  refine' run_rt (e0 := [some _, none]) Q.f0 rfl rfl ?h
  case h => unfold b_0; exact es_rt (es_ret (er_bi (er_cons c1 er_nil) (b_tupL c4)))
theorem result_p {nm : Str} (hm : nm ∈ sms) (k : Nat) (S : Store) (a b c x y : Int) : run q W (k + 1) 3 [.tup [.str nm, .int a, .int b, .int c], .tup [.int x, .int y]] S = some (.int (sumOf nm x y), S) := by
  simp only [sms, List.mem_cons, List.not_mem_nil, or_false] at hm
  rcases hm with rfl | rfl | rfl | rfl | rfl
  · refine' run_rt (b := b_3) Q.f3 rfl rfl ?h; (case h => unfold b_3; walk_at "ex")
  · refine' run_rt (b := b_3) Q.f3 rfl rfl ?h; (case h => unfold b_3; walk_at "ex")
  · refine' run_rt (b := b_3) Q.f3 rfl rfl ?h; (case h => unfold b_3; walk_at "ex")
  · refine' run_rt (b := b_3) Q.f3 rfl rfl ?h; (case h => unfold b_3; walk_at "ex")
  · by_cases h : x < y
    · rw [show sumOf "below" x y = 1 from if_pos h]
      refine' run_rt (b := b_3) Q.f3 rfl rfl ?h; (case h => unfold b_3; walk_at "ex")
    · rw [show sumOf "below" x y = 0 from if_neg h]
      refine' run_rt (b := b_3) Q.f3 rfl rfl ?h; (case h => unfold b_3; walk_at "ex")
theorem result_set (k : Nat) (S : Store) (a w : Int) : run q W (k + 1) 3 [.tup [.str "set", .int a, .int w], .tup []] S = some (.int w, S) := by
  refine' run_rt (b := b_3) Q.f3 rfl rfl ?h; (case h => unfold b_3; walk_at "ex")
theorem access_p (k : Nat) (S : Store) {xs rs : List D} {b v w n : Int} (h2 : atI xs (-2) = some (.int b)) (h1 : atI xs (-1) = some (.int w)) (hb : atI rs b = some (.int v)) (hn : 0 < n) : run q W (k + 2) 63 [.tup xs, .tup rs, .int n] S = some (.int ((v + w) % n), S) := by
  have a1 := cell_p Q (W := W) k S (x := v) (y := w) hn
  refine' run_rt (e0 := [some _, some _, some _]) Q.f63 rfl rfl ?h
  case h => unfold b_63; walk_at "ex"
theorem changed_sw (k : Nat) (S : Store) {r : List D} {x y : D} : run q W (k + 1) 64 [.tup (.str "swap" :: r), x, y] S = some (y, S) := by
  have a1 := nm_at (nm := "swap") (r := r)
  refine' run_rt (e0 := [some _, some _, some _]) Q.f64 rfl rfl ?h
  case h => unfold b_64; walk_at "ex"
theorem changed_ad (k : Nat) (S : Store) {r : List D} {x y : Int} : run q W (k + 1) 64 [.tup (.str "addto" :: r), .int x, .int y] S = some (.int ((x + y) % 65536), S) := by
  have a1 := nm_at (nm := "addto") (r := r)
  refine' run_rt (e0 := [some _, some _, some _]) Q.f64 rfl rfl ?h
  case h => unfold b_64; walk_at "ex"
theorem rowaft_p (k : Nat) (S : Store) {i : Ins} {n : Int} (h : i.ok n) {c : Cr} (hc : c.regs.length = 8) : run q W (k + 1) 65 [dIns i, .int c.row, .tup (c.regs.map .int)] S = some (.int (nextR i c), S) := by
  have ra := rg_at (l := c.regs) h.a0 (by have := h.a1; omega)
  have hm := h.nm
  have g0 := h.g0
  obtain ⟨nm, a, b, cc, w, g⟩ := i
  obtain ⟨row, regs, late⟩ := c
  simp only at ra hm g0 hc ⊢
  have a0 := nm_at (nm := nm) (r := shape nm a b cc w g)
  have e0 : dIns ⟨nm, a, b, cc, w, g⟩ = .tup (.str nm :: shape nm a b cc w g) := rfl
  rw [e0]
  by_cases j : nm = "jump"
  · subst j
    refine' run_rt (e0 := [some _, some _, some _]) Q.f65 rfl rfl ?h
    case h => unfold b_65; walk_at "ex"
  by_cases z : nm = "ifzero"
  · subst z
    by_cases y : rg regs a = 0
    · rw [show nextR ⟨"ifzero", a, b, cc, w, g⟩ ⟨row, regs, late⟩ = g from if_pos y]
      refine' run_rt (e0 := [some _, some _, some _]) Q.f65 rfl rfl ?h
      case h => unfold b_65; walk_at "ex"
    · rw [show nextR ⟨"ifzero", a, b, cc, w, g⟩ ⟨row, regs, late⟩ = row + 1 from if_neg y]
      refine' run_rt (e0 := [some _, some _, some _]) Q.f65 rfl rfl ?h
      case h => unfold b_65; walk_at "ex"
  · rw [show nextR ⟨nm, a, b, cc, w, g⟩ ⟨row, regs, late⟩ = row + 1 from by unfold nextR; rw [if_neg j, if_neg z]]
    have c1 : cmpop .eq (.str nm) (.str "jump") S = some false := c_str_f j
    have c2 : cmpop .eq (.str nm) (.str "ifzero") S = some false := c_str_f z
    refine' run_rt (e0 := [some _, some _, some _]) Q.f65 rfl rfl ?h
    case h => unfold b_65; walk_at "ex"
theorem ld_loop (k : Nat) (S : Store) (v0 v1 : Option D) (cell : Int) : ∀ (l : List (Int × Int)) (x3 : Option D),
    (∃ p e', l.find? (fun p => decide (p.1 = cell)) = some p ∧ forL (ex (pm q W k) b_884l) (.nm 3) [] (l.map dPr) [v0, v1, some (.int cell), x3] S = some (.rt (.int p.2), e', S)) ∨
    (l.find? (fun p => decide (p.1 = cell)) = none ∧ ∃ x3', forL (ex (pm q W k) b_884l) (.nm 3) [] (l.map dPr) [v0, v1, some (.int cell), x3] S = some (.nx, [v0, v1, some (.int cell), x3'], S))
  | [], x3 => .inr ⟨rfl, x3, forL_nil rfl⟩
  | p :: l, x3 => by
    have a0 : atI [D.int p.1, .int p.2] 0 = some (.int p.1) := rfl
    have a1 : atI [D.int p.1, .int p.2] 1 = some (.int p.2) := rfl
    by_cases h : p.1 = cell
    · refine .inl ⟨p, [v0, v1, some (.int cell), some (dPr p)], by rw [List.find?_cons, decide_eq_true h], ?_⟩
      have b1 : ex (pm q W k) b_884l [v0, v1, some (.int cell), some (dPr p)] S = some (.rt (.int p.2), [v0, v1, some (.int cell), some (dPr p)], S) := by
        have c1 : cmpop .isn (dPr p) .non S = some true := rfl
        unfold b_884l
        exact es_rt (es_if_t (er_and_t (er_cmp (er_var rfl) (er_lit rfl) c1) (er_cmp (er_idx (er_var rfl) (er_lit rfl) (i_tup a0)) (er_var rfl) (c_eq_t h))) (es_rt (es_ret (er_idx (er_var rfl) (er_lit rfl) (i_tup a1)))))
      exact forL_rt rfl rfl b1
    · have b1 : ex (pm q W k) b_884l [v0, v1, some (.int cell), some (dPr p)] S = some (.nx, [v0, v1, some (.int cell), some (dPr p)], S) := by
        have c1 : cmpop .isn (dPr p) .non S = some true := rfl
        unfold b_884l
        exact es_nx (es_if_f (er_and_t (er_cmp (er_var rfl) (er_lit rfl) c1) (er_cmp (er_idx (er_var rfl) (er_lit rfl) (i_tup a0)) (er_var rfl) (c_eq_f h))) es_skip) es_skip
      rcases ld_loop k S v0 v1 cell l (some (dPr p)) with ⟨p', e', h1, h2⟩ | ⟨h1, x', h2⟩
      · exact .inl ⟨p', e', by rw [List.find?_cons, decide_eq_false h]; exact h1, forL_nx rfl rfl b1 h2⟩
      · exact .inr ⟨by rw [List.find?_cons, decide_eq_false h]; exact h1, x', forL_nx rfl rfl b1 h2⟩
theorem loaded_p (k : Nat) (S : Store) (late : List (Int × Int)) (m : List Int) {cell : Int} (h0 : 0 ≤ cell) (h1 : cell.toNat < m.length) : run q W (k + 1) 884 [.tup (late.map dPr), .tup (m.map .int), .int cell] S = some (.int (ldW late m cell), S) := by
  have i1 : ev (pm q W k) (.irev (.var 0)) [some (.tup (late.map dPr)), some (.tup (m.map .int)), some (.int cell), none] S = some (itD (late.reverse.map dPr) [], S) := by
    rw [List.map_reverse]; exact er_irevT (er_var rfl)
  unfold ldW
  rcases ld_loop Q k S (some (.tup (late.map dPr))) (some (.tup (m.map .int))) cell late.reverse none (W := W) with ⟨p, e', h2, h3⟩ | ⟨h2, x', h3⟩
  · rw [h2]
    refine' run_rt (e0 := [some _, some _, some _, none]) Q.f884 rfl rfl ?h
    case h => unfold b_884; exact es_rt (es_for i1 h3)
  · rw [h2]
    have ra := rg_at h0 h1
    refine' run_rt (e0 := [some _, some _, some _, none]) Q.f884 rfl rfl ?h
    case h => unfold b_884; exact es_nx (es_for i1 h3) (es_rt (es_ret (er_idx (er_var rfl) (er_var rfl) (i_tup ra))))
end
end Tm

set_option Elab.async false
set_option linter.all false
set_option maxRecDepth 100000
set_option maxHeartbeats 8000000
namespace Tm
open PySem L2
local macro_rules | `(tactic| walk_at "sm") => `(tactic| first | assumption | (unfold Sm; first | omega | decide))
local macro_rules | `(tactic| walk_at "in") => `(tactic| first | assumption | omega | decide)
local macro_rules | `(tactic| walk_at "lst") => `(tactic| first | assumption | exact l_last | exact l_lst (by assumption) | exact l_ro (by assumption) | exact l_lst (set_get (by assumption)))
local macro_rules | `(tactic| walk_at "op") => `(tactic| first
  | with_reducible exact o_add
  | with_reducible exact o_sub
  | ((with_reducible refine' o_addT ?h); (case h => first | assumption | exact Nat.le_of_ble_eq_true rfl))
  | with_reducible exact o_band
  | with_reducible exact o_bxor
  | with_reducible exact o_band
  | with_reducible exact o_bxor
  | ((with_reducible refine' o_mod ?h); (case h => walk_at "in"))
  | ((with_reducible refine' o_div ?h ?g); (case h => walk_at "in"); (case g => walk_at "sm"))
  | ((with_reducible refine' o_mul ?h ?g); (case h => walk_at "sm"); (case g => walk_at "sm"))
  | ((with_reducible refine' o_pow ?h ?g); (case h => walk_at "in"); (case g => decide)))
local macro_rules | `(tactic| walk_at "cmp") => `(tactic| first
  | with_reducible assumption
  | with_reducible exact c_isN
  | with_reducible exact c_isnN
  | with_reducible exact c_isT
  | with_reducible exact c_isnT
  | with_reducible exact c_isB
  | ((with_reducible refine' c_eq_t ?h); (case h => walk_at "in"))
  | ((with_reducible refine' c_lt_t ?h); (case h => walk_at "in"))
  | ((with_reducible refine' c_gt_t ?h); (case h => walk_at "in"))
  | ((with_reducible refine' c_ne_t ?h); (case h => walk_at "in"))
  | ((with_reducible refine' c_le_t ?h); (case h => walk_at "in"))
  | ((with_reducible refine' c_ge_t ?h); (case h => walk_at "in"))
  | ((with_reducible refine' c_eq_f ?h); (case h => walk_at "in"))
  | ((with_reducible refine' c_lt_f ?h); (case h => walk_at "in"))
  | ((with_reducible refine' c_gt_f ?h); (case h => walk_at "in"))
  | ((with_reducible refine' c_ne_f ?h); (case h => walk_at "in"))
  | ((with_reducible refine' c_le_f ?h); (case h => walk_at "in"))
  | ((with_reducible refine' c_ge_f ?h); (case h => walk_at "in"))
  | ((with_reducible refine' c_str_t ?h); (case h => with_reducible exact rfl))
  | ((with_reducible refine' c_str_f ?h); (case h => first | assumption | decide))
  | ((with_reducible refine' c_strn_f ?h); (case h => with_reducible exact rfl))
  | ((with_reducible refine' c_strn_t ?h); (case h => first | assumption | decide))
  | ((with_reducible refine' c_in (t := true) ?h ?g ?f ?e); (case h => walk_at "lst"); (case g => exact rfl); (case f => exact rfl); (case e => first | assumption | decide))
  | ((with_reducible refine' c_in (t := false) ?h ?g ?f ?e); (case h => walk_at "lst"); (case g => exact rfl); (case f => exact rfl); (case e => first | assumption | decide))
  | ((with_reducible refine' c_inT (t := true) ?g ?f ?e); (case g => exact rfl); (case f => exact rfl); (case e => first | assumption | decide))
  | ((with_reducible refine' c_inT (t := false) ?g ?f ?e); (case g => exact rfl); (case f => exact rfl); (case e => first | assumption | decide))
  | ((with_reducible refine' c_ninT (t := true) ?g ?f ?e); (case g => exact rfl); (case f => exact rfl); (case e => first | assumption | decide))
  | ((with_reducible refine' c_ninT (t := false) ?g ?f ?e); (case g => exact rfl); (case f => exact rfl); (case e => first | assumption | decide))
  | ((with_reducible refine' c_nin (t := true) ?h ?g ?f ?e); (case h => walk_at "lst"); (case g => exact rfl); (case f => exact rfl); (case e => first | assumption | decide))
  | ((with_reducible refine' c_nin (t := false) ?h ?g ?f ?e); (case h => walk_at "lst"); (case g => exact rfl); (case f => exact rfl); (case e => first | assumption | decide)))
local macro_rules | `(tactic| walk_at "bi") => `(tactic| first | with_reducible assumption | ((with_reducible refine' b_tupL ?h); (case h => walk_at "lst")) | with_reducible exact b_int | with_reducible exact b_bool | with_reducible exact b_abs | with_reducible exact b_max | with_reducible exact b_min | with_reducible exact b_lenT | ((with_reducible refine' b_lenL ?h); (case h => walk_at "lst")) | with_reducible apply_assumption)
local macro_rules | `(tactic| walk_at "pick") => `(tactic| first | with_reducible exact pk1 | with_reducible exact pk2 | with_reducible exact pk3 | with_reducible exact pk4 | with_reducible exact pk5 | with_reducible exact pn1 | with_reducible exact pn2 | with_reducible exact pn3)
local macro_rules | `(tactic| walk_at "call") => `(tactic| first | with_reducible assumption | with_reducible apply_assumption)
local macro_rules | `(tactic| walk_at "ev") => `(tactic| first
  | (with_reducible assumption)
  | ((with_reducible refine' er_env ?he ?h); (case h => with_reducible assumption); (case he => exact rfl))
  | (with_reducible exact er_nil)
  | ((with_reducible refine' er_glob ?h); (case h => assumption))
  | ((with_reducible refine' er_lit ?h); (case h => exact rfl))
  | ((with_reducible refine' er_var ?h); (case h => exact rfl))
  | ((with_reducible refine' er_cons ?h1 ?h2); (case h1 => walk_at "ev"); (case h2 => walk_at "ev"))
  | ((with_reducible refine' er_tup ?h1 ?h2); (case h1 => walk_at "ev"); (case h2 => exact Nat.le_of_ble_eq_true rfl))
  | ((with_reducible refine' er_lst ?h1 ?h2); (case h1 => walk_at "ev"); (case h2 => exact Nat.le_of_ble_eq_true rfl))
  | ((with_reducible refine' er_neg ?h1); (case h1 => walk_at "ev"))
  | ((with_reducible refine' er_isty ?h1 ?h2); (case h1 => walk_at "ev"); (case h2 => first | exact rfl | exact ty_ref (by walk_at "lst")))
  | ((with_reducible refine' er_chain_t ?h1 ?h2 ?h3 ?h4 ?h5); (case h1 => walk_at "ev"); (case h2 => walk_at "ev"); (case h3 => walk_at "cmp"); (case h4 => walk_at "ev"); (case h5 => walk_at "cmp"))
  | ((with_reducible refine' er_slc_to ?h1 ?h2 ?h3 ?h4); (case h1 => walk_at "ev"); (case h2 => exact rfl); (case h3 => walk_at "ev"); (case h4 => first | assumption | omega))
  | ((with_reducible refine' er_slc_from ?h1 ?h2 ?h3 ?h4); (case h1 => walk_at "ev"); (case h2 => exact rfl); (case h3 => walk_at "ev"); (case h4 => first | assumption | omega))
  | ((with_reducible refine' er_app ?h1 ?h2 ?h3); (case h1 => walk_at "ev"); (case h2 => walk_at "ev"); (case h3 => exact push_at (by assumption) (by assumption)))
  | ((with_reducible refine' er_callv ?h1 ?h2 ?h3 ?h4); (case h1 => walk_at "ev"); (case h2 => walk_at "ev"); (case h3 => assumption); (case h4 => walk_at "call"))
  | ((with_reducible refine' er_bin ?h1 ?h2 ?h3); (case h1 => walk_at "ev"); (case h2 => walk_at "ev"); (case h3 => walk_at "op"))
  | ((with_reducible refine' er_idx ?h1 ?h2 ?h3); (case h1 => walk_at "ev"); (case h2 => walk_at "ev"); (case h3 => first | exact i_tup (by first | assumption | rfl) | exact i_lst (by walk_at "lst") (by first | assumption | rfl)))
  | ((with_reducible refine' er_call ?h1 ?h2 ?h3 ?h4); (case h1 => walk_at "ev"); (case h2 => walk_at "ev"); (case h3 => walk_at "pick"); (case h4 => walk_at "call"))
  | ((with_reducible refine' er_bi ?h1 ?h2); (case h1 => walk_at "ev"); (case h2 => walk_at "bi"))
  | ((with_reducible refine' er_cmp ?h1 ?h2 ?h3); (case h1 => walk_at "ev"); (case h2 => walk_at "ev"); (case h3 => walk_at "cmp"))
  | ((with_reducible refine' er_nots ?h1 ?h2); (case h1 => walk_at "ev"); (case h2 => first | exact Neg.t | exact Neg.f))
  | ((with_reducible refine' er_ors ?h1 ?h2); (case h1 => walk_at "ev"); (case h2 => first | exact ors_t | ((with_reducible refine' ors_f ?h3); (case h3 => walk_at "ev"))))
  | ((with_reducible refine' er_ands ?h1 ?h2); (case h1 => walk_at "ev"); (case h2 => first | exact ands_f | ((with_reducible refine' ands_t ?h3); (case h3 => walk_at "ev"))))
  | ((with_reducible refine' er_br ?h1 ?h2); (case h1 => walk_at "ev"); (case h2 => first | ((with_reducible refine' bre_t ?h3); (case h3 => walk_at "ev")) | ((with_reducible refine' bre_f ?h3); (case h3 => walk_at "ev")))))
local macro_rules | `(tactic| walk_at "ex") => `(tactic| first
  | ((with_reducible refine' es_skip2 ?h1 ?h2); (case h1 => exact rfl); (case h2 => exact rfl))
  | ((with_reducible refine' es_sq ?h1 ?h2); (case h1 => walk_at "ex"); (case h2 => first | exact nxt_rt | exact nxt_bk | exact nxt_ct | ((with_reducible refine' nxt_nx ?h3); (case h3 => walk_at "ex"))))
  | ((with_reducible refine' es_ret ?h1); (case h1 => walk_at "ev"))
  | ((with_reducible refine' es_asg ?h1 ?h2); (case h1 => walk_at "ev"); (case h2 => exact rfl))
  | ((with_reducible refine' es_seti ?h1 ?h2 ?h3 ?h4); (case h1 => walk_at "ev"); (case h2 => walk_at "ev"); (case h3 => walk_at "ev"); (case h4 => exact s_set (by first | assumption | exact set_get (by assumption)) rfl))
  | ((with_reducible refine' es_drop ?h1); (case h1 => walk_at "ev"))
  | ((with_reducible refine' es_br ?h1 ?h2); (case h1 => walk_at "ev"); (case h2 => first | ((with_reducible refine' brs_t ?h3); (case h3 => walk_at "ex")) | ((with_reducible refine' brs_f ?h3); (case h3 => walk_at "ex")))))


def m_69 : St := (.ifs (.or_ (.cmp .eq (.var 9) (.lit (.str "set"))) (.cmp .in_ (.var 9) (.glob 3))) (.seq (.asg (.nm 11) (.call 3 [0, 1] (.cons (.var 8) (.cons (.bi .tuple (.cons (.lc (.itv (.call 0 [0] (.cons (.var 8) .nil) .nil)) (.nm 14) (.lit (.bl true)) (.idx (.var 6) (.var 14)) [14]) .nil)) .nil)) .nil))
  (.seq (.asg (.nm 6) (.call 56 [0, 1, 2] (.cons (.var 6) (.cons (.idx (.var 8) (.lit (.int 1))) (.cons (.var 11) .nil))) .nil))
  .skip)) (.seq (.ifs (.cmp .in_ (.var 9) (.tup (.cons (.lit (.str "load")) (.cons (.lit (.str "store")) (.cons (.lit (.str "swap")) (.cons (.lit (.str "addto")) .nil)))))) (.seq (.asg (.nm 12) (.call 63 [0, 1, 2] (.cons (.var 8) (.cons (.var 6) (.cons (.bi .len (.cons (.var 4) .nil)) .nil))) .nil))
  (.seq (.ifs (.cmp .eq (.var 9) (.lit (.str "store"))) (.seq (.asg (.nm 7) (.bin .add (.var 7) (.tup (.cons (.tup (.cons (.var 12) (.cons (.idx (.var 6) (.idx (.var 8) (.lit (.int 1)))) .nil))) .nil))))
  .skip) (.seq (.ifs (.cmp .eq (.var 9) (.lit (.str "load"))) (.seq (.asg (.nm 6) (.call 56 [0, 1, 2] (.cons (.var 6) (.cons (.idx (.var 8) (.lit (.int 1))) (.cons (.call 884 [0, 1, 2] (.cons (.var 7) (.cons (.var 4) (.cons (.var 12) .nil))) .nil) .nil))) .nil))
  .skip) (.seq (.asg (.nm 13) (.idx (.var 4) (.var 12)))
  (.seq (.asg (.nm 4) (.call 56 [0, 1, 2] (.cons (.var 4) (.cons (.var 12) (.cons (.call 64 [0, 1, 2] (.cons (.var 8) (.cons (.var 13) (.cons (.idx (.var 6) (.idx (.var 8) (.lit (.int 2)))) .nil))) .nil) .nil))) .nil))
  (.seq (.asg (.nm 6) (.call 56 [0, 1, 2] (.cons (.var 6) (.cons (.idx (.var 8) (.lit (.int 1))) (.cons (.var 13) .nil))) .nil))
  .skip))))
  .skip))
  .skip)) .skip)
  .skip))
def r_69 : C := (.tup (.cons (.call 56 [0, 1, 2] (.cons (.var 3) (.cons (.var 2) (.cons (.tup (.cons (.var 10) (.cons (.var 6) (.cons (.var 7) .nil)))) .nil))) .nil) (.cons (.var 4) .nil)))
theorem b69_eq : b_69 = (.seq (.asg (.tp 2 (.cons (.nm 3) (.cons (.nm 4) .nil))) (.var 1))
  (.seq (.asg (.tp 3 (.cons (.nm 5) (.cons (.nm 6) (.cons (.nm 7) .nil)))) (.idx (.var 3) (.var 2)))
  (.seq (.asg (.nm 8) (.idx (.idx (.var 0) (.var 2)) (.var 5)))
  (.seq (.asg (.nm 9) (.idx (.var 8) (.lit (.int 0))))
  (.seq (.asg (.nm 10) (.call 65 [0, 1, 2] (.cons (.var 8) (.cons (.var 5) (.cons (.var 6) .nil))) .nil))
  (.seq m_69 (.seq (.ret r_69) .skip))))))) := rfl
/-- what the middle of after_do makes of registers, late stores and memory -/
def MidTo (q : Pr) (W k : Nat) (i : Ins) (c : Cr) (m : List Int) (rgs : List Int) (lt : List (Int × Int)) (m' : List Int) : Prop :=
  ∀ (v0 v1 v2 v3 : D) (S : Store), ∃ (v11 v12 v13 : Option D) (S' : Store), ex (pm q W k) m_69 [some v0, some v1, some v2, some v3, some (.tup (m.map .int)), some (.int c.row), some (.tup (c.regs.map .int)), some (.tup (c.late.map dPr)), some (dIns i), some (.str i.nm), some (.int (nextR i c)), none, none, none, none] S
    = some (.nx, [some v0, some v1, some v2, some v3, some (.tup (m'.map .int)), some (.int c.row), some (.tup (rgs.map .int)), some (.tup (lt.map dPr)), some (dIns i), some (.str i.nm), some (.int (nextR i c)), v11, v12, v13, none], S') ∧ Kp [] S S'
section
variable {q : Pr} (Q : HK q) {W : Nat}
include Q
theorem doall (k : Nat) (S : Store) {bk : List (List Ins)} {s : Sd} {j : Nat} {c : Cr} {rs : List Ins} {i : Ins} {rgs : List Int} {lt : List (Int × Int)} {m' : List Int} {n : Int} (hr : bk[j]? = some rs) (hc : s.cs[j]? = some c) (hi : rs[c.row]? = some i) (ok : i.ok n) (h8 : c.regs.length = 8)
    (hl : s.cs.length ≤ 4) (mid : MidTo q W (k + 1) i c s.mem rgs lt m') : ∃ S', run q W (k + 2) 69 [dBk bk, dSd s, .int j] S = some (.tup [.tup ((s.cs.map dCr).set j (.tup [.int (nextR i c), .tup (rgs.map .int), .tup (lt.map dPr)])), .tup (m'.map .int)], S') ∧ Kp [] S S' := by
  obtain ⟨v11, v12, v13, S', h1, h2⟩ := mid (dBk bk) (dSd s) (.int j) (.tup (s.cs.map dCr)) S
  refine ⟨S', ?_, h2⟩
  have a1 := rowaft_p Q (W := W) k S ok h8
  have hj : j < s.cs.length := (List.getElem?_eq_some_iff.mp hc).1
  have a2 := repl_p Q (W := W) k S' (xs := s.cs.map dCr) (i := j) (x := .tup [.int (nextR i c), .tup (rgs.map .int), .tup (lt.map dPr)]) (by omega) (by simpa using hj) (by simp; omega)
  rw [Int.toNat_natCast] at a2
  have p1 : ev (pm q W (k + 1)) (.idx (.var 3) (.var 2)) [some (dBk bk), some (dSd s), some (.int j), some (.tup (s.cs.map dCr)), some (.tup (s.mem.map .int)), none, none, none, none, none, none, none, none, none, none] S = some (dCr c, S) := er_idx (er_var rfl) (er_var rfl) (i_tup (map_at hc))
  refine' run_rt (e0 := [some _, some _, some _, none, none, none, none, none, none, none, none, none, none, none, none]) Q.f69 rfl rfl ?h
  case h =>
    rw [b69_eq]
    refine' es_nx (es_asg (er_var rfl) rfl) ?_
    refine' es_nx (es_asg p1 rfl) ?_
    refine' es_nx (es_asg (er_idx (er_idx (er_var rfl) (er_var rfl) (i_tup (map_at hr))) (er_var rfl) (i_tup (map_at hi))) rfl) ?_
    refine' es_nx (es_asg (er_idx (er_var rfl) (er_lit rfl) (i_tup (nm_at (nm := i.nm)))) rfl) ?_
    refine' es_nx (es_asg (er_call (er_cons (er_var rfl) (er_cons (er_var rfl) (er_cons (er_var rfl) er_nil))) er_nil rfl a1) rfl) ?_
    refine' es_nx h1 ?_
    refine' es_rt (es_ret ?_)
    unfold r_69
    refine' er_tup (ds := [.tup ((s.cs.map dCr).set j (.tup [.int (nextR i c), .tup (rgs.map .int), .tup (lt.map dPr)])), .tup (m'.map .int)]) (er_cons (er_call (er_cons (er_var rfl) (er_cons (er_var rfl) (er_cons (er_tup (er_cons (er_var rfl) (er_cons (er_var rfl) (er_cons (er_var rfl) er_nil))) (Nat.le_of_ble_eq_true rfl)) er_nil))) er_nil rfl a2) (er_cons (er_var rfl) er_nil)) (Nat.le_of_ble_eq_true rfl)
theorem mid_set (k : Nat) {a b cc w g : Int} {c : Cr} {m : List Int} (h8 : c.regs.length = 8) (a0 : 0 ≤ a) (a1 : a < 8) : MidTo q W (k + 1) ⟨"set", a, b, cc, w, g⟩ c m (c.regs.set a.toNat w) c.late m := by
  intro v0 v1 v2 v3 S
  obtain ⟨S1, r1, k1⟩ := reads_set Q (W := W) k S a w
  obtain ⟨row, regs, late⟩ := c
  simp only at h8 ⊢
  have i1 : ev (pm q W (k + 1)) (.itv (.call 0 [0] (.cons (.var 8) .nil) .nil)) [some v0, some v1, some v2, some v3, some (.tup (m.map .int)), some (.int row), some (.tup (regs.map .int)), some (.tup (late.map dPr)), some (dIns ⟨"set", a, b, cc, w, g⟩), some (.str "set"), some (.int (nextR ⟨"set", a, b, cc, w, g⟩ ⟨row, regs, late⟩)), none, none, none, none] S = some (itD (([] : List D).map fun p => p) [], S1) :=
    itv_tup (er_call (er_cons (er_var rfl) er_nil) er_nil rfl r1)
  obtain ⟨S2, c1, c2, c3⟩ := er_lcG (q := q) (W := W) (k := k + 1) (a := .idx (.var 6) (.var 14)) (t := .nm 14) (own := [14]) (S := S) (fun p : D => p) (fun p => p) i1 (fun _ _ => rfl) (by decide) (fun p hp => by cases hp)
  have c4 := l_lst c3
  have r2 := result_set Q (W := W) k S2 a w
  have r3 := repl_p Q (W := W) k S2 (xs := regs.map .int) (i := a) (x := .int w) a0 (by simp; omega) (by simp; omega)
  have d1 : (dIns ⟨"set", a, b, cc, w, g⟩) = .tup [.str "set", .int a, .int w] := rfl
  refine ⟨some (.int w), none, none, S2, ?_, k1.trans c2⟩
  rw [List.map_set]
  unfold m_69
  refine' es_if_t (er_or_t (er_cmp (er_var rfl) (er_lit rfl) (c_str_t rfl))) ?_
  refine' es_nx (es_asg (er_call (er_cons (er_var rfl) (er_cons (er_bi (er_cons c1 er_nil) (b_tupL c4)) er_nil)) er_nil rfl r2) rfl) ?_
  exact es_nx (es_asg (er_call (er_cons (er_var rfl) (er_cons (er_idx (er_var rfl) (er_lit rfl) (i_tup (atN (n := 1) rfl))) (er_cons (er_var rfl) er_nil))) er_nil rfl r3) rfl) es_skip
theorem mid_sum (k : Nat) {nm : Str} (hm : nm ∈ sms) {a b cc w g : Int} {c : Cr} {m : List Int} (h8 : c.regs.length = 8) (a0 : 0 ≤ a) (a1 : a < 8) (b0 : 0 ≤ b) (b1 : b < 8) (cc0 : 0 ≤ cc) (cc1 : cc < 8) :
    MidTo q W (k + 1) ⟨nm, a, b, cc, w, g⟩ c m (c.regs.set a.toNat (sumOf nm (rg c.regs b) (rg c.regs cc))) c.late m := by
  intro v0 v1 v2 v3 S
  obtain ⟨S1, r1, k1⟩ := reads_p Q (W := W) k S hm a b cc
  obtain ⟨row, regs, late⟩ := c
  simp only at h8 ⊢
  have rb := rg_at (l := regs) b0 (by omega)
  have rc := rg_at (l := regs) cc0 (by omega)
  have d1 : (dIns ⟨nm, a, b, cc, w, g⟩) = .tup [.str nm, .int a, .int b, .int cc] := by
    simp only [sms, List.mem_cons, List.not_mem_nil, or_false] at hm
    rcases hm with rfl | rfl | rfl | rfl | rfl <;> rfl
  have n1 : ¬ nm = "set" := by
    simp only [sms, List.mem_cons, List.not_mem_nil, or_false] at hm
    rcases hm with rfl | rfl | rfl | rfl | rfl <;> decide
  have n2 : ([D.str "add", .str "sub", .str "and", .str "xor", .str "below"].any fun y => scEq y (.str nm)) = true := by
    simp only [sms, List.mem_cons, List.not_mem_nil, or_false] at hm
    rcases hm with rfl | rfl | rfl | rfl | rfl <;> decide
  rw [d1]
  have i1 : ev (pm q W (k + 1)) (.itv (.call 0 [0] (.cons (.var 8) .nil) .nil)) [some v0, some v1, some v2, some v3, some (.tup (m.map .int)), some (.int row), some (.tup (regs.map .int)), some (.tup (late.map dPr)), some (.tup [.str nm, .int a, .int b, .int cc]), some (.str nm), some (.int (nextR ⟨nm, a, b, cc, w, g⟩ ⟨row, regs, late⟩)), none, none, none, none] S = some (itD ([(b, rg regs b), (cc, rg regs cc)].map fun p : Int × Int => D.int p.1) [], S1) :=
    itv_tup (er_call (er_cons (er_var rfl) er_nil) er_nil rfl r1)
  obtain ⟨S2, c1, c2, c3⟩ := er_lcG (q := q) (W := W) (k := k + 1) (a := .idx (.var 6) (.var 14)) (t := .nm 14) (own := [14]) (S := S) (fun p : Int × Int => D.int p.1) (fun p => D.int p.2) i1 (fun _ _ => rfl) (Nat.le_of_ble_eq_true rfl) (fun p hp S hS => by
    refine ⟨_, S, rfl, er_idx (er_var rfl) (er_var rfl) (i_tup ?_), Kp.refl _ _⟩
    simp only [List.mem_cons, List.not_mem_nil, or_false] at hp
    rcases hp with rfl | rfl
    · exact rb
    · exact rc)
  have c4 := l_lst c3
  have r2 := result_p Q (W := W) hm k S2 a b cc (rg regs b) (rg regs cc)
  have r3 := repl_p Q (W := W) k S2 (xs := regs.map .int) (i := a) (x := .int (sumOf nm (rg regs b) (rg regs cc))) a0 (by simp; omega) (by simp; omega)
  refine ⟨some (.int (sumOf nm (rg regs b) (rg regs cc))), none, none, S2, ?_, k1.trans c2⟩
  rw [List.map_set]
  unfold m_69
  refine' es_if_t (er_or_f (er_cmp (er_var rfl) (er_lit rfl) (c_str_f n1)) (er_cmp (er_var rfl) (er_glob Q.g3) (c_inT rfl rfl n2))) ?_
  refine' es_nx (es_asg (er_call (er_cons (er_var rfl) (er_cons (er_bi (er_cons c1 er_nil) (b_tupL c4)) er_nil)) er_nil rfl r2) rfl) ?_
  exact es_nx (es_asg (er_call (er_cons (er_var rfl) (er_cons (er_idx (er_var rfl) (er_lit rfl) (i_tup (atN (n := 1) rfl))) (er_cons (er_var rfl) er_nil))) er_nil rfl r3) rfl) es_skip
end
end Tm

set_option Elab.async false
set_option linter.all false
set_option maxRecDepth 100000
set_option maxHeartbeats 8000000
namespace Tm
open PySem L2
local macro_rules | `(tactic| walk_at "sm") => `(tactic| first | assumption | (unfold Sm; first | omega | decide))
local macro_rules | `(tactic| walk_at "in") => `(tactic| first | assumption | omega | decide)
local macro_rules | `(tactic| walk_at "lst") => `(tactic| first | assumption | exact l_last | exact l_lst (by assumption) | exact l_ro (by assumption) | exact l_lst (set_get (by assumption)))
local macro_rules | `(tactic| walk_at "op") => `(tactic| first
  | with_reducible exact o_add
  | with_reducible exact o_sub
  | ((with_reducible refine' o_addT ?h); (case h => first | assumption | exact Nat.le_of_ble_eq_true rfl))
  | with_reducible exact o_band
  | with_reducible exact o_bxor
  | with_reducible exact o_band
  | with_reducible exact o_bxor
  | ((with_reducible refine' o_mod ?h); (case h => walk_at "in"))
  | ((with_reducible refine' o_div ?h ?g); (case h => walk_at "in"); (case g => walk_at "sm"))
  | ((with_reducible refine' o_mul ?h ?g); (case h => walk_at "sm"); (case g => walk_at "sm"))
  | ((with_reducible refine' o_pow ?h ?g); (case h => walk_at "in"); (case g => decide)))
local macro_rules | `(tactic| walk_at "cmp") => `(tactic| first
  | with_reducible assumption
  | with_reducible exact c_isN
  | with_reducible exact c_isnN
  | with_reducible exact c_isT
  | with_reducible exact c_isnT
  | with_reducible exact c_isB
  | ((with_reducible refine' c_eq_t ?h); (case h => walk_at "in"))
  | ((with_reducible refine' c_lt_t ?h); (case h => walk_at "in"))
  | ((with_reducible refine' c_gt_t ?h); (case h => walk_at "in"))
  | ((with_reducible refine' c_ne_t ?h); (case h => walk_at "in"))
  | ((with_reducible refine' c_le_t ?h); (case h => walk_at "in"))
  | ((with_reducible refine' c_ge_t ?h); (case h => walk_at "in"))
  | ((with_reducible refine' c_eq_f ?h); (case h => walk_at "in"))
  | ((with_reducible refine' c_lt_f ?h); (case h => walk_at "in"))
  | ((with_reducible refine' c_gt_f ?h); (case h => walk_at "in"))
  | ((with_reducible refine' c_ne_f ?h); (case h => walk_at "in"))
  | ((with_reducible refine' c_le_f ?h); (case h => walk_at "in"))
  | ((with_reducible refine' c_ge_f ?h); (case h => walk_at "in"))
  | ((with_reducible refine' c_str_t ?h); (case h => with_reducible exact rfl))
  | ((with_reducible refine' c_str_f ?h); (case h => first | assumption | decide))
  | ((with_reducible refine' c_strn_f ?h); (case h => with_reducible exact rfl))
  | ((with_reducible refine' c_strn_t ?h); (case h => first | assumption | decide))
  | ((with_reducible refine' c_in (t := true) ?h ?g ?f ?e); (case h => walk_at "lst"); (case g => exact rfl); (case f => exact rfl); (case e => first | assumption | decide))
  | ((with_reducible refine' c_in (t := false) ?h ?g ?f ?e); (case h => walk_at "lst"); (case g => exact rfl); (case f => exact rfl); (case e => first | assumption | decide))
  | ((with_reducible refine' c_inT (t := true) ?g ?f ?e); (case g => exact rfl); (case f => exact rfl); (case e => first | assumption | decide))
  | ((with_reducible refine' c_inT (t := false) ?g ?f ?e); (case g => exact rfl); (case f => exact rfl); (case e => first | assumption | decide))
  | ((with_reducible refine' c_ninT (t := true) ?g ?f ?e); (case g => exact rfl); (case f => exact rfl); (case e => first | assumption | decide))
  | ((with_reducible refine' c_ninT (t := false) ?g ?f ?e); (case g => exact rfl); (case f => exact rfl); (case e => first | assumption | decide))
  | ((with_reducible refine' c_nin (t := true) ?h ?g ?f ?e); (case h => walk_at "lst"); (case g => exact rfl); (case f => exact rfl); (case e => first | assumption | decide))
  | ((with_reducible refine' c_nin (t := false) ?h ?g ?f ?e); (case h => walk_at "lst"); (case g => exact rfl); (case f => exact rfl); (case e => first | assumption | decide)))
local macro_rules | `(tactic| walk_at "bi") => `(tactic| first | with_reducible assumption | ((with_reducible refine' b_tupL ?h); (case h => walk_at "lst")) | with_reducible exact b_int | with_reducible exact b_bool | with_reducible exact b_abs | with_reducible exact b_max | with_reducible exact b_min | with_reducible exact b_lenT | ((with_reducible refine' b_lenL ?h); (case h => walk_at "lst")) | with_reducible apply_assumption)
local macro_rules | `(tactic| walk_at "pick") => `(tactic| first | with_reducible exact pk1 | with_reducible exact pk2 | with_reducible exact pk3 | with_reducible exact pk4 | with_reducible exact pk5 | with_reducible exact pn1 | with_reducible exact pn2 | with_reducible exact pn3)
local macro_rules | `(tactic| walk_at "call") => `(tactic| first | with_reducible assumption | with_reducible apply_assumption)
local macro_rules | `(tactic| walk_at "ev") => `(tactic| first
  | (with_reducible assumption)
  | ((with_reducible refine' er_env ?he ?h); (case h => with_reducible assumption); (case he => exact rfl))
  | (with_reducible exact er_nil)
  | ((with_reducible refine' er_glob ?h); (case h => assumption))
  | ((with_reducible refine' er_lit ?h); (case h => exact rfl))
  | ((with_reducible refine' er_var ?h); (case h => exact rfl))
  | ((with_reducible refine' er_cons ?h1 ?h2); (case h1 => walk_at "ev"); (case h2 => walk_at "ev"))
  | ((with_reducible refine' er_tup ?h1 ?h2); (case h1 => walk_at "ev"); (case h2 => exact Nat.le_of_ble_eq_true rfl))
  | ((with_reducible refine' er_lst ?h1 ?h2); (case h1 => walk_at "ev"); (case h2 => exact Nat.le_of_ble_eq_true rfl))
  | ((with_reducible refine' er_neg ?h1); (case h1 => walk_at "ev"))
  | ((with_reducible refine' er_isty ?h1 ?h2); (case h1 => walk_at "ev"); (case h2 => first | exact rfl | exact ty_ref (by walk_at "lst")))
  | ((with_reducible refine' er_chain_t ?h1 ?h2 ?h3 ?h4 ?h5); (case h1 => walk_at "ev"); (case h2 => walk_at "ev"); (case h3 => walk_at "cmp"); (case h4 => walk_at "ev"); (case h5 => walk_at "cmp"))
  | ((with_reducible refine' er_slc_to ?h1 ?h2 ?h3 ?h4); (case h1 => walk_at "ev"); (case h2 => exact rfl); (case h3 => walk_at "ev"); (case h4 => first | assumption | omega))
  | ((with_reducible refine' er_slc_from ?h1 ?h2 ?h3 ?h4); (case h1 => walk_at "ev"); (case h2 => exact rfl); (case h3 => walk_at "ev"); (case h4 => first | assumption | omega))
  | ((with_reducible refine' er_app ?h1 ?h2 ?h3); (case h1 => walk_at "ev"); (case h2 => walk_at "ev"); (case h3 => exact push_at (by assumption) (by assumption)))
  | ((with_reducible refine' er_callv ?h1 ?h2 ?h3 ?h4); (case h1 => walk_at "ev"); (case h2 => walk_at "ev"); (case h3 => assumption); (case h4 => walk_at "call"))
  | ((with_reducible refine' er_bin ?h1 ?h2 ?h3); (case h1 => walk_at "ev"); (case h2 => walk_at "ev"); (case h3 => walk_at "op"))
  | ((with_reducible refine' er_idx ?h1 ?h2 ?h3); (case h1 => walk_at "ev"); (case h2 => walk_at "ev"); (case h3 => first | exact i_tup (by first | assumption | rfl) | exact i_lst (by walk_at "lst") (by first | assumption | rfl)))
  | ((with_reducible refine' er_call ?h1 ?h2 ?h3 ?h4); (case h1 => walk_at "ev"); (case h2 => walk_at "ev"); (case h3 => walk_at "pick"); (case h4 => walk_at "call"))
  | ((with_reducible refine' er_bi ?h1 ?h2); (case h1 => walk_at "ev"); (case h2 => walk_at "bi"))
  | ((with_reducible refine' er_cmp ?h1 ?h2 ?h3); (case h1 => walk_at "ev"); (case h2 => walk_at "ev"); (case h3 => walk_at "cmp"))
  | ((with_reducible refine' er_nots ?h1 ?h2); (case h1 => walk_at "ev"); (case h2 => first | exact Neg.t | exact Neg.f))
  | ((with_reducible refine' er_ors ?h1 ?h2); (case h1 => walk_at "ev"); (case h2 => first | exact ors_t | ((with_reducible refine' ors_f ?h3); (case h3 => walk_at "ev"))))
  | ((with_reducible refine' er_ands ?h1 ?h2); (case h1 => walk_at "ev"); (case h2 => first | exact ands_f | ((with_reducible refine' ands_t ?h3); (case h3 => walk_at "ev"))))
  | ((with_reducible refine' er_br ?h1 ?h2); (case h1 => walk_at "ev"); (case h2 => first | ((with_reducible refine' bre_t ?h3); (case h3 => walk_at "ev")) | ((with_reducible refine' bre_f ?h3); (case h3 => walk_at "ev")))))
local macro_rules | `(tactic| walk_at "ex") => `(tactic| first
  | ((with_reducible refine' es_skip2 ?h1 ?h2); (case h1 => exact rfl); (case h2 => exact rfl))
  | ((with_reducible refine' es_sq ?h1 ?h2); (case h1 => walk_at "ex"); (case h2 => first | exact nxt_rt | exact nxt_bk | exact nxt_ct | ((with_reducible refine' nxt_nx ?h3); (case h3 => walk_at "ex"))))
  | ((with_reducible refine' es_ret ?h1); (case h1 => walk_at "ev"))
  | ((with_reducible refine' es_asg ?h1 ?h2); (case h1 => walk_at "ev"); (case h2 => exact rfl))
  | ((with_reducible refine' es_seti ?h1 ?h2 ?h3 ?h4); (case h1 => walk_at "ev"); (case h2 => walk_at "ev"); (case h3 => walk_at "ev"); (case h4 => exact s_set (by first | assumption | exact set_get (by assumption)) rfl))
  | ((with_reducible refine' es_drop ?h1); (case h1 => walk_at "ev"))
  | ((with_reducible refine' es_br ?h1 ?h2); (case h1 => walk_at "ev"); (case h2 => first | ((with_reducible refine' brs_t ?h3); (case h3 => walk_at "ex")) | ((with_reducible refine' brs_f ?h3); (case h3 => walk_at "ex")))))


section
variable {q : Pr} (Q : HK q) {W : Nat}
include Q
theorem mid_store (k : Nat) {a b cc w g : Int} {c : Cr} {m : List Int} (h8 : c.regs.length = 8) (a0 : 0 ≤ a) (a1 : a < 8) (b0 : 0 ≤ b) (b1 : b < 8) (hm : 0 < m.length) (hl : c.late.length ≤ 1000) :
    MidTo q W (k + 2) ⟨"store", a, b, cc, w, g⟩ c m c.regs (c.late ++ [((rg c.regs b + w) % m.length, rg c.regs a)]) m := by
  intro v0 v1 v2 v3 S
  obtain ⟨row, regs, late⟩ := c
  simp only at h8 hl ⊢
  have ra := rg_at (l := regs) a0 (by omega)
  have rb := rg_at (l := regs) b0 (by omega)
  have r1 := access_p Q (W := W) k S (xs := [.str "store", .int a, .int b, .int w]) (rs := regs.map .int) (n := m.length) (b := b) (w := w) rfl rfl rb (by omega)
  have n1 : ([D.str "add", .str "sub", .str "and", .str "xor", .str "below"].any fun y => scEq y (.str "store")) = false := by decide
  have n2 : ([D.str "load", .str "store", .str "swap", .str "addto"].any fun y => scEq y (.str "store")) = true := by decide
  refine ⟨none, some (.int ((rg regs b + w) % m.length)), none, S, ?_, Kp.refl _ _⟩
  rw [List.map_append]
  unfold m_69
  refine' es_if_f (er_or_f (er_cmp (er_var rfl) (er_lit rfl) (c_str_f (by decide))) (er_cmp (er_var rfl) (er_glob Q.g3) (c_inT rfl rfl n1))) ?_
  refine' es_nx ?_ es_skip
  refine' es_if_t (er_cmp (er_var rfl) (er_tup (er_cons (er_lit rfl) (er_cons (er_lit rfl) (er_cons (er_lit rfl) (er_cons (er_lit rfl) er_nil)))) (Nat.le_of_ble_eq_true rfl)) (c_inT rfl rfl n2)) ?_
  refine' es_nx (es_asg (er_call (er_cons (er_var rfl) (er_cons (er_var rfl) (er_cons (er_bi (er_cons (er_var rfl) er_nil) len_tup) er_nil))) er_nil rfl r1) rfl) ?_
  refine' es_nx ?_ es_skip
  refine' es_if_t (er_cmp (er_var rfl) (er_lit rfl) (c_str_t rfl)) ?_
  exact es_nx (es_asg (er_bin (er_var rfl) (er_tup (er_cons (er_tup (er_cons (er_var rfl) (er_cons (er_idx (er_var rfl) (er_idx (er_var rfl) (er_lit rfl) (i_tup (atN (n := 1) rfl))) (i_tup ra)) er_nil)) (Nat.le_of_ble_eq_true rfl)) er_nil) (Nat.le_of_ble_eq_true rfl)) (o_addT (by simp [sizeLine_eq]; omega))) rfl) es_skip
theorem mid_load (k : Nat) {a b cc w g : Int} {c : Cr} {m : List Int} (h8 : c.regs.length = 8) (a0 : 0 ≤ a) (a1 : a < 8) (b0 : 0 ≤ b) (b1 : b < 8) (hm : 0 < m.length) :
    MidTo q W (k + 2) ⟨"load", a, b, cc, w, g⟩ c m (c.regs.set a.toNat (ldW c.late m ((rg c.regs b + w) % m.length))) c.late m := by
  intro v0 v1 v2 v3 S
  obtain ⟨row, regs, late⟩ := c
  simp only at h8 ⊢
  have ra := rg_at (l := regs) a0 (by omega)
  have rb := rg_at (l := regs) b0 (by omega)
  have r1 := access_p Q (W := W) k S (xs := [.str "load", .int a, .int b, .int w]) (rs := regs.map .int) (n := m.length) (b := b) (w := w) rfl rfl rb (by omega)
  have cell0 := Int.emod_nonneg (rg regs b + w) (show (m.length : Int) ≠ 0 by omega)
  have cell1 := Int.emod_lt_of_pos (rg regs b + w) (show 0 < (m.length : Int) by omega)
  have r2 := loaded_p Q (W := W) (k + 1) S late m cell0 (by omega)
  have r3 := repl_p Q (W := W) (k + 1) S (xs := regs.map .int) (i := a) (x := .int (ldW late m ((rg regs b + w) % m.length))) a0 (by simp; omega) (by simp; omega)
  have n1 : ([D.str "add", .str "sub", .str "and", .str "xor", .str "below"].any fun y => scEq y (.str "load")) = false := by decide
  have n2 : ([D.str "load", .str "store", .str "swap", .str "addto"].any fun y => scEq y (.str "load")) = true := by decide
  refine ⟨none, some (.int ((rg regs b + w) % m.length)), none, S, ?_, Kp.refl _ _⟩
  rw [List.map_set]
  unfold m_69
  refine' es_if_f (er_or_f (er_cmp (er_var rfl) (er_lit rfl) (c_str_f (by decide))) (er_cmp (er_var rfl) (er_glob Q.g3) (c_inT rfl rfl n1))) ?_
  refine' es_nx ?_ es_skip
  refine' es_if_t (er_cmp (er_var rfl) (er_tup (er_cons (er_lit rfl) (er_cons (er_lit rfl) (er_cons (er_lit rfl) (er_cons (er_lit rfl) er_nil)))) (Nat.le_of_ble_eq_true rfl)) (c_inT rfl rfl n2)) ?_
  refine' es_nx (es_asg (er_call (er_cons (er_var rfl) (er_cons (er_var rfl) (er_cons (er_bi (er_cons (er_var rfl) er_nil) len_tup) er_nil))) er_nil rfl r1) rfl) ?_
  refine' es_nx ?_ es_skip
  refine' es_if_f (er_cmp (er_var rfl) (er_lit rfl) (c_str_f (by decide))) ?_
  refine' es_nx ?_ es_skip
  refine' es_if_t (er_cmp (er_var rfl) (er_lit rfl) (c_str_t rfl)) ?_
  exact es_nx (es_asg (er_call (er_cons (er_var rfl) (er_cons (er_idx (er_var rfl) (er_lit rfl) (i_tup (atN (n := 1) rfl))) (er_cons (er_call (er_cons (er_var rfl) (er_cons (er_var rfl) (er_cons (er_var rfl) er_nil))) er_nil rfl r2) er_nil))) er_nil rfl r3) rfl) es_skip
theorem mid_swap (k : Nat) {a b cc w g : Int} {c : Cr} {m : List Int} (h8 : c.regs.length = 8) (a0 : 0 ≤ a) (a1 : a < 8) (b0 : 0 ≤ b) (b1 : b < 8) (cc0 : 0 ≤ cc) (cc1 : cc < 8) (hm : 0 < m.length) (hm2 : m.length ≤ 1000) :
    MidTo q W (k + 2) ⟨"swap", a, b, cc, w, g⟩ c m (c.regs.set a.toNat (rg m ((rg c.regs cc + w) % m.length))) c.late (m.set ((rg c.regs cc + w) % m.length).toNat (rg c.regs b)) := by
  intro v0 v1 v2 v3 S
  obtain ⟨row, regs, late⟩ := c
  simp only at h8 ⊢
  have rb := rg_at (l := regs) b0 (by omega)
  have rc := rg_at (l := regs) cc0 (by omega)
  have r1 := access_p Q (W := W) k S (xs := [.str "swap", .int a, .int b, .int cc, .int w]) (rs := regs.map .int) (n := m.length) (b := cc) (w := w) rfl rfl rc (by omega)
  have cell0 := Int.emod_nonneg (rg regs cc + w) (show (m.length : Int) ≠ 0 by omega)
  have cell1 := Int.emod_lt_of_pos (rg regs cc + w) (show 0 < (m.length : Int) by omega)
  have rm := rg_at (l := m) cell0 (by omega)
  have r2 := changed_sw Q (W := W) (k + 1) S (r := [.int a, .int b, .int cc, .int w]) (x := .int (rg m ((rg regs cc + w) % m.length))) (y := .int (rg regs b))
  have r3 := repl_p Q (W := W) (k + 1) S (xs := m.map .int) (i := (rg regs cc + w) % m.length) (x := .int (rg regs b)) cell0 (by simp; omega) (by simp; omega)
  have r4 := repl_p Q (W := W) (k + 1) S (xs := regs.map .int) (i := a) (x := .int (rg m ((rg regs cc + w) % m.length))) a0 (by simp; omega) (by simp; omega)
  have n1 : ([D.str "add", .str "sub", .str "and", .str "xor", .str "below"].any fun y => scEq y (.str "swap")) = false := by decide
  have n2 : ([D.str "load", .str "store", .str "swap", .str "addto"].any fun y => scEq y (.str "swap")) = true := by decide
  refine ⟨none, some (.int ((rg regs cc + w) % m.length)), some (.int (rg m ((rg regs cc + w) % m.length))), S, ?_, Kp.refl _ _⟩
  rw [List.map_set, List.map_set]
  unfold m_69
  refine' es_if_f (er_or_f (er_cmp (er_var rfl) (er_lit rfl) (c_str_f (by decide))) (er_cmp (er_var rfl) (er_glob Q.g3) (c_inT rfl rfl n1))) ?_
  refine' es_nx ?_ es_skip
  refine' es_if_t (er_cmp (er_var rfl) (er_tup (er_cons (er_lit rfl) (er_cons (er_lit rfl) (er_cons (er_lit rfl) (er_cons (er_lit rfl) er_nil)))) (Nat.le_of_ble_eq_true rfl)) (c_inT rfl rfl n2)) ?_
  refine' es_nx (es_asg (er_call (er_cons (er_var rfl) (er_cons (er_var rfl) (er_cons (er_bi (er_cons (er_var rfl) er_nil) len_tup) er_nil))) er_nil rfl r1) rfl) ?_
  refine' es_nx ?_ es_skip
  refine' es_if_f (er_cmp (er_var rfl) (er_lit rfl) (c_str_f (by decide))) ?_
  refine' es_nx ?_ es_skip
  refine' es_if_f (er_cmp (er_var rfl) (er_lit rfl) (c_str_f (by decide))) ?_
  refine' es_nx (es_asg (er_idx (er_var rfl) (er_var rfl) (i_tup rm)) rfl) ?_
  refine' es_nx (es_asg (er_call (er_cons (er_var rfl) (er_cons (er_var rfl) (er_cons (er_call (er_cons (er_var rfl) (er_cons (er_var rfl) (er_cons (er_idx (er_var rfl) (er_idx (er_var rfl) (er_lit rfl) (i_tup (atN (n := 2) rfl))) (i_tup rb)) er_nil))) er_nil rfl r2) er_nil))) er_nil rfl r3) rfl) ?_
  exact es_nx (es_asg (er_call (er_cons (er_var rfl) (er_cons (er_idx (er_var rfl) (er_lit rfl) (i_tup (atN (n := 1) rfl))) (er_cons (er_var rfl) er_nil))) er_nil rfl r4) rfl) es_skip
theorem mid_addto (k : Nat) {a b cc w g : Int} {c : Cr} {m : List Int} (h8 : c.regs.length = 8) (a0 : 0 ≤ a) (a1 : a < 8) (b0 : 0 ≤ b) (b1 : b < 8) (cc0 : 0 ≤ cc) (cc1 : cc < 8) (hm : 0 < m.length) (hm2 : m.length ≤ 1000) :
    MidTo q W (k + 2) ⟨"addto", a, b, cc, w, g⟩ c m (c.regs.set a.toNat (rg m ((rg c.regs cc + w) % m.length))) c.late (m.set ((rg c.regs cc + w) % m.length).toNat ((rg m ((rg c.regs cc + w) % m.length) + rg c.regs b) % 65536)) := by
  intro v0 v1 v2 v3 S
  obtain ⟨row, regs, late⟩ := c
  simp only at h8 ⊢
  have rb := rg_at (l := regs) b0 (by omega)
  have rc := rg_at (l := regs) cc0 (by omega)
  have r1 := access_p Q (W := W) k S (xs := [.str "addto", .int a, .int b, .int cc, .int w]) (rs := regs.map .int) (n := m.length) (b := cc) (w := w) rfl rfl rc (by omega)
  have cell0 := Int.emod_nonneg (rg regs cc + w) (show (m.length : Int) ≠ 0 by omega)
  have cell1 := Int.emod_lt_of_pos (rg regs cc + w) (show 0 < (m.length : Int) by omega)
  have rm := rg_at (l := m) cell0 (by omega)
  have r2 := changed_ad Q (W := W) (k + 1) S (r := [.int a, .int b, .int cc, .int w]) (x := rg m ((rg regs cc + w) % m.length)) (y := rg regs b)
  have r3 := repl_p Q (W := W) (k + 1) S (xs := m.map .int) (i := (rg regs cc + w) % m.length) (x := .int ((rg m ((rg regs cc + w) % m.length) + rg regs b) % 65536)) cell0 (by simp; omega) (by simp; omega)
  have r4 := repl_p Q (W := W) (k + 1) S (xs := regs.map .int) (i := a) (x := .int (rg m ((rg regs cc + w) % m.length))) a0 (by simp; omega) (by simp; omega)
  have n1 : ([D.str "add", .str "sub", .str "and", .str "xor", .str "below"].any fun y => scEq y (.str "addto")) = false := by decide
  have n2 : ([D.str "load", .str "store", .str "swap", .str "addto"].any fun y => scEq y (.str "addto")) = true := by decide
  refine ⟨none, some (.int ((rg regs cc + w) % m.length)), some (.int (rg m ((rg regs cc + w) % m.length))), S, ?_, Kp.refl _ _⟩
  rw [List.map_set, List.map_set]
  unfold m_69
  refine' es_if_f (er_or_f (er_cmp (er_var rfl) (er_lit rfl) (c_str_f (by decide))) (er_cmp (er_var rfl) (er_glob Q.g3) (c_inT rfl rfl n1))) ?_
  refine' es_nx ?_ es_skip
  refine' es_if_t (er_cmp (er_var rfl) (er_tup (er_cons (er_lit rfl) (er_cons (er_lit rfl) (er_cons (er_lit rfl) (er_cons (er_lit rfl) er_nil)))) (Nat.le_of_ble_eq_true rfl)) (c_inT rfl rfl n2)) ?_
  refine' es_nx (es_asg (er_call (er_cons (er_var rfl) (er_cons (er_var rfl) (er_cons (er_bi (er_cons (er_var rfl) er_nil) len_tup) er_nil))) er_nil rfl r1) rfl) ?_
  refine' es_nx ?_ es_skip
  refine' es_if_f (er_cmp (er_var rfl) (er_lit rfl) (c_str_f (by decide))) ?_
  refine' es_nx ?_ es_skip
  refine' es_if_f (er_cmp (er_var rfl) (er_lit rfl) (c_str_f (by decide))) ?_
  refine' es_nx (es_asg (er_idx (er_var rfl) (er_var rfl) (i_tup rm)) rfl) ?_
  refine' es_nx (es_asg (er_call (er_cons (er_var rfl) (er_cons (er_var rfl) (er_cons (er_call (er_cons (er_var rfl) (er_cons (er_var rfl) (er_cons (er_idx (er_var rfl) (er_idx (er_var rfl) (er_lit rfl) (i_tup (atN (n := 2) rfl))) (i_tup rb)) er_nil))) er_nil rfl r2) er_nil))) er_nil rfl r3) rfl) ?_
  exact es_nx (es_asg (er_call (er_cons (er_var rfl) (er_cons (er_idx (er_var rfl) (er_lit rfl) (i_tup (atN (n := 1) rfl))) (er_cons (er_var rfl) er_nil))) er_nil rfl r4) rfl) es_skip
theorem mid_none (k : Nat) {nm : Str} {a b cc w g : Int} {c : Cr} {m : List Int} (n0 : ¬ nm = "set") (n1 : ([D.str "add", .str "sub", .str "and", .str "xor", .str "below"].any fun y => scEq y (.str nm)) = false) (n2 : ([D.str "load", .str "store", .str "swap", .str "addto"].any fun y => scEq y (.str nm)) = false) :
    MidTo q W k ⟨nm, a, b, cc, w, g⟩ c m c.regs c.late m := by
  intro v0 v1 v2 v3 S
  refine ⟨none, none, none, S, ?_, Kp.refl _ _⟩
  unfold m_69
  refine' es_if_f (er_or_f (er_cmp (er_var rfl) (er_lit rfl) (c_str_f n0)) (er_cmp (er_var rfl) (er_glob Q.g3) (c_inT rfl rfl n1))) ?_
  refine' es_nx ?_ es_skip
  exact es_if_f (er_cmp (er_var rfl) (er_tup (er_cons (er_lit rfl) (er_cons (er_lit rfl) (er_cons (er_lit rfl) (er_cons (er_lit rfl) er_nil)))) (Nat.le_of_ble_eq_true rfl)) (c_inT rfl rfl n2)) es_skip
end
theorem dsd_set {s : Sd} {j : Nat} {c' : Cr} {m' : List Int} {r : Int} (h : r = c'.row) : D.tup [.tup ((s.cs.map dCr).set j (.tup [.int r, .tup (c'.regs.map .int), .tup (c'.late.map dPr)])), .tup (m'.map .int)] = dSd ⟨s.cs.set j c', m'⟩ := by
  subst h
  unfold dSd
  rw [List.map_set]
  rfl
section
variable {q : Pr} (Q : HK q) {W : Nat}
include Q
theorem afterdo_p (k : Nat) (S : Store) {bk : List (List Ins)} {s : Sd} {j : Nat} {c : Cr} {rs : List Ins} {i : Ins} {n : Int} (hr : bk[j]? = some rs) (hc : s.cs[j]? = some c) (hi : rs[c.row]? = some i) (ok : i.ok n) (h8 : c.regs.length = 8)
    (hl : s.cs.length ≤ 4) (hm : OkM s.mem) (ht : c.late.length ≤ 1000) : ∃ S', run q W (k + 4) 69 [dBk bk, dSd s, .int j] S = some (dSd ⟨s.cs.set j (doI i c s.mem).1, (doI i c s.mem).2⟩, S') ∧ Kp [] S S' := by
  have a0 := ok.a0; have a1 := ok.a1; have b0 := ok.b0; have b1 := ok.b1; have c0 := ok.c0; have c1 := ok.c1; have g0 := ok.g0; have hnm := ok.nm
  have m0 := hm.l0; have m1 := hm.l1
  have key : ∀ (c' : Cr) (m' : List Int), doI i c s.mem = (c', m') → nextR i c = c'.row → MidTo q W (k + 3) i c s.mem c'.regs c'.late m' → ∃ S', run q W (k + 4) 69 [dBk bk, dSd s, .int j] S = some (dSd ⟨s.cs.set j (doI i c s.mem).1, (doI i c s.mem).2⟩, S') ∧ Kp [] S S' := by
    intro c' m' h1 h2 h3
    obtain ⟨S', g1, g2⟩ := doall Q (k + 2) S hr hc hi ok h8 hl h3
    rw [h1]
    exact ⟨S', by rw [g1, dsd_set h2], g2⟩
  obtain ⟨nm, a, b, cc, w, g⟩ := i
  simp only at a0 a1 b0 b1 c0 c1 g0 hnm
  simp only [nms, List.mem_cons, List.not_mem_nil, or_false] at hnm
  rcases hnm with rfl | rfl | rfl | rfl | rfl | rfl | rfl | rfl | rfl | rfl | rfl | rfl | rfl | rfl | rfl
  · exact key _ _ rfl rfl (mid_set Q (k + 2) h8 a0 a1)
  · exact key _ _ rfl rfl (mid_sum Q (k + 2) (by decide) h8 a0 a1 b0 b1 c0 c1)
  · exact key _ _ rfl rfl (mid_sum Q (k + 2) (by decide) h8 a0 a1 b0 b1 c0 c1)
  · exact key _ _ rfl rfl (mid_sum Q (k + 2) (by decide) h8 a0 a1 b0 b1 c0 c1)
  · exact key _ _ rfl rfl (mid_sum Q (k + 2) (by decide) h8 a0 a1 b0 b1 c0 c1)
  · exact key _ _ rfl rfl (mid_sum Q (k + 2) (by decide) h8 a0 a1 b0 b1 c0 c1)
  · exact key _ _ rfl rfl (mid_load Q (k + 1) h8 a0 a1 b0 b1 (by omega))
  · exact key _ _ rfl rfl (mid_store Q (k + 1) h8 a0 a1 b0 b1 (by omega) ht)
  · exact key _ _ rfl rfl (mid_swap Q (k + 1) h8 a0 a1 b0 b1 c0 c1 (by omega) (by omega))
  · exact key _ _ rfl rfl (mid_addto Q (k + 1) h8 a0 a1 b0 b1 c0 c1 (by omega) (by omega))
  · exact key _ _ rfl rfl (mid_none Q (k + 3) (by decide) (by decide) (by decide))
  · refine key ⟨if rg c.regs a = 0 then g.toNat else c.row + 1, c.regs, c.late⟩ s.mem rfl ?_ (mid_none Q (k + 3) (by decide) (by decide) (by decide))
    show (if rg c.regs a = 0 then g else (c.row : Int) + 1) = ((if rg c.regs a = 0 then g.toNat else c.row + 1 : Nat) : Int)
    split
    · omega
    · omega
  · refine key ⟨g.toNat, c.regs, c.late⟩ s.mem rfl ?_ (mid_none Q (k + 3) (by decide) (by decide) (by decide))
    show g = (g.toNat : Int)
    omega
  · exact key _ _ rfl rfl (mid_none Q (k + 3) (by decide) (by decide) (by decide))
  · exact key _ _ rfl rfl (mid_none Q (k + 3) (by decide) (by decide) (by decide))
theorem afterfl_p (k : Nat) (S : Store) {s : Sd} {j : Nat} {c : Cr} {p : Int × Int} {r : List (Int × Int)} (hc : s.cs[j]? = some c) (hp : c.late = p :: r) (p0 : 0 ≤ p.1) (p1 : p.1.toNat < s.mem.length)
    (hl : s.cs.length ≤ 4) (hm : s.mem.length ≤ 32) (ht : c.late.length ≤ 1000) : run q W (k + 2) 70 [dSd s, .int j] S = some (dSd ⟨s.cs.set j ⟨c.row, c.regs, r⟩, s.mem.set p.1.toNat p.2⟩, S) := by
  obtain ⟨row, regs, late⟩ := c
  simp only at hp ht ⊢
  subst hp
  have hj : j < s.cs.length := (List.getElem?_eq_some_iff.mp hc).1
  have r1 := repl_p Q (W := W) k S (xs := s.cs.map dCr) (i := j) (x := .tup [.int row, .tup (regs.map .int), .tup (r.map dPr)]) (by omega) (by simpa using hj) (by simp; omega)
  have r2 := repl_p Q (W := W) k S (xs := s.mem.map .int) (i := p.1) (x := .int p.2) p0 (by simpa using p1) (by simp; omega)
  rw [Int.toNat_natCast] at r1
  rw [← dsd_set (r := row) rfl, List.map_set]
  have d1 : ((p :: r).map dPr).drop ((1 : Int).toNat) = r.map dPr := rfl
  have s1 : ∀ x7 x8, ev (pm q W (k + 1)) (.slc (.var 6) (.lit (.int 1)) .absent) [some (dSd s), some (.int j), some (.tup (s.cs.map dCr)), some (.tup (s.mem.map .int)), some (.int row), some (.tup (regs.map .int)), some (.tup ((p :: r).map dPr)), x7, x8] S = some (.tup (r.map dPr), S) := by
    intro x7 x8
    rw [← d1]; exact er_slc_from (er_var rfl) rfl (er_lit rfl) (show (0 : Int) ≤ 1 by decide)
  refine' run_rt (e0 := [some _, some _, none, none, none, none, none, none, none]) Q.f70 rfl rfl ?h
  case h =>
    unfold b_70
    refine' es_nx (es_asg (er_var rfl) rfl) ?_
    refine' es_nx (es_asg (er_idx (er_var rfl) (er_var rfl) (i_tup (map_at hc))) rfl) ?_
    refine' es_nx (es_asg (er_idx (er_var rfl) (er_lit rfl) (i_tup (show atI ((p :: r).map dPr) 0 = some (dPr p) from atN (n := 0) rfl))) rfl) ?_
    refine' es_rt (es_ret (er_tup (ds := [.tup ((s.cs.map dCr).set j (.tup [.int row, .tup (regs.map .int), .tup (r.map dPr)])), .tup ((s.mem.map .int).set p.1.toNat (.int p.2))]) (er_cons (er_call (er_cons (er_var rfl) (er_cons (er_var rfl) (er_cons (er_tup (er_cons (er_var rfl) (er_cons (er_var rfl) (er_cons (s1 _ _) er_nil))) (Nat.le_of_ble_eq_true rfl)) er_nil))) er_nil rfl r1) (er_cons (er_call (er_cons (er_var rfl) (er_cons (er_var rfl) (er_cons (er_var rfl) er_nil))) er_nil rfl r2) er_nil)) (Nat.le_of_ble_eq_true rfl)))
end
end Tm

set_option Elab.async false
set_option linter.all false
set_option maxRecDepth 100000
set_option maxHeartbeats 8000000
namespace Tm
open PySem L2
local macro_rules | `(tactic| walk_at "sm") => `(tactic| first | assumption | (unfold Sm; first | omega | decide))
local macro_rules | `(tactic| walk_at "in") => `(tactic| first | assumption | omega | decide)
local macro_rules | `(tactic| walk_at "lst") => `(tactic| first | assumption | exact l_last | exact l_lst (by assumption) | exact l_ro (by assumption) | exact l_lst (set_get (by assumption)))
local macro_rules | `(tactic| walk_at "op") => `(tactic| first
  | with_reducible exact o_add
  | with_reducible exact o_sub
  | ((with_reducible refine' o_addT ?h); (case h => first | assumption | exact Nat.le_of_ble_eq_true rfl))
  | with_reducible exact o_band
  | with_reducible exact o_bxor
  | with_reducible exact o_band
  | with_reducible exact o_bxor
  | ((with_reducible refine' o_mod ?h); (case h => walk_at "in"))
  | ((with_reducible refine' o_div ?h ?g); (case h => walk_at "in"); (case g => walk_at "sm"))
  | ((with_reducible refine' o_mul ?h ?g); (case h => walk_at "sm"); (case g => walk_at "sm"))
  | ((with_reducible refine' o_pow ?h ?g); (case h => walk_at "in"); (case g => decide)))
local macro_rules | `(tactic| walk_at "cmp") => `(tactic| first
  | with_reducible assumption
  | with_reducible exact c_isN
  | with_reducible exact c_isnN
  | with_reducible exact c_isT
  | with_reducible exact c_isnT
  | with_reducible exact c_isB
  | ((with_reducible refine' c_eq_t ?h); (case h => walk_at "in"))
  | ((with_reducible refine' c_lt_t ?h); (case h => walk_at "in"))
  | ((with_reducible refine' c_gt_t ?h); (case h => walk_at "in"))
  | ((with_reducible refine' c_ne_t ?h); (case h => walk_at "in"))
  | ((with_reducible refine' c_le_t ?h); (case h => walk_at "in"))
  | ((with_reducible refine' c_ge_t ?h); (case h => walk_at "in"))
  | ((with_reducible refine' c_eq_f ?h); (case h => walk_at "in"))
  | ((with_reducible refine' c_lt_f ?h); (case h => walk_at "in"))
  | ((with_reducible refine' c_gt_f ?h); (case h => walk_at "in"))
  | ((with_reducible refine' c_ne_f ?h); (case h => walk_at "in"))
  | ((with_reducible refine' c_le_f ?h); (case h => walk_at "in"))
  | ((with_reducible refine' c_ge_f ?h); (case h => walk_at "in"))
  | ((with_reducible refine' c_str_t ?h); (case h => with_reducible exact rfl))
  | ((with_reducible refine' c_str_f ?h); (case h => first | assumption | decide))
  | ((with_reducible refine' c_strn_f ?h); (case h => with_reducible exact rfl))
  | ((with_reducible refine' c_strn_t ?h); (case h => first | assumption | decide))
  | ((with_reducible refine' c_in (t := true) ?h ?g ?f ?e); (case h => walk_at "lst"); (case g => exact rfl); (case f => exact rfl); (case e => first | assumption | decide))
  | ((with_reducible refine' c_in (t := false) ?h ?g ?f ?e); (case h => walk_at "lst"); (case g => exact rfl); (case f => exact rfl); (case e => first | assumption | decide))
  | ((with_reducible refine' c_inT (t := true) ?g ?f ?e); (case g => exact rfl); (case f => exact rfl); (case e => first | assumption | decide))
  | ((with_reducible refine' c_inT (t := false) ?g ?f ?e); (case g => exact rfl); (case f => exact rfl); (case e => first | assumption | decide))
  | ((with_reducible refine' c_ninT (t := true) ?g ?f ?e); (case g => exact rfl); (case f => exact rfl); (case e => first | assumption | decide))
  | ((with_reducible refine' c_ninT (t := false) ?g ?f ?e); (case g => exact rfl); (case f => exact rfl); (case e => first | assumption | decide))
  | ((with_reducible refine' c_nin (t := true) ?h ?g ?f ?e); (case h => walk_at "lst"); (case g => exact rfl); (case f => exact rfl); (case e => first | assumption | decide))
  | ((with_reducible refine' c_nin (t := false) ?h ?g ?f ?e); (case h => walk_at "lst"); (case g => exact rfl); (case f => exact rfl); (case e => first | assumption | decide)))
local macro_rules | `(tactic| walk_at "bi") => `(tactic| first | with_reducible assumption | ((with_reducible refine' b_tupL ?h); (case h => walk_at "lst")) | with_reducible exact b_int | with_reducible exact b_bool | with_reducible exact b_abs | with_reducible exact b_max | with_reducible exact b_min | with_reducible exact b_lenT | ((with_reducible refine' b_lenL ?h); (case h => walk_at "lst")) | with_reducible apply_assumption)
local macro_rules | `(tactic| walk_at "pick") => `(tactic| first | with_reducible exact pk1 | with_reducible exact pk2 | with_reducible exact pk3 | with_reducible exact pk4 | with_reducible exact pk5 | with_reducible exact pn1 | with_reducible exact pn2 | with_reducible exact pn3)
local macro_rules | `(tactic| walk_at "call") => `(tactic| first | with_reducible assumption | with_reducible apply_assumption)
local macro_rules | `(tactic| walk_at "ev") => `(tactic| first
  | (with_reducible assumption)
  | ((with_reducible refine' er_env ?he ?h); (case h => with_reducible assumption); (case he => exact rfl))
  | (with_reducible exact er_nil)
  | ((with_reducible refine' er_glob ?h); (case h => assumption))
  | ((with_reducible refine' er_lit ?h); (case h => exact rfl))
  | ((with_reducible refine' er_var ?h); (case h => exact rfl))
  | ((with_reducible refine' er_cons ?h1 ?h2); (case h1 => walk_at "ev"); (case h2 => walk_at "ev"))
  | ((with_reducible refine' er_tup ?h1 ?h2); (case h1 => walk_at "ev"); (case h2 => exact Nat.le_of_ble_eq_true rfl))
  | ((with_reducible refine' er_lst ?h1 ?h2); (case h1 => walk_at "ev"); (case h2 => exact Nat.le_of_ble_eq_true rfl))
  | ((with_reducible refine' er_neg ?h1); (case h1 => walk_at "ev"))
  | ((with_reducible refine' er_isty ?h1 ?h2); (case h1 => walk_at "ev"); (case h2 => first | exact rfl | exact ty_ref (by walk_at "lst")))
  | ((with_reducible refine' er_chain_t ?h1 ?h2 ?h3 ?h4 ?h5); (case h1 => walk_at "ev"); (case h2 => walk_at "ev"); (case h3 => walk_at "cmp"); (case h4 => walk_at "ev"); (case h5 => walk_at "cmp"))
  | ((with_reducible refine' er_slc_to ?h1 ?h2 ?h3 ?h4); (case h1 => walk_at "ev"); (case h2 => exact rfl); (case h3 => walk_at "ev"); (case h4 => first | assumption | omega))
  | ((with_reducible refine' er_slc_from ?h1 ?h2 ?h3 ?h4); (case h1 => walk_at "ev"); (case h2 => exact rfl); (case h3 => walk_at "ev"); (case h4 => first | assumption | omega))
  | ((with_reducible refine' er_app ?h1 ?h2 ?h3); (case h1 => walk_at "ev"); (case h2 => walk_at "ev"); (case h3 => exact push_at (by assumption) (by assumption)))
  | ((with_reducible refine' er_callv ?h1 ?h2 ?h3 ?h4); (case h1 => walk_at "ev"); (case h2 => walk_at "ev"); (case h3 => assumption); (case h4 => walk_at "call"))
  | ((with_reducible refine' er_bin ?h1 ?h2 ?h3); (case h1 => walk_at "ev"); (case h2 => walk_at "ev"); (case h3 => walk_at "op"))
  | ((with_reducible refine' er_idx ?h1 ?h2 ?h3); (case h1 => walk_at "ev"); (case h2 => walk_at "ev"); (case h3 => first | exact i_tup (by first | assumption | rfl) | exact i_lst (by walk_at "lst") (by first | assumption | rfl)))
  | ((with_reducible refine' er_call ?h1 ?h2 ?h3 ?h4); (case h1 => walk_at "ev"); (case h2 => walk_at "ev"); (case h3 => walk_at "pick"); (case h4 => walk_at "call"))
  | ((with_reducible refine' er_bi ?h1 ?h2); (case h1 => walk_at "ev"); (case h2 => walk_at "bi"))
  | ((with_reducible refine' er_cmp ?h1 ?h2 ?h3); (case h1 => walk_at "ev"); (case h2 => walk_at "ev"); (case h3 => walk_at "cmp"))
  | ((with_reducible refine' er_nots ?h1 ?h2); (case h1 => walk_at "ev"); (case h2 => first | exact Neg.t | exact Neg.f))
  | ((with_reducible refine' er_ors ?h1 ?h2); (case h1 => walk_at "ev"); (case h2 => first | exact ors_t | ((with_reducible refine' ors_f ?h3); (case h3 => walk_at "ev"))))
  | ((with_reducible refine' er_ands ?h1 ?h2); (case h1 => walk_at "ev"); (case h2 => first | exact ands_f | ((with_reducible refine' ands_t ?h3); (case h3 => walk_at "ev"))))
  | ((with_reducible refine' er_br ?h1 ?h2); (case h1 => walk_at "ev"); (case h2 => first | ((with_reducible refine' bre_t ?h3); (case h3 => walk_at "ev")) | ((with_reducible refine' bre_f ?h3); (case h3 => walk_at "ev")))))
local macro_rules | `(tactic| walk_at "ex") => `(tactic| first
  | ((with_reducible refine' es_skip2 ?h1 ?h2); (case h1 => exact rfl); (case h2 => exact rfl))
  | ((with_reducible refine' es_sq ?h1 ?h2); (case h1 => walk_at "ex"); (case h2 => first | exact nxt_rt | exact nxt_bk | exact nxt_ct | ((with_reducible refine' nxt_nx ?h3); (case h3 => walk_at "ex"))))
  | ((with_reducible refine' es_ret ?h1); (case h1 => walk_at "ev"))
  | ((with_reducible refine' es_asg ?h1 ?h2); (case h1 => walk_at "ev"); (case h2 => exact rfl))
  | ((with_reducible refine' es_seti ?h1 ?h2 ?h3 ?h4); (case h1 => walk_at "ev"); (case h2 => walk_at "ev"); (case h3 => walk_at "ev"); (case h4 => exact s_set (by first | assumption | exact set_get (by assumption)) rfl))
  | ((with_reducible refine' es_drop ?h1); (case h1 => walk_at "ev"))
  | ((with_reducible refine' es_br ?h1 ?h2); (case h1 => walk_at "ev"); (case h2 => first | ((with_reducible refine' brs_t ?h3); (case h3 => walk_at "ex")) | ((with_reducible refine' brs_f ?h3); (case h3 => walk_at "ex")))))


theorem Kp.le {S S' : Store} (h : Kp [] S S') : S.length ≤ S'.length := by
  by_cases e : S.length = 0
  · omega
  · have := h.len (n := S.length - 1) (by simp) (by omega)
    omega
theorem push_loop {α : Type} {bod : Env' → Store → Option (Fl × Env' × Store)} {t : Tg} (h : α → D) (g : α → List D) (r B : Nat) (P : Env' → Prop) (S0 : Store) : ∀ (l : List α) (acc : List D) (e : Env') (S : Store),
    (∀ x ∈ l, ∀ e S acc, P e → Kp [r] S0 S → S[r]? = some (.lst acc) → acc.length + (g x).length ≤ B → ∃ e1 e2 S2, bindT t (h x) S e = some e1 ∧ bod e1 S = some (.nx, e2, S2) ∧ P e2 ∧ S2[r]? = some (.lst (acc ++ g x)) ∧ Kp [r] S S2) →
    P e → Kp [r] S0 S → S[r]? = some (.lst acc) → acc.length + (l.flatMap g).length ≤ B → ∃ e' S', forL bod t [] (l.map h) e S = some (.nx, e', S') ∧ P e' ∧ Kp [r] S0 S' ∧ S'[r]? = some (.lst (acc ++ l.flatMap g)) := by
  intro l
  induction l with
  | nil => intro acc e S _ h1 h2 h3 _; exact ⟨e, S, forL_nil rfl, h1, h2, by simpa using h3⟩
  | cons x l ih =>
    intro acc e S hs h1 h2 h3 h4
    rw [List.flatMap_cons, List.length_append] at h4
    obtain ⟨e1, e2, S2, g1, g2, g3, g4, g5⟩ := hs x List.mem_cons_self e S acc h1 h2 h3 (by omega)
    obtain ⟨e', S', k1, k2, k3, k4⟩ := ih (acc ++ g x) e2 S2 (fun y hy => hs y (List.mem_cons_of_mem _ hy)) g3 (h2.trans g5) g4 (by rw [List.length_append]; omega)
    exact ⟨e', S', forL_nx rfl g1 g2 k1, k2, k3, by rw [k4, List.flatMap_cons, List.append_assoc]⟩
def dSt (p : Bool × Nat) : D := .tup [.str (if p.1 then "do" else "flush"), .int p.2]
def stepsAt (bk : List (List Ins)) (s : Sd) (j : Nat) : List (Bool × Nat) := match bk[j]?, s.cs[j]? with
  | some rs, some c => (if canDo rs c then [(true, j)] else []) ++ (if canFl c then [(false, j)] else [])
  | _, _ => []
def lets (bk : List (List Ins)) (s : Sd) : List (Bool × Nat) := (List.range bk.length).flatMap (stepsAt bk s)
def aft (bk : List (List Ins)) (s : Sd) (p : Bool × Nat) : Sd := if p.1 then aftDo bk s p.2 else aftFl s p.2
theorem steps_le (bk : List (List Ins)) (s : Sd) (j : Nat) : (stepsAt bk s j).length ≤ 2 := by
  unfold stepsAt
  split
  · split <;> split <;> simp
  · simp
theorem flat_le {α β : Type} (f : α → List β) (n : Nat) : ∀ l : List α, (∀ x ∈ l, (f x).length ≤ n) → (l.flatMap f).length ≤ n * l.length
  | [], _ => by simp
  | x :: l, h => by
    have h1 := h x List.mem_cons_self
    have h2 := flat_le f n l fun y hy => h y (List.mem_cons_of_mem _ hy)
    rw [List.flatMap_cons, List.length_append, List.length_cons, Nat.mul_add, Nat.mul_one]
    omega
theorem lets_le (bk : List (List Ins)) (s : Sd) : (lets bk s).length ≤ 2 * bk.length := by
  have := flat_le (stepsAt bk s) 2 (List.range bk.length) fun x _ => steps_le bk s x
  simpa [lets] using this
theorem zip_get {α β : Type} {xs : List α} {ys : List β} {j : Nat} {x : α} {y : β} (h1 : xs[j]? = some x) (h2 : ys[j]? = some y) : (x, y) ∈ xs.zip ys := by
  have : (xs.zip ys)[j]? = some (x, y) := by rw [List.getElem?_zip_eq_some]; exact ⟨h1, h2⟩
  exact List.mem_of_getElem? this
section
variable {bk : List (List Ins)} {t : Nat} {s : Sd}
theorem OkS.get (h : OkS bk t s) {j : Nat} (hj : j < bk.length) : ∃ rs c, bk[j]? = some rs ∧ s.cs[j]? = some c ∧ OkC rs s.mem.length t c :=
  ⟨bk[j], s.cs[j]'(by rw [h.len]; exact hj), List.getElem?_eq_getElem hj, List.getElem?_eq_getElem _, h.cs _ (zip_get (List.getElem?_eq_getElem hj) (List.getElem?_eq_getElem _))⟩
theorem mem_lets {p : Bool × Nat} (h : p ∈ lets bk s) : ∃ rs c, bk[p.2]? = some rs ∧ s.cs[p.2]? = some c ∧ (if p.1 then canDo rs c = true else canFl c = true) := by
  unfold lets at h
  obtain ⟨j, _, h⟩ := List.mem_flatMap.mp h
  unfold stepsAt at h
  split at h
  · rename_i rs c h1 h2
    rcases List.mem_append.mp h with h | h
    · split at h
      · rename_i hd
        simp only [List.mem_singleton] at h
        subst h
        exact ⟨rs, c, h1, h2, hd⟩
      · cases h
    · split at h
      · rename_i hd
        simp only [List.mem_singleton] at h
        subst h
        exact ⟨rs, c, h1, h2, hd⟩
      · cases h
  · cases h
theorem canDo_at {rs : List Ins} {c : Cr} (h : canDo rs c = true) : ∃ i, rs[c.row]? = some i ∧ ¬ i.nm = "stop" ∧ (c.late = [] ∨ (alones.any fun y => decide (y = i.nm)) = false) := by
  unfold canDo at h
  split at h
  · cases h
  · rename_i i hi
    split at h
    · cases h
    · rename_i hz
      refine ⟨i, hi, hz, ?_⟩
      rw [Bool.or_eq_true, List.isEmpty_iff] at h
      rcases h with h | h
      · exact .inl h
      · exact .inr (by simpa using h)
end
def b_71l : St := (.seq (.ifs (.call 67 [0, 1, 2] (.cons (.var 0) (.cons (.var 1) (.cons (.var 3) .nil))) .nil) (.seq (.drop (.app (.var 2) (.tup (.cons (.lit (.str "do")) (.cons (.var 3) .nil)))))
  .skip) .skip)
  (.seq (.ifs (.call 68 [0, 1] (.cons (.var 1) (.cons (.var 3) .nil)) .nil) (.seq (.drop (.app (.var 2) (.tup (.cons (.lit (.str "flush")) (.cons (.var 3) .nil)))))
  .skip) .skip)
  .skip))
section
variable {q : Pr} (Q : HK q) {W : Nat}
include Q
theorem let_p (k : Nat) (S : Store) {bk : List (List Ins)} {t : Nat} {s : Sd} (hb : bk.length ≤ 4) (ok : OkS bk t s) : ∃ S', run q W (k + 3) 71 [dBk bk, dSd s] S = some (.ref S.length, S') ∧ S'[S.length]? = some (.lst ((lets bk s).map dSt)) ∧ Kp [] S S' := by
  have hl : (lets bk s).length ≤ 8 := Nat.le_trans (lets_le bk s) (by omega)
  have hl2 : ((List.range bk.length).flatMap fun j => (stepsAt bk s j).map dSt) = (lets bk s).map dSt := by unfold lets; rw [List.map_flatMap]
  obtain ⟨e', S', l1, l2, l3, l4⟩ := push_loop (bod := ex (pm q W (k + 2)) b_71l) (t := .nm 3) (fun j : Nat => D.int j) (fun j => (stepsAt bk s j).map dSt) S.length 100 (fun e => ∃ x3, e = [some (dBk bk), some (dSd s), some (.ref S.length), x3]) S (List.range bk.length) [] [some (dBk bk), some (dSd s), some (.ref S.length), none] (S ++ [.lst []])
    (fun j hj e S1 acc he hk hr hB => by
      obtain ⟨x3, rfl⟩ := he
      obtain ⟨rs, c, h1, h2, okc⟩ := ok.get (List.mem_range.mp hj)
      have a1 := cando_p Q (W := W) k S1 h1 h2 okc.row
      have ac : acc.length < sizeLine := by rw [sizeLine_eq]; omega
      have e1 : ev (pm q W (k + 2)) (.call 67 [0, 1, 2] (.cons (.var 0) (.cons (.var 1) (.cons (.var 3) .nil))) .nil) [some (dBk bk), some (dSd s), some (.ref S.length), some (.int j)] S1 = some (.bl (canDo rs c), S1) := er_call (er_cons (er_var rfl) (er_cons (er_var rfl) (er_cons (er_var rfl) er_nil))) er_nil rfl a1
      have st : stepsAt bk s j = (if canDo rs c then [(true, j)] else []) ++ (if canFl c then [(false, j)] else []) := by unfold stepsAt; rw [h1, h2]
      have A : ∃ S2, ex (pm q W (k + 2)) (.ifs (.call 67 [0, 1, 2] (.cons (.var 0) (.cons (.var 1) (.cons (.var 3) .nil))) .nil) (.seq (.drop (.app (.var 2) (.tup (.cons (.lit (.str "do")) (.cons (.var 3) .nil))))) .skip) .skip) [some (dBk bk), some (dSd s), some (.ref S.length), some (.int j)] S1 = some (.nx, [some (dBk bk), some (dSd s), some (.ref S.length), some (.int j)], S2) ∧
          S2[S.length]? = some (.lst (acc ++ (if canDo rs c then [(true, j)] else []).map dSt)) ∧ Kp [S.length] S1 S2 := by
        cases hd : canDo rs c
        · rw [hd] at e1
          exact ⟨S1, es_if_f e1 es_skip, by simpa using hr, Kp.refl _ _⟩
        · rw [hd] at e1
          exact ⟨_, es_if_t e1 (es_nx (es_drop (er_app (er_var rfl) (er_tup (er_cons (er_lit rfl) (er_cons (er_var rfl) er_nil)) (Nat.le_of_ble_eq_true rfl)) (push_at hr ac))) es_skip), set_get hr, Kp.set⟩
      obtain ⟨S2, A1, A2, A3⟩ := A
      have a2 := flush_p Q (W := W) (k + 1) S2 h2
      have e2 : ev (pm q W (k + 2)) (.call 68 [0, 1] (.cons (.var 1) (.cons (.var 3) .nil)) .nil) [some (dBk bk), some (dSd s), some (.ref S.length), some (.int j)] S2 = some (.bl (canFl c), S2) := er_call (er_cons (er_var rfl) (er_cons (er_var rfl) er_nil)) er_nil rfl a2
      have ac2 : (acc ++ (if canDo rs c then [(true, j)] else []).map dSt).length < sizeLine := by
        rw [sizeLine_eq, List.length_append, List.length_map]; split <;> simp <;> omega
      refine ⟨[some (dBk bk), some (dSd s), some (.ref S.length), some (.int j)], [some (dBk bk), some (dSd s), some (.ref S.length), some (.int j)], ?_⟩
      rw [st, List.map_append, ← List.append_assoc]
      cases hd : canFl c
      · rw [hd] at e2
        refine ⟨S2, rfl, es_nx A1 (es_nx (es_if_f e2 es_skip) es_skip), ⟨_, rfl⟩, by simpa using A2, A3⟩
      · rw [hd] at e2
        exact ⟨_, rfl, es_nx A1 (es_nx (es_if_t e2 (es_nx (es_drop (er_app (er_var rfl) (er_tup (er_cons (er_lit rfl) (er_cons (er_var rfl) er_nil)) (Nat.le_of_ble_eq_true rfl)) (push_at A2 ac2))) es_skip)) es_skip), ⟨_, rfl⟩, set_get A2, A3.trans Kp.set⟩)
    ⟨_, rfl⟩ Kp.push g_last (by rw [hl2]; simp; omega)
  obtain ⟨x3, rfl⟩ := l2
  refine ⟨S', ?_, by rw [l4, hl2]; rfl, l3.drop (Nat.le_refl _)⟩
  refine' run_rt (e0 := [some _, some _, none, none]) Q.f71 rfl rfl ?h
  case h =>
    unfold b_71
    refine' es_nx (es_asg (er_lst er_nil (Nat.zero_le _)) rfl) ?_
    refine' es_nx (es_for (er_rng (n := bk.length) (er_cons (er_bi (er_cons (er_var rfl) er_nil) len_tup) er_nil) (by omega)) l1) ?_
    exact es_rt (es_ret (er_var rfl))
theorem islet_p (k : Nat) (S : Store) {bk : List (List Ins)} {t : Nat} {s : Sd} {p : Bool × Nat} (ok : OkS bk t s) (hp : p ∈ lets bk s) : run q W (k + 3) 885 [dBk bk, dSd s, dSt p] S = some (.bl true, S) := by
  obtain ⟨rs, c, h1, h2, h3⟩ := mem_lets hp
  have hj : p.2 < bk.length := (List.getElem?_eq_some_iff.mp h1).1
  have okc := ok.cs _ (zip_get h1 h2)
  have a1 := tupof_p Q (W := W) (k + 1) S (xs := [.str (if p.1 then "do" else "flush"), .int p.2]) (n := 2) rfl
  have a2 := betw_p Q (W := W) k S (v := p.2) (lo := 0) (hi := bk.length - 1) (by omega) (by omega)
  have i0 : ∀ e, e[2]? = some (some (dSt p)) → ev (pm q W (k + 2)) (.idx (.var 2) (.lit (.int 0))) e S = some (.str (if p.1 then "do" else "flush"), S) := fun e he => er_idx (er_var he) (er_lit rfl) (i_tup (atN (n := 0) rfl))
  have i1 : ∀ e, e[2]? = some (some (dSt p)) → ev (pm q W (k + 2)) (.idx (.var 2) (.lit (.int 1))) e S = some (.int p.2, S) := fun e he => er_idx (er_var he) (er_lit rfl) (i_tup (atN (n := 1) rfl))
  have c1 : ev (pm q W (k + 2)) (.not_ (.call 18 [0, 1] (.cons (.var 2) (.cons (.lit (.int 2)) .nil)) .nil)) [some (dBk bk), some (dSd s), some (dSt p)] S = some (.bl false, S) := er_not_f (er_call (er_cons (er_var rfl) (er_cons (er_lit rfl) er_nil)) er_nil rfl a1)
  have c2 : ev (pm q W (k + 2)) (.not_ (.isty (.idx (.var 2) (.lit (.int 0))) .str)) [some (dBk bk), some (dSd s), some (dSt p)] S = some (.bl false, S) := er_not_f (er_isty (i0 _ rfl) rfl)
  have c3 : ev (pm q W (k + 2)) (.not_ (.call 16 [0, 1, 2] (.cons (.idx (.var 2) (.lit (.int 1))) (.cons (.lit (.int 0)) (.cons (.bin .sub (.bi .len (.cons (.var 0) .nil)) (.lit (.int 1))) .nil))) .nil)) [some (dBk bk), some (dSd s), some (dSt p)] S = some (.bl false, S) :=
    er_not_f (er_call (er_cons (i1 _ rfl) (er_cons (er_lit rfl) (er_cons (er_bin (er_bi (er_cons (er_var rfl) er_nil) len_tup) (er_lit rfl) o_sub) er_nil))) er_nil rfl a2)
  obtain ⟨b, j⟩ := p
  cases b
  · have a3 := flush_p Q (W := W) (k + 1) S h2
    have h3' : canFl c = true := by simpa using h3
    rw [h3'] at a3
    have j0 : ev (pm q W (k + 2)) (.idx (.var 2) (.lit (.int 0))) [some (dBk bk), some (dSd s), some (dSt (false, j))] S = some (.str "flush", S) := i0 _ rfl
    have j1 : ev (pm q W (k + 2)) (.idx (.var 2) (.lit (.int 1))) [some (dBk bk), some (dSd s), some (dSt (false, j))] S = some (.int j, S) := i1 _ rfl
    refine' run_rt (e0 := [some _, some _, some _]) Q.f885 rfl rfl ?h
    case h =>
      unfold b_885
      refine' es_nx (es_if_f (er_or_f c1 (er_or_f c2 c3)) es_skip) ?_
      refine' es_nx (es_if_f (er_cmp j0 (er_lit rfl) (c_str_f (by decide))) es_skip) ?_
      exact es_rt (es_ret (er_and_t (er_cmp j0 (er_lit rfl) (c_str_t rfl)) (er_call (er_cons (er_var rfl) (er_cons j1 er_nil)) er_nil rfl a3)))
  · have a3 := cando_p Q (W := W) k S h1 h2 okc.row
    have h3' : canDo rs c = true := by simpa using h3
    rw [h3'] at a3
    have j0 : ev (pm q W (k + 2)) (.idx (.var 2) (.lit (.int 0))) [some (dBk bk), some (dSd s), some (dSt (true, j))] S = some (.str "do", S) := i0 _ rfl
    have j1 : ev (pm q W (k + 2)) (.idx (.var 2) (.lit (.int 1))) [some (dBk bk), some (dSd s), some (dSt (true, j))] S = some (.int j, S) := i1 _ rfl
    refine' run_rt (e0 := [some _, some _, some _]) Q.f885 rfl rfl ?h
    case h =>
      unfold b_885
      refine' es_nx (es_if_f (er_or_f c1 (er_or_f c2 c3)) es_skip) ?_
      exact es_rt (es_if_t (er_cmp j0 (er_lit rfl) (c_str_t rfl)) (es_rt (es_ret (er_call (er_cons (er_var rfl) (er_cons (er_var rfl) (er_cons j1 er_nil))) er_nil rfl a3))))
theorem aft_p (k : Nat) (S : Store) {bk : List (List Ins)} {t : Nat} {s : Sd} {p : Bool × Nat} (hb : bk.length ≤ 4) (hB : OkB bk) (ht : t ≤ 1000) (ok : OkS bk t s) (hp : p ∈ lets bk s) : ∃ S', run q W (k + 5) 73 [dBk bk, dSd s, dSt p] S = some (dSd (aft bk s p), S') ∧ Kp [] S S' := by
  obtain ⟨rs, c, h1, h2, h3⟩ := mem_lets hp
  have hj : p.2 < bk.length := (List.getElem?_eq_some_iff.mp h1).1
  have okc := ok.cs _ (zip_get h1 h2)
  have ol := ok.len
  obtain ⟨b, j⟩ := p
  simp only at h1 h2 h3 hj okc
  have m1 := ok.mem.l1
  cases b
  · have h3' : canFl c = true := by simpa using h3
    have j0 : ev (pm q W (k + 4)) (.idx (.var 2) (.lit (.int 0))) [some (dBk bk), some (dSd s), some (dSt (false, j))] S = some (.str "flush", S) := er_idx (er_var rfl) (er_lit rfl) (i_tup (atN (n := 0) rfl))
    have j1 : ev (pm q W (k + 4)) (.idx (.var 2) (.lit (.int 1))) [some (dBk bk), some (dSd s), some (dSt (false, j))] S = some (.int j, S) := er_idx (er_var rfl) (er_lit rfl) (i_tup (atN (n := 1) rfl))
    cases hc : c.late with
    | nil => unfold canFl at h3'; rw [hc] at h3'; cases h3'
    | cons pr r =>
      have lp := okc.lt pr (by rw [hc]; exact List.mem_cons_self)
      have a3 := afterfl_p Q (W := W) (k + 2) S h2 hc lp.1 (by omega) (by omega) m1 (by have := okc.ll; omega)
      have e : aft bk s (false, j) = ⟨s.cs.set j ⟨c.row, c.regs, r⟩, s.mem.set pr.1.toNat pr.2⟩ := by
        show aftFl s j = _
        unfold aftFl; rw [h2]; simp only [hc]
      rw [e]
      refine ⟨S, ?_, Kp.refl _ _⟩
      refine' run_rt (e0 := [some _, some _, some _]) Q.f73 rfl rfl ?h
      case h =>
        unfold b_73
        exact es_rt (es_ret (er_ife_f (er_cmp j0 (er_lit rfl) (c_str_f (by decide))) (er_call (er_cons (er_var rfl) (er_cons j1 er_nil)) er_nil rfl a3)))
  · have h3' : canDo rs c = true := by simpa using h3
    obtain ⟨i, hi, _, _⟩ := canDo_at h3'
    have iok := (hB.rs rs (List.mem_of_getElem? h1)).2 i (List.mem_of_getElem? hi)
    have j0 : ev (pm q W (k + 4)) (.idx (.var 2) (.lit (.int 0))) [some (dBk bk), some (dSd s), some (dSt (true, j))] S = some (.str "do", S) := er_idx (er_var rfl) (er_lit rfl) (i_tup (atN (n := 0) rfl))
    have j1 : ev (pm q W (k + 4)) (.idx (.var 2) (.lit (.int 1))) [some (dBk bk), some (dSd s), some (dSt (true, j))] S = some (.int j, S) := er_idx (er_var rfl) (er_lit rfl) (i_tup (atN (n := 1) rfl))
    obtain ⟨S', a3, a4⟩ := afterdo_p Q (W := W) k S h1 h2 hi iok okc.len (by omega) ok.mem (by have := okc.ll; omega)
    have e : aft bk s (true, j) = ⟨s.cs.set j (doI i c s.mem).1, (doI i c s.mem).2⟩ := by
      show aftDo bk s j = _
      unfold aftDo; rw [h1, h2]; simp only [hi]
    rw [e]
    refine ⟨S', ?_, a4⟩
    refine' run_rt (e0 := [some _, some _, some _]) Q.f73 rfl rfl ?h
    case h =>
      unfold b_73
      exact es_rt (es_ret (er_ife_t (er_cmp j0 (er_lit rfl) (c_str_t rfl)) (er_call (er_cons (er_var rfl) (er_cons (er_var rfl) (er_cons j1 er_nil))) er_nil rfl a3)))
theorem standby_p (k : Nat) (S : Store) {n : Nat} {bk : List (List Ins)} {t : Nat} {s : Sd} {p : Bool × Nat} (hn : S[n]? = some (.lst [dSt p])) (hb : bk.length ≤ 4) (hB : OkB bk) (ht : t ≤ 1000) (ok : OkS bk t s) (hp : p ∈ lets bk s) :
    ∃ S', run q W (k + 6) 886 [dBk bk, dSd s, .ref n, .fn "is_plain_let", .fn "after_step"] S = some (dSd (aft bk s p), S') ∧ Kp [] S S' := by
  have a1 := islet_p Q (W := W) (k + 2) S ok hp
  obtain ⟨S', a2, a3⟩ := aft_p Q (W := W) k S hb hB ht ok hp
  have hL : listAt S n = some [dSt p] := l_lst hn
  have cs0 : chks S [.tup [.ref n, .tup [dSt p]]] = true := chk_lst hL (Kp.refl _ _)
  have cs1 : chks S' [.tup [.ref n, .tup [dSt p]]] = true := chk_lst hL a3
  refine ⟨S', ?_, a3⟩
  refine' run_rt (e0 := [some _, some _, some _, some _, some _, none]) Q.f886 rfl rfl ?h
  case h =>
    unfold b_886
    refine' es_nx (es_for (itv_lst (er_var rfl) hL) (forL_nx cs0 rfl (e2 := [some (dBk bk), some (dSd (aft bk s p)), some (.ref n), some (.fn "is_plain_let"), some (.fn "after_step"), some (dSt p)]) ?_ (forL_nil cs1))) ?_
    · refine' es_nx (es_if_f (er_not_f (er_callv (er_var rfl) (er_cons (er_var rfl) (er_cons (er_var rfl) (er_cons (er_var rfl) er_nil))) Q.x885 a1)) es_skip) ?_
      exact es_nx (es_asg (er_callv (er_var rfl) (er_cons (er_var rfl) (er_cons (er_var rfl) (er_cons (er_var rfl) er_nil))) Q.x73 a2) rfl) es_skip
    · exact es_rt (es_ret (er_var rfl))
theorem plainfirst_p (k : Nat) (S : Store) {bk : List (List Ins)} {m : List Int} (hB : OkB bk) (hm : OkM m) : ∃ S', run q W (k + 7) 74 [dBk bk, .tup (m.map .int)] S = some (dSd ⟨bk.map fun _ => ⟨0, [0, 0, 0, 0, 0, 0, 0, 0], []⟩, m⟩, S') ∧ Kp [] S S' := by
  obtain ⟨S1, a1, k1⟩ := ckb_p Q (W := W) k S hB
  obtain ⟨S2, a2, k2⟩ := ckm_p Q (W := W) k S1 hm.wds hm.l0 hm.l1
  obtain ⟨S3, a3, k3⟩ := first_p Q (W := W) (k + 5) S2 bk m hB.l1
  refine ⟨S3, ?_, (k1.trans k2).trans k3⟩
  refine' run_rt (e0 := [some _, some _]) Q.f74 rfl rfl ?h
  case h =>
    unfold b_74
    refine' es_nx (es_drop (er_call (er_cons (er_var rfl) er_nil) er_nil rfl a1)) ?_
    refine' es_nx (es_drop (er_call (er_cons (er_var rfl) er_nil) er_nil rfl a2)) ?_
    exact es_rt (es_ret (er_call (er_cons (er_var rfl) (er_cons (er_var rfl) er_nil)) er_nil rfl a3))
theorem plainsteps_p (k : Nat) (S : Store) {bk : List (List Ins)} {t : Nat} {s : Sd} (hB : OkB bk) (ok : OkS bk t s) : ∃ r S', run q W (k + 7) 75 [dBk bk, dSd s] S = some (.ref r, S') ∧ S.length ≤ r ∧ S'[r]? = some (.lst ((lets bk s).map dSt)) ∧ Kp [] S S' := by
  obtain ⟨S1, a1, k1⟩ := ckb_p Q (W := W) k S hB
  obtain ⟨S2, a2, h2, k2⟩ := let_p Q (W := W) (k + 3) S1 hB.l1 ok
  refine ⟨S1.length, S2, ?_, ?_, h2, k1.trans k2⟩
  · refine' run_rt (e0 := [some _, some _]) Q.f75 rfl rfl ?h
    case h =>
      unfold b_75
      refine' es_nx (es_drop (er_call (er_cons (er_var rfl) er_nil) er_nil rfl a1)) ?_
      exact es_rt (es_ret (er_call (er_cons (er_var rfl) (er_cons (er_var rfl) er_nil)) er_nil rfl a2))
  · exact k1.le
theorem plainafter_p (k : Nat) (S : Store) {bk : List (List Ins)} {t : Nat} {s : Sd} {p : Bool × Nat} (hB : OkB bk) (ht : t ≤ 1000) (ok : OkS bk t s) (hp : p ∈ lets bk s) : ∃ S', run q W (k + 7) 887 [dBk bk, dSd s, dSt p] S = some (dSd (aft bk s p), S') ∧ Kp [] S S' := by
  obtain ⟨S1, a1, k1⟩ := ckb_p Q (W := W) k S hB
  obtain ⟨S2, a2, k2⟩ := standby_p Q (W := W) k (S1 ++ [.lst [dSt p]]) (n := S1.length) g_last hB.l1 hB ht ok hp
  refine ⟨S2, ?_, (k1.trans Kp.push).trans k2⟩
  refine' run_rt (e0 := [some _, some _, some _]) Q.f887 rfl rfl ?h
  case h =>
    unfold b_887
    refine' es_nx (es_drop (er_call (er_cons (er_var rfl) er_nil) er_nil rfl a1)) ?_
    exact es_rt (es_ret (er_call (er_cons (er_var rfl) (er_cons (er_var rfl) (er_cons (er_lst (er_cons (er_var rfl) er_nil) (Nat.le_of_ble_eq_true rfl)) (er_cons (er_glob Q.g13) (er_cons (er_glob Q.g14) er_nil))))) er_nil rfl a2))
theorem hasstopped_p (k : Nat) (S : Store) {bk : List (List Ins)} {t : Nat} {s : Sd} {j : Nat} {rs : List Ins} {c : Cr} (hB : OkB bk) (ok : OkS bk t s) (h1 : bk[j]? = some rs) (h2 : s.cs[j]? = some c) : ∃ S', run q W (k + 7) 77 [dBk bk, dSd s, .int j] S = some (.bl (isStop rs c.row), S') ∧ Kp [] S S' := by
  have okc := ok.cs _ (zip_get h1 h2)
  have hj : j < bk.length := (List.getElem?_eq_some_iff.mp h1).1
  obtain ⟨S1, a1, k1⟩ := ckb_p Q (W := W) k S hB
  have a2 := ckn_p Q (W := W) (k + 3) S1 (v := j) (lo := 0) (hi := bk.length - 1) (by omega) (by omega)
  have a3 := stop_p Q (W := W) (k + 5) S1 okc.row
  refine ⟨S1, ?_, k1⟩
  refine' run_rt (e0 := [some _, some _, some _]) Q.f77 rfl rfl ?h
  case h =>
    unfold b_77
    refine' es_nx (es_drop (er_call (er_cons (er_var rfl) er_nil) er_nil rfl a1)) ?_
    refine' es_nx (es_drop (er_call (er_cons (er_var rfl) (er_cons (er_lit rfl) (er_cons (er_bin (er_bi (er_cons (er_var rfl) er_nil) len_tup) (er_lit rfl) o_sub) er_nil))) er_nil rfl a2)) ?_
    refine' es_rt (es_ret (er_call (er_cons (er_idx (er_var rfl) (er_var rfl) (i_tup (map_at h1))) (er_cons (er_idx (er_idx (er_idx (er_var rfl) (er_lit rfl) (i_tup (atN (n := 0) rfl))) (er_var rfl) (i_tup (map_at h2))) (er_lit rfl) (i_tup (atN (n := 0) rfl))) er_nil)) er_nil rfl a3))
theorem hasended_p (k : Nat) (S : Store) {bk : List (List Ins)} {t : Nat} {s : Sd} (hB : OkB bk) (ok : OkS bk t s) : ∃ S', run q W (k + 7) 78 [dBk bk, dSd s] S = some (.bl ((bk.zip s.cs).all endB), S') ∧ Kp [] S S' := by
  obtain ⟨S1, a1, k1⟩ := ckb_p Q (W := W) k S hB
  obtain ⟨S2, a2, k2⟩ := ended_p Q (W := W) (k + 4) S1 (bk := bk) (s := s) (fun p hp => (ok.cs p hp).row) hB.l1
  refine ⟨S2, ?_, k1.trans k2⟩
  refine' run_rt (e0 := [some _, some _]) Q.f78 rfl rfl ?h
  case h =>
    unfold b_78
    refine' es_nx (es_drop (er_call (er_cons (er_var rfl) er_nil) er_nil rfl a1)) ?_
    exact es_rt (es_ret (er_call (er_cons (er_var rfl) (er_cons (er_var rfl) er_nil)) er_nil rfl a2))
end
end Tm

set_option Elab.async false
set_option linter.all false
set_option maxRecDepth 100000
set_option maxHeartbeats 8000000
namespace Tm
open PySem L2
/-! ## a step keeps a stand right -/
theorem sum_wd {nm : Str} (hm : nm ∈ sms) {x y : Int} (hx : Wd x) (hy : Wd y) : Wd (sumOf nm x y) := by
  obtain ⟨x0, x1⟩ := hx
  obtain ⟨y0, y1⟩ := hy
  obtain ⟨x, rfl⟩ := Int.eq_ofNat_of_zero_le x0
  obtain ⟨y, rfl⟩ := Int.eq_ofNat_of_zero_le y0
  simp only [sms, List.mem_cons, List.not_mem_nil, or_false] at hm
  rcases hm with rfl | rfl | rfl | rfl | rfl
  · show Wd ((x + y : Int) % 65536); unfold Wd; omega
  · show Wd ((x - y : Int) % 65536); unfold Wd; omega
  · show Wd (Builtin.bitAnd x y)
    rw [bitAnd_nat]
    have := Nat.and_le_left (n := x) (m := y)
    unfold Wd; omega
  · show Wd (Builtin.bitXor x y)
    rw [bitXor_nat x y (by omega) (by omega)]
    have h1 := bs_xor 16 x y (by omega) (by omega)
    have h2 : x ||| y < 2 ^ 16 := Nat.or_lt_two_pow (by omega) (by omega)
    unfold Wd; omega
  · show Wd (if (x : Int) < y then (1 : Int) else 0)
    split <;> (unfold Wd; omega)
theorem all_set {α : Type} {P : α → Prop} {l : List α} {j : Nat} {x : α} (h : ∀ v ∈ l, P v) (hx : P x) : ∀ v ∈ l.set j x, P v := fun v hv => by
  rcases List.mem_or_eq_of_mem_set hv with h1 | h1
  · exact h v h1
  · rw [h1]; exact hx
theorem ldW_wd {late : List (Int × Int)} {m : List Int} {cell : Int} (h1 : ∀ p ∈ late, Wd p.2) (h2 : ∀ v ∈ m, Wd v) : Wd (ldW late m cell) := by
  unfold ldW
  split
  · rename_i p hp
    exact h1 p (List.mem_reverse.mp (List.mem_of_find?_eq_some hp))
  · exact rg_wd h2
theorem okC_doI {rs : List Ins} {t n : Nat} {i : Ins} {c : Cr} {m : List Int} (ok : OkC rs n t c) (hi : i.ok rs.length) (hn : n = m.length) (hm : OkM m) (hr : c.row < rs.length) :
    OkC rs n (t + 1) (doI i c m).1 ∧ OkM (doI i c m).2 ∧ (doI i c m).2.length = n := by
  subst hn
  obtain ⟨row, len, wds, lt, ll⟩ := ok
  obtain ⟨l0, l1, mw⟩ := hm
  obtain ⟨hnm, a0, a1, b0, b1, c0, c1, w0, w1, g0, g1⟩ := hi
  obtain ⟨nm, a, b, cc, w, g⟩ := i
  obtain ⟨rw', regs, late⟩ := c
  simp only at *
  have M : OkM m := ⟨l0, l1, mw⟩
  have keepM : ∀ j x, Wd x → OkM (m.set j x) ∧ (m.set j x).length = m.length := fun j x hx => ⟨⟨by simpa using l0, by simpa using l1, all_set mw hx⟩, by simp⟩
  have C : ∀ (rgs : List Int), rgs.length = 8 → (∀ v ∈ rgs, Wd v) → OkC rs m.length (t + 1) ⟨rw' + 1, rgs, late⟩ := fun rgs h1 h2 => ⟨by simp only; omega, h1, h2, lt, by simp only; omega⟩
  have Cs : ∀ x, Wd x → OkC rs m.length (t + 1) ⟨rw' + 1, regs.set a.toNat x, late⟩ := fun x hx => C _ (by simpa using len) (all_set wds hx)
  have Cr : ∀ r, r ≤ rs.length → OkC rs m.length (t + 1) ⟨r, regs, late⟩ := fun r hr' => ⟨hr', len, wds, lt, by simp only; omega⟩
  simp only [nms, List.mem_cons, List.not_mem_nil, or_false] at hnm
  rcases hnm with rfl | rfl | rfl | rfl | rfl | rfl | rfl | rfl | rfl | rfl | rfl | rfl | rfl | rfl | rfl
  · exact ⟨Cs w ⟨w0, w1⟩, M, rfl⟩
  · exact ⟨Cs _ (sum_wd (nm := "add") (by decide) (rg_wd wds) (rg_wd wds)), M, rfl⟩
  · exact ⟨Cs _ (sum_wd (nm := "sub") (by decide) (rg_wd wds) (rg_wd wds)), M, rfl⟩
  · exact ⟨Cs _ (sum_wd (nm := "and") (by decide) (rg_wd wds) (rg_wd wds)), M, rfl⟩
  · exact ⟨Cs _ (sum_wd (nm := "xor") (by decide) (rg_wd wds) (rg_wd wds)), M, rfl⟩
  · exact ⟨Cs _ (sum_wd (nm := "below") (by decide) (rg_wd wds) (rg_wd wds)), M, rfl⟩
  · exact ⟨Cs _ (ldW_wd (fun p hp => (lt p hp).2.2) mw), M, rfl⟩
  · refine ⟨⟨by show rw' + 1 ≤ _; omega, len, wds, ?_, ?_⟩, M, rfl⟩
    · intro p hp
      have hp : p ∈ late ++ [((rg regs b + w) % m.length, rg regs a)] := hp
      rcases List.mem_append.mp hp with hp | hp
      · exact lt p hp
      · simp only [List.mem_singleton] at hp
        subst hp
        exact ⟨Int.emod_nonneg _ (by omega), Int.emod_lt_of_pos _ (by omega), rg_wd wds⟩
    · show (late ++ [_]).length ≤ t + 1
      simp; omega
  · obtain ⟨k1, k2⟩ := keepM ((rg regs cc + w) % m.length).toNat (rg regs b) (rg_wd wds)
    exact ⟨Cs _ (rg_wd mw), k1, k2⟩
  · obtain ⟨k1, k2⟩ := keepM ((rg regs cc + w) % m.length).toNat ((rg m ((rg regs cc + w) % m.length) + rg regs b) % 65536) ⟨by omega, by omega⟩
    exact ⟨Cs _ (rg_wd mw), k1, k2⟩
  · exact ⟨C _ len wds, M, rfl⟩
  · refine ⟨Cr _ ?_, M, rfl⟩
    show (if rg regs a = 0 then g.toNat else rw' + 1) ≤ rs.length
    split <;> omega
  · exact ⟨Cr _ (by show g.toNat ≤ _; omega), M, rfl⟩
  · exact ⟨C _ len wds, M, rfl⟩
  · exact ⟨C _ len wds, M, rfl⟩
theorem zip_set {α β : Type} {xs : List α} {ys : List β} {j : Nat} {y : β} {p : α × β} (h : p ∈ xs.zip (ys.set j y)) : p ∈ xs.zip ys ∨ (xs[j]? = some p.1 ∧ p.2 = y) := by
  obtain ⟨i, hi⟩ := List.mem_iff_getElem?.mp h
  rw [List.getElem?_zip_eq_some] at hi
  obtain ⟨h1, h2⟩ := hi
  by_cases e : j = i
  · subst e
    rw [List.getElem?_set] at h2
    split at h2
    · split at h2
      · exact .inr ⟨h1, (Option.some.inj h2).symm⟩
      · cases h2
    · rename_i z; exact absurd rfl z
  · rw [List.getElem?_set_ne e] at h2
    exact .inl (zip_get h1 h2)
theorem OkC.mono {rs : List Ins} {n t : Nat} {c : Cr} (h : OkC rs n t c) : OkC rs n (t + 1) c := ⟨h.row, h.len, h.wds, h.lt, by have := h.ll; omega⟩
theorem okS_aft {bk : List (List Ins)} {t : Nat} {s : Sd} {p : Bool × Nat} (hB : OkB bk) (ok : OkS bk t s) (hp : p ∈ lets bk s) : OkS bk (t + 1) (aft bk s p) := by
  obtain ⟨rs, c, h1, h2, h3⟩ := mem_lets hp
  have okc := ok.cs _ (zip_get h1 h2)
  obtain ⟨b, j⟩ := p
  simp only at h1 h2 h3 okc
  cases b
  · have h3' : canFl c = true := by simpa using h3
    cases hc : c.late with
    | nil => unfold canFl at h3'; rw [hc] at h3'; cases h3'
    | cons pr r =>
      have e : aft bk s (false, j) = ⟨s.cs.set j ⟨c.row, c.regs, r⟩, s.mem.set pr.1.toNat pr.2⟩ := by
        show aftFl s j = _
        unfold aftFl; rw [h2]; simp only [hc]
      rw [e]
      have lp := okc.lt pr (by rw [hc]; exact List.mem_cons_self)
      have lm := ok.mem
      refine ⟨by simpa using ok.len, ⟨by simpa using lm.l0, by simpa using lm.l1, all_set lm.wds lp.2.2⟩, fun q hq => ?_⟩
      simp only [List.length_set]
      rcases zip_set hq with hq | ⟨g1, g2⟩
      · exact (ok.cs q hq).mono
      · rw [h1] at g1
        cases g1
        rw [g2]
        exact ⟨okc.row, okc.len, okc.wds, fun p' hp' => okc.lt p' (by rw [hc]; exact List.mem_cons_of_mem _ hp'), by have := okc.ll; rw [hc] at this; simp at this; show r.length ≤ _; omega⟩
  · have h3' : canDo rs c = true := by simpa using h3
    obtain ⟨i, hi, _, _⟩ := canDo_at h3'
    have iok := (hB.rs rs (List.mem_of_getElem? h1)).2 i (List.mem_of_getElem? hi)
    have e : aft bk s (true, j) = ⟨s.cs.set j (doI i c s.mem).1, (doI i c s.mem).2⟩ := by
      show aftDo bk s j = _
      unfold aftDo; rw [h1, h2]; simp only [hi]
    rw [e]
    obtain ⟨k1, k2, k3⟩ := okC_doI okc iok rfl ok.mem (List.getElem?_eq_some_iff.mp hi).1
    refine ⟨by simpa using ok.len, k2, fun q hq => ?_⟩
    rw [show (Sd.mk (s.cs.set j (doI i c s.mem).1) (doI i c s.mem).2).mem.length = s.mem.length from k3]
    rcases zip_set hq with hq | ⟨g1, g2⟩
    · exact (ok.cs q hq).mono
    · rw [h1] at g1
      cases g1
      rw [g2]
      exact k1
/-! ## what is told of a stand is like itself -/
theorem nw_pr {p : Int × Int} (h1 : 0 ≤ p.1 ∧ p.1 < 100) (h2 : Wd p.2) : NW 1 102 (dPr p) := by
  have := NW.tup (dp := 0) (w := 50) (ds := [.int p.1, .int p.2]) (fun d hd => by
    simp only [List.mem_cons, List.not_mem_nil, or_false] at hd
    rcases hd with rfl | rfl
    · exact NW.int (by omega)
    · exact NW.int (by have := h2.1; have := h2.2; omega))
  exact this.mono (Nat.le_refl _) (Nat.le_of_ble_eq_true rfl)
theorem nw_words {l : List Int} (h : ∀ v ∈ l, Wd v) (hl : l.length ≤ 40) : NW 1 2100 (.tup (l.map .int)) := by
  refine (NW.tup (dp := 0) (w := 50) fun d hd => ?_).mono (Nat.le_refl _) (by simp; omega)
  obtain ⟨v, hv, rfl⟩ := List.mem_map.mp hd
  exact NW.int (by have := (h v hv).1; have := (h v hv).2; omega)
theorem nw_cr {rs : List Ins} {n t : Nat} {c : Cr} (h : OkC rs n t c) (hn : n ≤ 32) (ht : t ≤ 50) (hr : rs.length ≤ 40) : NW 3 18000 (dCr c) := by
  have h1 : NW 2 5200 (.tup (c.late.map dPr)) := by
    refine (NW.tup (dp := 1) (w := 102) fun d hd => ?_).mono (Nat.le_refl _) (by have := h.ll; simp; omega)
    obtain ⟨p, hp, rfl⟩ := List.mem_map.mp hd
    have := h.lt p hp
    exact nw_pr ⟨this.1, by omega⟩ this.2.2
  have h2 := nw_words h.wds (by have := h.len; omega)
  have h3 : NW 0 50 (.int c.row) := NW.int (by have := h.row; omega)
  have := NW.tup (dp := 2) (w := 5200) (ds := [.int c.row, .tup (c.regs.map .int), .tup (c.late.map dPr)]) (fun d hd => by
    simp only [List.mem_cons, List.not_mem_nil, or_false] at hd
    rcases hd with rfl | rfl | rfl
    · exact h3.mono (by decide) (by decide)
    · exact h2.mono (by decide) (by decide)
    · exact h1)
  exact this.mono (Nat.le_refl _) (Nat.le_of_ble_eq_true rfl)
theorem nw_sd {bk : List (List Ins)} {t : Nat} {s : Sd} (hB : OkB bk) (ok : OkS bk t s) (ht : t ≤ 50) : Nice (dSd s) := by
  have h1 : NW 4 72004 (.tup (s.cs.map dCr)) := by
    refine (NW.tup (dp := 3) (w := 18000) fun d hd => ?_).mono (Nat.le_refl _) (by have := ok.len; have := hB.l1; simp; omega)
    obtain ⟨c, hc, rfl⟩ := List.mem_map.mp hd
    obtain ⟨j, hj⟩ := List.mem_iff_getElem?.mp hc
    have hl : j < bk.length := by rw [← ok.len]; exact (List.getElem?_eq_some_iff.mp hj).1
    obtain ⟨rs, c', g1, g2, g3⟩ := ok.get hl
    rw [hj] at g2
    cases g2
    exact nw_cr g3 ok.mem.l1 ht (hB.rs rs (List.mem_of_getElem? g1)).1
  have h2 := nw_words ok.mem.wds (by have := ok.mem.l1; omega)
  have := NW.tup (dp := 4) (w := 72004) (ds := [.tup (s.cs.map dCr), .tup (s.mem.map .int)]) (fun d hd => by
    simp only [List.mem_cons, List.not_mem_nil, or_false] at hd
    rcases hd with rfl | rfl
    · exact h1
    · exact h2.mono (by decide) (by decide))
  exact this.nice (Nat.le_of_ble_eq_true rfl) (by show (72004 + 1) * 2 ≤ 2 ^ 20; decide)
theorem nw_st {p : Bool × Nat} (h : p.2 < 100) : NW 1 102 (dSt p) := by
  have := NW.tup (dp := 0) (w := 50) (ds := [.str (if p.1 then "do" else "flush"), .int p.2]) (fun d hd => by
    simp only [List.mem_cons, List.not_mem_nil, or_false] at hd
    rcases hd with rfl | rfl
    · cases p.1
      · exact NW.str (z := "flush") (by decide +kernel) (by decide +kernel)
      · exact NW.str (z := "do") (by decide +kernel) (by decide +kernel)
    · exact NW.int (by omega))
  exact this.mono (Nat.le_refl _) (Nat.le_of_ble_eq_true rfl)
/-- ended is: nothing is let -/
theorem ended_lets {bk : List (List Ins)} {t : Nat} {s : Sd} (ok : OkS bk t s) : ((bk.zip s.cs).all endB) = (lets bk s).isEmpty := by
  have one : ∀ rs c, (!endB (rs, c)) = (canDo rs c || canFl c) := by
    intro rs c
    unfold endB canDo canFl isStop
    cases h : rs[c.row]? with
    | none => simp
    | some i =>
      simp only
      by_cases z : i.nm = "stop"
      · simp [z]
      · cases c.late.isEmpty <;> simp [z]
  cases h : (lets bk s).isEmpty
  · rw [List.isEmpty_eq_false_iff_exists_mem] at h
    obtain ⟨p, hp⟩ := h
    obtain ⟨rs, c, h1, h2, h3⟩ := mem_lets hp
    have : endB (rs, c) = false := by
      have := one rs c
      cases hb : p.1
      · rw [hb] at h3; simp at h3; rw [h3] at this; simpa using this
      · rw [hb] at h3; simp at h3; rw [h3] at this; simpa using this
    rw [Bool.eq_false_iff]
    intro z
    rw [List.all_eq_true] at z
    rw [z _ (zip_get h1 h2)] at this
    cases this
  · rw [List.isEmpty_iff] at h
    rw [List.all_eq_true]
    intro p hp
    obtain ⟨j, hj⟩ := List.mem_iff_getElem?.mp hp
    rw [List.getElem?_zip_eq_some] at hj
    have hl := (List.getElem?_eq_some_iff.mp hj.1).1
    have h0 : stepsAt bk s j = [] := by
      unfold lets at h
      rw [List.flatMap_eq_nil_iff] at h
      exact h j (List.mem_range.mpr hl)
    unfold stepsAt at h0
    rw [hj.1, hj.2] at h0
    simp only [List.append_eq_nil_iff] at h0
    have e1 : canDo p.1 p.2 = false := by cases h : canDo p.1 p.2 <;> simp [h] at h0 ⊢
    have e2 : canFl p.2 = false := by cases h : canFl p.2 <;> simp [h] at h0 ⊢
    have := one p.1 p.2
    rw [e1, e2] at this
    simpa using this
end Tm

set_option Elab.async false
set_option linter.all false
set_option maxRecDepth 100000
set_option maxHeartbeats 8000000
namespace Tm
open PySem L2
local macro_rules | `(tactic| walk_at "sm") => `(tactic| first | assumption | (unfold Sm; first | omega | decide))
local macro_rules | `(tactic| walk_at "in") => `(tactic| first | assumption | omega | decide)
local macro_rules | `(tactic| walk_at "lst") => `(tactic| first | assumption | exact l_last | exact l_lst (by assumption) | exact l_ro (by assumption) | exact l_lst (set_get (by assumption)))
local macro_rules | `(tactic| walk_at "op") => `(tactic| first
  | with_reducible exact o_add
  | with_reducible exact o_sub
  | ((with_reducible refine' o_addT ?h); (case h => first | assumption | exact Nat.le_of_ble_eq_true rfl))
  | with_reducible exact o_band
  | with_reducible exact o_bxor
  | with_reducible exact o_band
  | with_reducible exact o_bxor
  | ((with_reducible refine' o_mod ?h); (case h => walk_at "in"))
  | ((with_reducible refine' o_div ?h ?g); (case h => walk_at "in"); (case g => walk_at "sm"))
  | ((with_reducible refine' o_mul ?h ?g); (case h => walk_at "sm"); (case g => walk_at "sm"))
  | ((with_reducible refine' o_pow ?h ?g); (case h => walk_at "in"); (case g => decide)))
local macro_rules | `(tactic| walk_at "cmp") => `(tactic| first
  | with_reducible assumption
  | with_reducible exact c_isN
  | with_reducible exact c_isnN
  | with_reducible exact c_isT
  | with_reducible exact c_isnT
  | with_reducible exact c_isB
  | ((with_reducible refine' c_eq_t ?h); (case h => walk_at "in"))
  | ((with_reducible refine' c_lt_t ?h); (case h => walk_at "in"))
  | ((with_reducible refine' c_gt_t ?h); (case h => walk_at "in"))
  | ((with_reducible refine' c_ne_t ?h); (case h => walk_at "in"))
  | ((with_reducible refine' c_le_t ?h); (case h => walk_at "in"))
  | ((with_reducible refine' c_ge_t ?h); (case h => walk_at "in"))
  | ((with_reducible refine' c_eq_f ?h); (case h => walk_at "in"))
  | ((with_reducible refine' c_lt_f ?h); (case h => walk_at "in"))
  | ((with_reducible refine' c_gt_f ?h); (case h => walk_at "in"))
  | ((with_reducible refine' c_ne_f ?h); (case h => walk_at "in"))
  | ((with_reducible refine' c_le_f ?h); (case h => walk_at "in"))
  | ((with_reducible refine' c_ge_f ?h); (case h => walk_at "in"))
  | ((with_reducible refine' c_str_t ?h); (case h => with_reducible exact rfl))
  | ((with_reducible refine' c_str_f ?h); (case h => first | assumption | decide))
  | ((with_reducible refine' c_strn_f ?h); (case h => with_reducible exact rfl))
  | ((with_reducible refine' c_strn_t ?h); (case h => first | assumption | decide))
  | ((with_reducible refine' c_in (t := true) ?h ?g ?f ?e); (case h => walk_at "lst"); (case g => exact rfl); (case f => exact rfl); (case e => first | assumption | decide))
  | ((with_reducible refine' c_in (t := false) ?h ?g ?f ?e); (case h => walk_at "lst"); (case g => exact rfl); (case f => exact rfl); (case e => first | assumption | decide))
  | ((with_reducible refine' c_inT (t := true) ?g ?f ?e); (case g => exact rfl); (case f => exact rfl); (case e => first | assumption | decide))
  | ((with_reducible refine' c_inT (t := false) ?g ?f ?e); (case g => exact rfl); (case f => exact rfl); (case e => first | assumption | decide))
  | ((with_reducible refine' c_ninT (t := true) ?g ?f ?e); (case g => exact rfl); (case f => exact rfl); (case e => first | assumption | decide))
  | ((with_reducible refine' c_ninT (t := false) ?g ?f ?e); (case g => exact rfl); (case f => exact rfl); (case e => first | assumption | decide))
  | ((with_reducible refine' c_nin (t := true) ?h ?g ?f ?e); (case h => walk_at "lst"); (case g => exact rfl); (case f => exact rfl); (case e => first | assumption | decide))
  | ((with_reducible refine' c_nin (t := false) ?h ?g ?f ?e); (case h => walk_at "lst"); (case g => exact rfl); (case f => exact rfl); (case e => first | assumption | decide)))
local macro_rules | `(tactic| walk_at "bi") => `(tactic| first | with_reducible assumption | ((with_reducible refine' b_tupL ?h); (case h => walk_at "lst")) | with_reducible exact b_int | with_reducible exact b_bool | with_reducible exact b_abs | with_reducible exact b_max | with_reducible exact b_min | with_reducible exact b_lenT | ((with_reducible refine' b_lenL ?h); (case h => walk_at "lst")) | with_reducible apply_assumption)
local macro_rules | `(tactic| walk_at "pick") => `(tactic| first | with_reducible exact pk1 | with_reducible exact pk2 | with_reducible exact pk3 | with_reducible exact pk4 | with_reducible exact pk5 | with_reducible exact pn1 | with_reducible exact pn2 | with_reducible exact pn3)
local macro_rules | `(tactic| walk_at "call") => `(tactic| first | with_reducible assumption | with_reducible apply_assumption)
local macro_rules | `(tactic| walk_at "ev") => `(tactic| first
  | (with_reducible assumption)
  | ((with_reducible refine' er_env ?he ?h); (case h => with_reducible assumption); (case he => exact rfl))
  | (with_reducible exact er_nil)
  | ((with_reducible refine' er_glob ?h); (case h => assumption))
  | ((with_reducible refine' er_lit ?h); (case h => exact rfl))
  | ((with_reducible refine' er_var ?h); (case h => exact rfl))
  | ((with_reducible refine' er_cons ?h1 ?h2); (case h1 => walk_at "ev"); (case h2 => walk_at "ev"))
  | ((with_reducible refine' er_tup ?h1 ?h2); (case h1 => walk_at "ev"); (case h2 => exact Nat.le_of_ble_eq_true rfl))
  | ((with_reducible refine' er_lst ?h1 ?h2); (case h1 => walk_at "ev"); (case h2 => exact Nat.le_of_ble_eq_true rfl))
  | ((with_reducible refine' er_neg ?h1); (case h1 => walk_at "ev"))
  | ((with_reducible refine' er_isty ?h1 ?h2); (case h1 => walk_at "ev"); (case h2 => first | exact rfl | exact ty_ref (by walk_at "lst")))
  | ((with_reducible refine' er_chain_t ?h1 ?h2 ?h3 ?h4 ?h5); (case h1 => walk_at "ev"); (case h2 => walk_at "ev"); (case h3 => walk_at "cmp"); (case h4 => walk_at "ev"); (case h5 => walk_at "cmp"))
  | ((with_reducible refine' er_slc_to ?h1 ?h2 ?h3 ?h4); (case h1 => walk_at "ev"); (case h2 => exact rfl); (case h3 => walk_at "ev"); (case h4 => first | assumption | omega))
  | ((with_reducible refine' er_slc_from ?h1 ?h2 ?h3 ?h4); (case h1 => walk_at "ev"); (case h2 => exact rfl); (case h3 => walk_at "ev"); (case h4 => first | assumption | omega))
  | ((with_reducible refine' er_app ?h1 ?h2 ?h3); (case h1 => walk_at "ev"); (case h2 => walk_at "ev"); (case h3 => exact push_at (by assumption) (by assumption)))
  | ((with_reducible refine' er_callv ?h1 ?h2 ?h3 ?h4); (case h1 => walk_at "ev"); (case h2 => walk_at "ev"); (case h3 => assumption); (case h4 => walk_at "call"))
  | ((with_reducible refine' er_bin ?h1 ?h2 ?h3); (case h1 => walk_at "ev"); (case h2 => walk_at "ev"); (case h3 => walk_at "op"))
  | ((with_reducible refine' er_idx ?h1 ?h2 ?h3); (case h1 => walk_at "ev"); (case h2 => walk_at "ev"); (case h3 => first | exact i_tup (by first | assumption | rfl) | exact i_lst (by walk_at "lst") (by first | assumption | rfl)))
  | ((with_reducible refine' er_call ?h1 ?h2 ?h3 ?h4); (case h1 => walk_at "ev"); (case h2 => walk_at "ev"); (case h3 => walk_at "pick"); (case h4 => walk_at "call"))
  | ((with_reducible refine' er_bi ?h1 ?h2); (case h1 => walk_at "ev"); (case h2 => walk_at "bi"))
  | ((with_reducible refine' er_cmp ?h1 ?h2 ?h3); (case h1 => walk_at "ev"); (case h2 => walk_at "ev"); (case h3 => walk_at "cmp"))
  | ((with_reducible refine' er_nots ?h1 ?h2); (case h1 => walk_at "ev"); (case h2 => first | exact Neg.t | exact Neg.f))
  | ((with_reducible refine' er_ors ?h1 ?h2); (case h1 => walk_at "ev"); (case h2 => first | exact ors_t | ((with_reducible refine' ors_f ?h3); (case h3 => walk_at "ev"))))
  | ((with_reducible refine' er_ands ?h1 ?h2); (case h1 => walk_at "ev"); (case h2 => first | exact ands_f | ((with_reducible refine' ands_t ?h3); (case h3 => walk_at "ev"))))
  | ((with_reducible refine' er_br ?h1 ?h2); (case h1 => walk_at "ev"); (case h2 => first | ((with_reducible refine' bre_t ?h3); (case h3 => walk_at "ev")) | ((with_reducible refine' bre_f ?h3); (case h3 => walk_at "ev")))))
local macro_rules | `(tactic| walk_at "ex") => `(tactic| first
  | ((with_reducible refine' es_skip2 ?h1 ?h2); (case h1 => exact rfl); (case h2 => exact rfl))
  | ((with_reducible refine' es_sq ?h1 ?h2); (case h1 => walk_at "ex"); (case h2 => first | exact nxt_rt | exact nxt_bk | exact nxt_ct | ((with_reducible refine' nxt_nx ?h3); (case h3 => walk_at "ex"))))
  | ((with_reducible refine' es_ret ?h1); (case h1 => walk_at "ev"))
  | ((with_reducible refine' es_asg ?h1 ?h2); (case h1 => walk_at "ev"); (case h2 => exact rfl))
  | ((with_reducible refine' es_seti ?h1 ?h2 ?h3 ?h4); (case h1 => walk_at "ev"); (case h2 => walk_at "ev"); (case h3 => walk_at "ev"); (case h4 => exact s_set (by first | assumption | exact set_get (by assumption)) rfl))
  | ((with_reducible refine' es_drop ?h1); (case h1 => walk_at "ev"))
  | ((with_reducible refine' es_br ?h1 ?h2); (case h1 => walk_at "ev"); (case h2 => first | ((with_reducible refine' brs_t ?h3); (case h3 => walk_at "ex")) | ((with_reducible refine' brs_f ?h3); (case h3 => walk_at "ex")))))


/-! ## the law's own machine, in lists -/
def FP (M : Nat) (as : List (Nat × Nat)) : List Nat := M :: as.flatMap fun p => [p.1, p.2]
structure Own (Z : List Nat) (S : Store) (o L M : Nat) (as : List (Nat × Nat)) (s : Sd) : Prop where
  ho : S[o]? = some (.lst [.ref L, .ref M])
  hL : S[L]? = some (.lst (as.map fun p => .ref p.1))
  hM : S[M]? = some (.lst (s.mem.map .int))
  hn : as.length = s.cs.length
  hc : ∀ (j : Nat) (p : Nat × Nat) (c : Cr), as[j]? = some p → s.cs[j]? = some c → ∃ l, S[p.1]? = some (.lst [.int c.row, .ref p.2, .ref l]) ∧ S[p.2]? = some (.lst (c.regs.map .int)) ∧ S[l]? = some (.lst (c.late.map dPr)) ∧ l ∉ Z
  oZ : o ∉ Z
  LZ : L ∉ Z
  nd : (FP M as).Nodup
  sub : ∀ x ∈ FP M as, x ∈ Z
theorem fp_mem {M : Nat} {as : List (Nat × Nat)} {j : Nat} {p : Nat × Nat} (h : as[j]? = some p) : p.1 ∈ FP M as ∧ p.2 ∈ FP M as := by
  have := List.mem_of_getElem? h
  unfold FP
  constructor
  · exact List.mem_cons_of_mem _ (List.mem_flatMap.mpr ⟨p, this, by simp⟩)
  · exact List.mem_cons_of_mem _ (List.mem_flatMap.mpr ⟨p, this, by simp⟩)
theorem Own.kp {Z : List Nat} {S S' : Store} {o L M : Nat} {as : List (Nat × Nat)} {s : Sd} {A : List Nat} (h : Own Z S o L M as s) (k : Kp A S S') (hA : ∀ x ∈ A, x ∈ Z ∧ x ∉ FP M as) : Own Z S' o L M as s := by
  have nA : ∀ x, x ∉ Z → x ∉ A := fun x hx hy => hx (hA x hy).1
  have nF : ∀ x ∈ FP M as, x ∉ A := fun x hx hy => (hA x hy).2 hx
  refine ⟨k _ _ (nA _ h.oZ) h.ho, k _ _ (nA _ h.LZ) h.hL, k _ _ (nF _ (by simp [FP])) h.hM, h.hn, fun j p c h1 h2 => ?_, h.oZ, h.LZ, h.nd, h.sub⟩
  obtain ⟨l, g1, g2, g3, g4⟩ := h.hc j p c h1 h2
  exact ⟨l, k _ _ (nF _ (fp_mem h1).1) g1, k _ _ (nF _ (fp_mem h1).2) g2, k _ _ (nA _ g4) g3, g4⟩
/-- a core seen -/
structure View (S : Store) (a w l M : Nat) (c : Cr) (m : List Int) : Prop where
  a : S[a]? = some (.lst [.int c.row, .ref w, .ref l])
  w : S[w]? = some (.lst (c.regs.map .int))
  l : S[l]? = some (.lst (c.late.map dPr))
  M : S[M]? = some (.lst (m.map .int))
structure Apart (a w l M : Nat) : Prop where
  aw : a ≠ w
  al : a ≠ l
  aM : a ≠ M
  wl : w ≠ l
  wM : w ≠ M
  Ml : M ≠ l
section
variable {S S' : Store} {a w l M : Nat} {c : Cr} {m : List Int}
theorem View.kp (h : View S a w l M c m) (k : Kp [] S S') : View S' a w l M c m := ⟨k _ _ (by simp) h.a, k _ _ (by simp) h.w, k _ _ (by simp) h.l, k _ _ (by simp) h.M⟩
theorem View.push {o : O} (h : View S a w l M c m) : View (S ++ [o]) a w l M c m := h.kp Kp.push
theorem View.row (h : View S a w l M c m) (p : Apart a w l M) {r : Nat} {xs : List D} (e : xs = [.int r, .ref w, .ref l]) : View (S.set a (.lst xs)) a w l M ⟨r, c.regs, c.late⟩ m :=
  ⟨by rw [e]; exact set_get h.a, by rw [List.getElem?_set_ne p.aw]; exact h.w, by rw [List.getElem?_set_ne p.al]; exact h.l, by rw [List.getElem?_set_ne p.aM]; exact h.M⟩
theorem View.reg (h : View S a w l M c m) (p : Apart a w l M) {rgs : List Int} {xs : List D} (e : xs = rgs.map .int) : View (S.set w (.lst xs)) a w l M ⟨c.row, rgs, c.late⟩ m :=
  ⟨by rw [List.getElem?_set_ne (Ne.symm p.aw)]; exact h.a, by rw [e]; exact set_get h.w, by rw [List.getElem?_set_ne p.wl]; exact h.l, by rw [List.getElem?_set_ne p.wM]; exact h.M⟩
theorem View.mem (h : View S a w l M c m) (p : Apart a w l M) {m' : List Int} {xs : List D} (e : xs = m'.map .int) : View (S.set M (.lst xs)) a w l M c m' :=
  ⟨by rw [List.getElem?_set_ne (Ne.symm p.aM)]; exact h.a, by rw [List.getElem?_set_ne (Ne.symm p.wM)]; exact h.w, by rw [List.getElem?_set_ne p.Ml]; exact h.l, by rw [e]; exact set_get h.M⟩
theorem View.late {l' : Nat} {lt : List (Int × Int)} (h : View S a w l M c m) (p : Apart a w l M) (p' : Apart a w l' M) (hl : S[l']? = some (.lst (lt.map dPr))) {xs : List D} (e : xs = [.int c.row, .ref w, .ref l']) : View (S.set a (.lst xs)) a w l' M ⟨c.row, c.regs, lt⟩ m :=
  ⟨by rw [e]; exact set_get h.a, by rw [List.getElem?_set_ne p.aw]; exact h.w, by rw [List.getElem?_set_ne p'.al]; exact hl, by rw [List.getElem?_set_ne p.aM]; exact h.M⟩
theorem Kp.setIn {A : List Nat} {x : Nat} {o : O} (h : x ∈ A) : Kp A S (S.set x o) := fun i u n e => by
  rw [List.getElem?_set_ne (fun z => n (by rw [← z]; exact h))]; exact e
theorem View.lt (h : View S a w l M c m) : a < S.length ∧ w < S.length ∧ l < S.length ∧ M < S.length :=
  ⟨(List.getElem?_eq_some_iff.mp h.a).1, (List.getElem?_eq_some_iff.mp h.w).1, (List.getElem?_eq_some_iff.mp h.l).1, (List.getElem?_eq_some_iff.mp h.M).1⟩
end
theorem nodup_get {as : List (Nat × Nat)} {M : Nat} (nd : (FP M as).Nodup) {j : Nat} {p : Nat × Nat} (h : as[j]? = some p) : p.1 ≠ p.2 ∧ p.1 ≠ M ∧ p.2 ≠ M := by
  unfold FP at nd
  rw [List.nodup_cons] at nd
  obtain ⟨h1, h2⟩ := nd
  have hm := List.mem_of_getElem? h
  refine ⟨fun z => ?_, fun z => h1 (List.mem_flatMap.mpr ⟨p, hm, by simp [z]⟩), fun z => h1 (List.mem_flatMap.mpr ⟨p, hm, by simp [z]⟩)⟩
  have : ∀ {l : List (Nat × Nat)}, (l.flatMap fun p => [p.1, p.2]).Nodup → p ∈ l → False := by
    intro l
    induction l with
    | nil => intro _ h; cases h
    | cons x l ih =>
      intro n h
      rw [List.flatMap_cons, List.nodup_append] at n
      rcases List.mem_cons.mp h with h | h
      · subst h
        have := n.1
        simp [z] at this
      · exact ih n.2.1 h
  exact this h2 hm
/-- other cores have other lists -/
theorem nodup_other : ∀ {as : List (Nat × Nat)} {M : Nat}, (FP M as).Nodup → ∀ {i j : Nat} {p r : Nat × Nat}, as[i]? = some p → as[j]? = some r → i ≠ j → p.1 ≠ r.1 ∧ p.1 ≠ r.2 ∧ p.2 ≠ r.1 ∧ p.2 ≠ r.2 := by
  intro as M nd
  unfold FP at nd
  rw [List.nodup_cons] at nd
  have n := nd.2
  clear nd
  induction as with
  | nil => intro i j p r h; simp at h
  | cons x as ih =>
    rw [List.flatMap_cons, List.nodup_append] at n
    obtain ⟨n1, n2, n3⟩ := n
    have far : ∀ {k : Nat} {r : Nat × Nat}, as[k]? = some r → x.1 ≠ r.1 ∧ x.1 ≠ r.2 ∧ x.2 ≠ r.1 ∧ x.2 ≠ r.2 := by
      intro k r hr
      have hm := List.mem_of_getElem? hr
      have m1 : r.1 ∈ as.flatMap fun p => [p.1, p.2] := List.mem_flatMap.mpr ⟨r, hm, by simp⟩
      have m2 : r.2 ∈ as.flatMap fun p => [p.1, p.2] := List.mem_flatMap.mpr ⟨r, hm, by simp⟩
      exact ⟨n3 _ (by simp) _ m1, n3 _ (by simp) _ m2, n3 _ (by simp) _ m1, n3 _ (by simp) _ m2⟩
    intro i j p r h1 h2 hne
    cases i with
    | zero =>
      cases j with
      | zero => exact absurd rfl hne
      | succ j =>
        simp at h1 h2
        subst h1
        exact far h2
    | succ i =>
      cases j with
      | zero =>
        simp at h1 h2
        subst h2
        obtain ⟨a1, a2, a3, a4⟩ := far h1
        exact ⟨Ne.symm a1, Ne.symm a3, Ne.symm a2, Ne.symm a4⟩
      | succ j =>
        simp at h1 h2
        exact ih n2 h1 h2 (by omega)
theorem Own.view {Z : List Nat} {S : Store} {o L M : Nat} {as : List (Nat × Nat)} {s : Sd} (h : Own Z S o L M as s) {j : Nat} {c : Cr} (hc : s.cs[j]? = some c) :
    ∃ p l, as[j]? = some p ∧ View S p.1 p.2 l M c s.mem ∧ Apart p.1 p.2 l M ∧ l ∉ Z := by
  have hj : j < as.length := by rw [h.hn]; exact (List.getElem?_eq_some_iff.mp hc).1
  have hp : as[j]? = some as[j] := List.getElem?_eq_getElem hj
  obtain ⟨l, g1, g2, g3, g4⟩ := h.hc j _ c hp hc
  obtain ⟨n1, n2, n3⟩ := nodup_get h.nd hp
  obtain ⟨m1, m2⟩ := fp_mem (M := M) hp
  have mM : M ∈ FP M as := by simp [FP]
  have nz : ∀ x, x ∈ FP M as → x ≠ l := fun x hx z => g4 (z ▸ h.sub x hx)
  exact ⟨_, l, hp, ⟨g1, g2, g3, h.hM⟩, ⟨n1, nz _ m1, n2, nz _ m2, n3, nz _ mM⟩, g4⟩
/-- one core changed, and the memory -/
theorem Own.upd {Z : List Nat} {S S' : Store} {o L M : Nat} {as : List (Nat × Nat)} {s : Sd} (h : Own Z S o L M as s) {j : Nat} {p : Nat × Nat} {l' : Nat} {c' : Cr} {m' : List Int} (hp : as[j]? = some p) (hj : j < s.cs.length) (k : Kp [p.1, p.2, M] S S') (v : View S' p.1 p.2 l' M c' m') (hl : l' ∉ Z) :
    Own Z S' o L M as ⟨s.cs.set j c', m'⟩ := by
  obtain ⟨m1, m2⟩ := fp_mem (M := M) hp
  have mM : M ∈ FP M as := by simp [FP]
  have nz : ∀ x, x ∉ Z → x ∉ [p.1, p.2, M] := fun x hx hy => by
    simp only [List.mem_cons, List.not_mem_nil, or_false] at hy
    rcases hy with rfl | rfl | rfl
    · exact hx (h.sub _ m1)
    · exact hx (h.sub _ m2)
    · exact hx (h.sub _ mM)
  refine ⟨k _ _ (nz _ h.oZ) h.ho, k _ _ (nz _ h.LZ) h.hL, v.M, by simpa using h.hn, fun i r c h1 h2 => ?_, h.oZ, h.LZ, h.nd, h.sub⟩
  by_cases e : j = i
  · subst e
    rw [hp] at h1
    cases h1
    rw [List.getElem?_set_self hj] at h2
    cases h2
    exact ⟨l', v.a, v.w, v.l, hl⟩
  · rw [List.getElem?_set_ne e] at h2
    obtain ⟨l, g1, g2, g3, g4⟩ := h.hc i r c h1 h2
    obtain ⟨a1, a2, a3, a4⟩ := nodup_other h.nd hp h1 e
    obtain ⟨_, n2, n3⟩ := nodup_get h.nd h1
    have q1 : r.1 ∉ [p.1, p.2, M] := by simp [Ne.symm a1, Ne.symm a3, n2]
    have q2 : r.2 ∉ [p.1, p.2, M] := by simp [Ne.symm a2, Ne.symm a4, n3]
    exact ⟨l, k _ _ q1 g1, k _ _ q2 g2, k _ _ (nz _ g4) g3, g4⟩
def atR (rs : List Ins) (row : Nat) : D := match rs[row]? with
  | none => .non
  | some i => if i.nm = "stop" then .non else dIns i
section
variable {q : Pr} (Q : HK q) {W : Nat}
include Q
theorem lat_p (k : Nat) {Z : List Nat} {S : Store} {o L M : Nat} {as : List (Nat × Nat)} {s : Sd} (h : Own Z S o L M as s) {bk : List (List Ins)} {j : Nat} {rs : List Ins} {c : Cr} (h1 : bk[j]? = some rs) (h2 : s.cs[j]? = some c) (hr : c.row ≤ rs.length) :
    run q W (k + 1) 83 [dBk bk, .ref o, .int j] S = some (atR rs c.row, S) := by
  obtain ⟨p, l, hp, v, ap, hl⟩ := h.view h2
  have b1 : ∀ x, ev (pm q W k) (.idx (.var 0) (.var 2)) [some (dBk bk), some (.ref o), some (.int j), x] S = some (dRows rs, S) := fun _ => er_idx (er_var rfl) (er_var rfl) (i_tup (map_at h1))
  have b2 : ev (pm q W k) (.idx (.idx (.idx (.var 1) (.lit (.int 0))) (.var 2)) (.lit (.int 0))) [some (dBk bk), some (.ref o), some (.int j), none] S = some (.int c.row, S) :=
    er_idx (er_idx (er_idx (er_var rfl) (er_lit rfl) (i_lst (l_lst h.ho) (atN (n := 0) rfl))) (er_var rfl) (i_lst (l_lst h.hL) (map_at hp))) (er_lit rfl) (i_lst (l_lst v.a) (atN (n := 0) rfl))
  unfold atR
  by_cases hz : c.row < rs.length
  · have hx : rs[c.row]? = some rs[c.row] := List.getElem?_eq_getElem hz
    rw [hx]
    simp only
    have c0 : ev (pm q W k) (.cmp .ge (.var 3) (.bi .len (.cons (.idx (.var 0) (.var 2)) .nil))) [some (dBk bk), some (.ref o), some (.int j), some (.int c.row)] S = some (.bl false, S) := er_cmp (er_var rfl) (er_bi (er_cons (b1 _) er_nil) len_tup) (c_ge_f (by omega))
    have i1 : ev (pm q W k) (.idx (.idx (.var 0) (.var 2)) (.var 3)) [some (dBk bk), some (.ref o), some (.int j), some (.int c.row)] S = some (dIns rs[c.row], S) := er_idx (b1 _) (er_var rfl) (i_tup (rows_at hx))
    have c1 : ev (pm q W k) (.idx (.idx (.idx (.var 0) (.var 2)) (.var 3)) (.lit (.int 0))) [some (dBk bk), some (.ref o), some (.int j), some (.int c.row)] S = some (.str rs[c.row].nm, S) := er_idx i1 (er_lit rfl) (i_tup nm_at)
    by_cases z : rs[c.row].nm = "stop"
    · rw [if_pos z]
      refine' run_rt (e0 := [some _, some _, some _, none]) Q.f83 rfl rfl ?h
      case h => unfold b_83; exact es_nx (es_asg b2 rfl) (es_rt (es_if_t (er_or_f c0 (er_cmp c1 (er_lit rfl) (c_str_t z))) (es_rt (es_ret (er_lit rfl)))))
    · rw [if_neg z]
      refine' run_rt (e0 := [some _, some _, some _, none]) Q.f83 rfl rfl ?h
      case h => unfold b_83; exact es_nx (es_asg b2 rfl) (es_nx (es_if_f (er_or_f c0 (er_cmp c1 (er_lit rfl) (c_str_f z))) es_skip) (es_rt (es_ret i1)))
  · have hx : rs[c.row]? = none := List.getElem?_eq_none (by omega)
    rw [hx]
    simp only
    have c0 : ev (pm q W k) (.cmp .ge (.var 3) (.bi .len (.cons (.idx (.var 0) (.var 2)) .nil))) [some (dBk bk), some (.ref o), some (.int j), some (.int c.row)] S = some (.bl true, S) := er_cmp (er_var rfl) (er_bi (er_cons (b1 _) er_nil) len_tup) (c_ge_t (by omega))
    refine' run_rt (e0 := [some _, some _, some _, none]) Q.f83 rfl rfl ?h
    case h => unfold b_83; exact es_nx (es_asg b2 rfl) (es_rt (es_if_t (er_or_t c0) (es_rt (es_ret (er_lit rfl)))))
end
end Tm

set_option Elab.async false
set_option linter.all false
set_option maxRecDepth 100000
set_option maxHeartbeats 8000000
namespace Tm
open PySem L2
local macro_rules | `(tactic| walk_at "sm") => `(tactic| first | assumption | (unfold Sm; first | omega | decide))
local macro_rules | `(tactic| walk_at "in") => `(tactic| first | assumption | omega | decide)
local macro_rules | `(tactic| walk_at "lst") => `(tactic| first | assumption | exact l_last | exact l_lst (by assumption) | exact l_ro (by assumption) | exact l_lst (set_get (by assumption)))
local macro_rules | `(tactic| walk_at "op") => `(tactic| first
  | with_reducible exact o_add
  | with_reducible exact o_sub
  | ((with_reducible refine' o_addT ?h); (case h => first | assumption | exact Nat.le_of_ble_eq_true rfl))
  | with_reducible exact o_band
  | with_reducible exact o_bxor
  | with_reducible exact o_band
  | with_reducible exact o_bxor
  | ((with_reducible refine' o_mod ?h); (case h => walk_at "in"))
  | ((with_reducible refine' o_div ?h ?g); (case h => walk_at "in"); (case g => walk_at "sm"))
  | ((with_reducible refine' o_mul ?h ?g); (case h => walk_at "sm"); (case g => walk_at "sm"))
  | ((with_reducible refine' o_pow ?h ?g); (case h => walk_at "in"); (case g => decide)))
local macro_rules | `(tactic| walk_at "cmp") => `(tactic| first
  | with_reducible assumption
  | with_reducible exact c_isN
  | with_reducible exact c_isnN
  | with_reducible exact c_isT
  | with_reducible exact c_isnT
  | with_reducible exact c_isB
  | ((with_reducible refine' c_eq_t ?h); (case h => walk_at "in"))
  | ((with_reducible refine' c_lt_t ?h); (case h => walk_at "in"))
  | ((with_reducible refine' c_gt_t ?h); (case h => walk_at "in"))
  | ((with_reducible refine' c_ne_t ?h); (case h => walk_at "in"))
  | ((with_reducible refine' c_le_t ?h); (case h => walk_at "in"))
  | ((with_reducible refine' c_ge_t ?h); (case h => walk_at "in"))
  | ((with_reducible refine' c_eq_f ?h); (case h => walk_at "in"))
  | ((with_reducible refine' c_lt_f ?h); (case h => walk_at "in"))
  | ((with_reducible refine' c_gt_f ?h); (case h => walk_at "in"))
  | ((with_reducible refine' c_ne_f ?h); (case h => walk_at "in"))
  | ((with_reducible refine' c_le_f ?h); (case h => walk_at "in"))
  | ((with_reducible refine' c_ge_f ?h); (case h => walk_at "in"))
  | ((with_reducible refine' c_str_t ?h); (case h => with_reducible exact rfl))
  | ((with_reducible refine' c_str_f ?h); (case h => first | assumption | decide))
  | ((with_reducible refine' c_strn_f ?h); (case h => with_reducible exact rfl))
  | ((with_reducible refine' c_strn_t ?h); (case h => first | assumption | decide))
  | ((with_reducible refine' c_in (t := true) ?h ?g ?f ?e); (case h => walk_at "lst"); (case g => exact rfl); (case f => exact rfl); (case e => first | assumption | decide))
  | ((with_reducible refine' c_in (t := false) ?h ?g ?f ?e); (case h => walk_at "lst"); (case g => exact rfl); (case f => exact rfl); (case e => first | assumption | decide))
  | ((with_reducible refine' c_inT (t := true) ?g ?f ?e); (case g => exact rfl); (case f => exact rfl); (case e => first | assumption | decide))
  | ((with_reducible refine' c_inT (t := false) ?g ?f ?e); (case g => exact rfl); (case f => exact rfl); (case e => first | assumption | decide))
  | ((with_reducible refine' c_ninT (t := true) ?g ?f ?e); (case g => exact rfl); (case f => exact rfl); (case e => first | assumption | decide))
  | ((with_reducible refine' c_ninT (t := false) ?g ?f ?e); (case g => exact rfl); (case f => exact rfl); (case e => first | assumption | decide))
  | ((with_reducible refine' c_nin (t := true) ?h ?g ?f ?e); (case h => walk_at "lst"); (case g => exact rfl); (case f => exact rfl); (case e => first | assumption | decide))
  | ((with_reducible refine' c_nin (t := false) ?h ?g ?f ?e); (case h => walk_at "lst"); (case g => exact rfl); (case f => exact rfl); (case e => first | assumption | decide)))
local macro_rules | `(tactic| walk_at "bi") => `(tactic| first | with_reducible assumption | ((with_reducible refine' b_tupL ?h); (case h => walk_at "lst")) | with_reducible exact b_int | with_reducible exact b_bool | with_reducible exact b_abs | with_reducible exact b_max | with_reducible exact b_min | with_reducible exact b_lenT | ((with_reducible refine' b_lenL ?h); (case h => walk_at "lst")) | with_reducible apply_assumption)
local macro_rules | `(tactic| walk_at "pick") => `(tactic| first | with_reducible exact pk1 | with_reducible exact pk2 | with_reducible exact pk3 | with_reducible exact pk4 | with_reducible exact pk5 | with_reducible exact pn1 | with_reducible exact pn2 | with_reducible exact pn3)
local macro_rules | `(tactic| walk_at "call") => `(tactic| first | with_reducible assumption | with_reducible apply_assumption)
local macro_rules | `(tactic| walk_at "ev") => `(tactic| first
  | (with_reducible assumption)
  | ((with_reducible refine' er_env ?he ?h); (case h => with_reducible assumption); (case he => exact rfl))
  | (with_reducible exact er_nil)
  | ((with_reducible refine' er_glob ?h); (case h => assumption))
  | ((with_reducible refine' er_lit ?h); (case h => exact rfl))
  | ((with_reducible refine' er_var ?h); (case h => exact rfl))
  | ((with_reducible refine' er_cons ?h1 ?h2); (case h1 => walk_at "ev"); (case h2 => walk_at "ev"))
  | ((with_reducible refine' er_tup ?h1 ?h2); (case h1 => walk_at "ev"); (case h2 => exact Nat.le_of_ble_eq_true rfl))
  | ((with_reducible refine' er_lst ?h1 ?h2); (case h1 => walk_at "ev"); (case h2 => exact Nat.le_of_ble_eq_true rfl))
  | ((with_reducible refine' er_neg ?h1); (case h1 => walk_at "ev"))
  | ((with_reducible refine' er_isty ?h1 ?h2); (case h1 => walk_at "ev"); (case h2 => first | exact rfl | exact ty_ref (by walk_at "lst")))
  | ((with_reducible refine' er_chain_t ?h1 ?h2 ?h3 ?h4 ?h5); (case h1 => walk_at "ev"); (case h2 => walk_at "ev"); (case h3 => walk_at "cmp"); (case h4 => walk_at "ev"); (case h5 => walk_at "cmp"))
  | ((with_reducible refine' er_slc_to ?h1 ?h2 ?h3 ?h4); (case h1 => walk_at "ev"); (case h2 => exact rfl); (case h3 => walk_at "ev"); (case h4 => first | assumption | omega))
  | ((with_reducible refine' er_slc_from ?h1 ?h2 ?h3 ?h4); (case h1 => walk_at "ev"); (case h2 => exact rfl); (case h3 => walk_at "ev"); (case h4 => first | assumption | omega))
  | ((with_reducible refine' er_app ?h1 ?h2 ?h3); (case h1 => walk_at "ev"); (case h2 => walk_at "ev"); (case h3 => exact push_at (by assumption) (by assumption)))
  | ((with_reducible refine' er_callv ?h1 ?h2 ?h3 ?h4); (case h1 => walk_at "ev"); (case h2 => walk_at "ev"); (case h3 => assumption); (case h4 => walk_at "call"))
  | ((with_reducible refine' er_bin ?h1 ?h2 ?h3); (case h1 => walk_at "ev"); (case h2 => walk_at "ev"); (case h3 => walk_at "op"))
  | ((with_reducible refine' er_idx ?h1 ?h2 ?h3); (case h1 => walk_at "ev"); (case h2 => walk_at "ev"); (case h3 => first | exact i_tup (by first | assumption | rfl) | exact i_lst (by walk_at "lst") (by first | assumption | rfl)))
  | ((with_reducible refine' er_call ?h1 ?h2 ?h3 ?h4); (case h1 => walk_at "ev"); (case h2 => walk_at "ev"); (case h3 => walk_at "pick"); (case h4 => walk_at "call"))
  | ((with_reducible refine' er_bi ?h1 ?h2); (case h1 => walk_at "ev"); (case h2 => walk_at "bi"))
  | ((with_reducible refine' er_cmp ?h1 ?h2 ?h3); (case h1 => walk_at "ev"); (case h2 => walk_at "ev"); (case h3 => walk_at "cmp"))
  | ((with_reducible refine' er_nots ?h1 ?h2); (case h1 => walk_at "ev"); (case h2 => first | exact Neg.t | exact Neg.f))
  | ((with_reducible refine' er_ors ?h1 ?h2); (case h1 => walk_at "ev"); (case h2 => first | exact ors_t | ((with_reducible refine' ors_f ?h3); (case h3 => walk_at "ev"))))
  | ((with_reducible refine' er_ands ?h1 ?h2); (case h1 => walk_at "ev"); (case h2 => first | exact ands_f | ((with_reducible refine' ands_t ?h3); (case h3 => walk_at "ev"))))
  | ((with_reducible refine' er_br ?h1 ?h2); (case h1 => walk_at "ev"); (case h2 => first | ((with_reducible refine' bre_t ?h3); (case h3 => walk_at "ev")) | ((with_reducible refine' bre_f ?h3); (case h3 => walk_at "ev")))))
local macro_rules | `(tactic| walk_at "ex") => `(tactic| first
  | ((with_reducible refine' es_skip2 ?h1 ?h2); (case h1 => exact rfl); (case h2 => exact rfl))
  | ((with_reducible refine' es_sq ?h1 ?h2); (case h1 => walk_at "ex"); (case h2 => first | exact nxt_rt | exact nxt_bk | exact nxt_ct | ((with_reducible refine' nxt_nx ?h3); (case h3 => walk_at "ex"))))
  | ((with_reducible refine' es_ret ?h1); (case h1 => walk_at "ev"))
  | ((with_reducible refine' es_asg ?h1 ?h2); (case h1 => walk_at "ev"); (case h2 => exact rfl))
  | ((with_reducible refine' es_seti ?h1 ?h2 ?h3 ?h4); (case h1 => walk_at "ev"); (case h2 => walk_at "ev"); (case h3 => walk_at "ev"); (case h4 => exact s_set (by first | assumption | exact set_get (by assumption)) rfl))
  | ((with_reducible refine' es_drop ?h1); (case h1 => walk_at "ev"))
  | ((with_reducible refine' es_br ?h1 ?h2); (case h1 => walk_at "ev"); (case h2 => first | ((with_reducible refine' brs_t ?h3); (case h3 => walk_at "ex")) | ((with_reducible refine' brs_f ?h3); (case h3 => walk_at "ex")))))


def b_84l : St := (.seq (.asg (.tp 2 (.cons (.nm 4) (.cons (.nm 5) .nil))) (.tup (.cons (.call 83 [0, 1, 2] (.cons (.var 0) (.cons (.var 1) (.cons (.var 3) .nil))) .nil) (.cons (.bi .len (.cons (.idx (.idx (.idx (.var 1) (.lit (.int 0))) (.var 3)) (.lit (.int 2))) .nil)) .nil))))
  (.seq (.ifs (.and_ (.cmp .isn (.var 4) (.lit .non)) (.or_ (.cmp .eq (.var 5) (.lit (.int 0))) (.cmp .nin (.idx (.var 4) (.lit (.int 0))) (.lst (.cons (.lit (.str "fence")) (.cons (.lit (.str "swap")) (.cons (.lit (.str "addto")) .nil))))))) (.seq (.drop (.app (.var 2) (.tup (.cons (.lit (.str "do")) (.cons (.var 3) .nil)))))
  .skip) .skip)
  (.seq (.ifs (.cmp .gt (.var 5) (.lit (.int 0))) (.seq (.drop (.app (.var 2) (.tup (.cons (.lit (.str "flush")) (.cons (.var 3) .nil)))))
  .skip) .skip)
  .skip)))
theorem len_lst {α : Type} {f : α → D} {l : List α} {n : Nat} {S : Store} (h : S[n]? = some (.lst (l.map f))) : biop .len [.ref n] S = some (.int l.length, S) := by
  rw [b_lenL (l_lst h)]; simp
section
variable {q : Pr} (Q : HK q) {W : Nat}
include Q
theorem llets_p (k : Nat) {Z : List Nat} {S : Store} {o L M : Nat} {as : List (Nat × Nat)} {s : Sd} {t : Nat} {bk : List (List Ins)} (h : Own Z S o L M as s) (hZ : ∀ x ∈ Z, x < S.length) (hB : OkB bk) (ok : OkS bk t s) :
    ∃ S', run q W (k + 2) 84 [dBk bk, .ref o] S = some (.ref S.length, S') ∧ S'[S.length]? = some (.lst ((lets bk s).map dSt)) ∧ Kp [] S S' := by
  have hl : (lets bk s).length ≤ 8 := Nat.le_trans (lets_le bk s) (by have := hB.l1; omega)
  have hl2 : ((List.range bk.length).flatMap fun j => (stepsAt bk s j).map dSt) = (lets bk s).map dSt := by unfold lets; rw [List.map_flatMap]
  obtain ⟨e', S', l1, l2, l3, l4⟩ := push_loop (bod := ex (pm q W (k + 1)) b_84l) (t := .nm 3) (fun j : Nat => D.int j) (fun j => (stepsAt bk s j).map dSt) S.length 100 (fun e => ∃ x3 x4 x5, e = [some (dBk bk), some (.ref o), some (.ref S.length), x3, x4, x5]) S (List.range bk.length) [] [some (dBk bk), some (.ref o), some (.ref S.length), none, none, none] (S ++ [.lst []])
    (fun j hj e S1 acc he hk hr hBd => by
      obtain ⟨x3, x4, x5, rfl⟩ := he
      obtain ⟨rs, c, h1, h2, okc⟩ := ok.get (List.mem_range.mp hj)
      have hk0 : Kp [] S S1 := hk.drop (Nat.le_refl _)
      have O1 : Own Z S1 o L M as s := h.kp hk0 (by simp)
      obtain ⟨p, l, hp, v, ap, lZ⟩ := O1.view h2
      have a1 := lat_p Q (W := W) k O1 h1 h2 okc.row
      have ac : acc.length < sizeLine := by rw [sizeLine_eq]; omega
      have st : stepsAt bk s j = (if canDo rs c then [(true, j)] else []) ++ (if canFl c then [(false, j)] else []) := by unfold stepsAt; rw [h1, h2]
      have e1 : ∀ x4 x5, ev (pm q W (k + 1)) (.tup (.cons (.call 83 [0, 1, 2] (.cons (.var 0) (.cons (.var 1) (.cons (.var 3) .nil))) .nil) (.cons (.bi .len (.cons (.idx (.idx (.idx (.var 1) (.lit (.int 0))) (.var 3)) (.lit (.int 2))) .nil)) .nil))) [some (dBk bk), some (.ref o), some (.ref S.length), some (.int j), x4, x5] S1 = some (.tup [atR rs c.row, .int c.late.length], S1) := fun _ _ =>
        er_tup (er_cons (er_call (er_cons (er_var rfl) (er_cons (er_var rfl) (er_cons (er_var rfl) er_nil))) er_nil rfl a1) (er_cons (er_bi (er_cons (er_idx (er_idx (er_idx (er_var rfl) (er_lit rfl) (i_lst (l_lst O1.ho) (atN (n := 0) rfl))) (er_var rfl) (i_lst (l_lst O1.hL) (map_at hp))) (er_lit rfl) (i_lst (l_lst v.a) (atN (n := 2) rfl))) er_nil) (len_lst v.l)) er_nil)) (Nat.le_of_ble_eq_true rfl)
      have T : ∃ S2, ev (pm q W (k + 1)) (.and_ (.cmp .isn (.var 4) (.lit .non)) (.or_ (.cmp .eq (.var 5) (.lit (.int 0))) (.cmp .nin (.idx (.var 4) (.lit (.int 0))) (.lst (.cons (.lit (.str "fence")) (.cons (.lit (.str "swap")) (.cons (.lit (.str "addto")) .nil))))))) [some (dBk bk), some (.ref o), some (.ref S.length), some (.int j), some (atR rs c.row), some (.int c.late.length)] S1 = some (.bl (canDo rs c), S2) ∧ Kp [] S1 S2 := by
        unfold canDo atR
        cases hx : rs[c.row]? with
        | none => exact ⟨S1, er_and_f (er_cmp (er_var rfl) (er_lit rfl) rfl), Kp.refl _ _⟩
        | some i =>
          simp only
          by_cases z : i.nm = "stop"
          · rw [if_pos z, if_pos z]
            exact ⟨S1, er_and_f (er_cmp (er_var rfl) (er_lit rfl) rfl), Kp.refl _ _⟩
          · rw [if_neg z, if_neg z]
            have c1 : cmpop .isn (dIns i) .non S1 = some true := rfl
            cases hl : c.late with
            | nil => exact ⟨S1, er_and_t (er_cmp (er_var rfl) (er_lit rfl) c1) (er_or_t (er_cmp (er_var rfl) (er_lit rfl) (c_eq_t rfl))), Kp.refl _ _⟩
            | cons x r =>
              have c2 : ev (pm q W (k + 1)) (.cmp .nin (.idx (.var 4) (.lit (.int 0))) (.lst (.cons (.lit (.str "fence")) (.cons (.lit (.str "swap")) (.cons (.lit (.str "addto")) .nil))))) [some (dBk bk), some (.ref o), some (.ref S.length), some (.int j), some (dIns i), some (.int (x :: r).length)] S1 = some (.bl (!(alones.any fun y => decide (y = i.nm))), S1 ++ [.lst [.str "fence", .str "swap", .str "addto"]]) :=
                er_cmp (er_idx (er_var rfl) (er_lit rfl) (i_tup nm_at)) (er_lst (er_cons (er_lit rfl) (er_cons (er_lit rfl) (er_cons (er_lit rfl) er_nil))) (Nat.le_of_ble_eq_true rfl)) (c_nin l_last rfl rfl rfl)
              exact ⟨_, er_and_t (er_cmp (er_var rfl) (er_lit rfl) c1) (er_or_f (er_cmp (er_var rfl) (er_lit rfl) (c_eq_f (by simp; omega))) c2), Kp.push⟩
      obtain ⟨S2, T1, T2⟩ := T
      have hr2 := T2 _ _ (by simp) hr
      have A : ∃ S3, ex (pm q W (k + 1)) (.ifs (.and_ (.cmp .isn (.var 4) (.lit .non)) (.or_ (.cmp .eq (.var 5) (.lit (.int 0))) (.cmp .nin (.idx (.var 4) (.lit (.int 0))) (.lst (.cons (.lit (.str "fence")) (.cons (.lit (.str "swap")) (.cons (.lit (.str "addto")) .nil))))))) (.seq (.drop (.app (.var 2) (.tup (.cons (.lit (.str "do")) (.cons (.var 3) .nil))))) .skip) .skip) [some (dBk bk), some (.ref o), some (.ref S.length), some (.int j), some (atR rs c.row), some (.int c.late.length)] S1 = some (.nx, [some (dBk bk), some (.ref o), some (.ref S.length), some (.int j), some (atR rs c.row), some (.int c.late.length)], S3) ∧
          S3[S.length]? = some (.lst (acc ++ (if canDo rs c then [(true, j)] else []).map dSt)) ∧ Kp [S.length] S1 S3 := by
        cases hd : canDo rs c
        · rw [hd] at T1
          exact ⟨S2, es_if_f T1 es_skip, by simpa using hr2, T2.nil⟩
        · rw [hd] at T1
          exact ⟨_, es_if_t T1 (es_nx (es_drop (er_app (er_var rfl) (er_tup (er_cons (er_lit rfl) (er_cons (er_var rfl) er_nil)) (Nat.le_of_ble_eq_true rfl)) (push_at hr2 ac))) es_skip), set_get hr2, T2.nil.trans Kp.set⟩
      obtain ⟨S3, A1, A2, A3⟩ := A
      have ac2 : (acc ++ (if canDo rs c then [(true, j)] else []).map dSt).length < sizeLine := by
        rw [sizeLine_eq, List.length_append, List.length_map]; split <;> simp <;> omega
      refine ⟨[some (dBk bk), some (.ref o), some (.ref S.length), some (.int j), x4, x5], [some (dBk bk), some (.ref o), some (.ref S.length), some (.int j), some (atR rs c.row), some (.int c.late.length)], ?_⟩
      rw [st, List.map_append, ← List.append_assoc]
      unfold canFl
      cases hd : c.late with
      | nil =>
        rw [hd] at A1 e1
        exact ⟨S3, rfl, es_nx (es_asg (e1 _ _) rfl) (es_nx A1 (es_nx (es_if_f (er_cmp (er_var rfl) (er_lit rfl) (c_gt_f (by decide))) es_skip) es_skip)), ⟨_, _, _, rfl⟩, by simpa using A2, A3⟩
      | cons x r =>
        rw [hd] at A1 e1
        exact ⟨_, rfl, es_nx (es_asg (e1 _ _) rfl) (es_nx A1 (es_nx (es_if_t (er_cmp (er_var rfl) (er_lit rfl) (c_gt_t (by simp))) (es_nx (es_drop (er_app (er_var rfl) (er_tup (er_cons (er_lit rfl) (er_cons (er_var rfl) er_nil)) (Nat.le_of_ble_eq_true rfl)) (push_at A2 ac2))) es_skip)) es_skip)), ⟨_, _, _, rfl⟩, set_get A2, A3.trans Kp.set⟩)
    ⟨_, _, _, rfl⟩ Kp.push g_last (by rw [hl2]; simp; omega)
  obtain ⟨x3, x4, x5, rfl⟩ := l2
  refine ⟨S', ?_, by rw [l4, hl2]; rfl, l3.drop (Nat.le_refl _)⟩
  refine' run_rt (e0 := [some _, some _, none, none, none, none]) Q.f84 rfl rfl ?h
  case h =>
    unfold b_84
    refine' es_nx (es_asg (er_lst er_nil (Nat.zero_le _)) rfl) ?_
    refine' es_nx (es_for (er_rng (n := bk.length) (er_cons (er_bi (er_cons (er_var rfl) er_nil) len_tup) er_nil) (by have := hB.l1; omega)) l1) ?_
    exact es_rt (es_ret (er_var rfl))
theorem lsum_p {nm : Str} (hm : nm ∈ sms) (k : Nat) {S : Store} {w : Nat} {regs : List Int} {a b cc : Int} (hw : S[w]? = some (.lst (regs.map .int))) (h8 : regs.length = 8) (b0 : 0 ≤ b) (b1 : b < 8) (c0 : 0 ≤ cc) (c1 : cc < 8) :
    run q W (k + 1) 85 [.tup [.str nm, .int a, .int b, .int cc], .ref w] S = some (.int (sumOf nm (rg regs b) (rg regs cc)), S) := by
  have rb := rg_at (l := regs) b0 (by omega)
  have rc := rg_at (l := regs) c0 (by omega)
  have t1 : ∀ x y, ev (pm q W k) (.tup (.cons (.idx (.var 1) (.idx (.var 0) (.lit (.int 2)))) (.cons (.idx (.var 1) (.idx (.var 0) (.lit (.int 3)))) .nil))) [some (.tup [.str nm, .int a, .int b, .int cc]), some (.ref w), x, y] S = some (.tup [.int (rg regs b), .int (rg regs cc)], S) := fun _ _ =>
    er_tup (er_cons (er_idx (er_var rfl) (er_idx (er_var rfl) (er_lit rfl) (i_tup (atN (n := 2) rfl))) (i_lst (l_lst hw) rb)) (er_cons (er_idx (er_var rfl) (er_idx (er_var rfl) (er_lit rfl) (i_tup (atN (n := 3) rfl))) (i_lst (l_lst hw) rc)) er_nil)) (Nat.le_of_ble_eq_true rfl)
  generalize rg regs b = x at t1 ⊢
  generalize rg regs cc = y at t1 ⊢
  simp only [sms, List.mem_cons, List.not_mem_nil, or_false] at hm
  rcases hm with rfl | rfl | rfl | rfl | rfl
  · refine' run_rt (e0 := [some _, some _, none, none]) Q.f85 rfl rfl ?h; (case h => unfold b_85; refine' es_nx (es_asg (t1 _ _) rfl) ?_; walk_at "ex")
  · refine' run_rt (e0 := [some _, some _, none, none]) Q.f85 rfl rfl ?h; (case h => unfold b_85; refine' es_nx (es_asg (t1 _ _) rfl) ?_; walk_at "ex")
  · refine' run_rt (e0 := [some _, some _, none, none]) Q.f85 rfl rfl ?h; (case h => unfold b_85; refine' es_nx (es_asg (t1 _ _) rfl) ?_; walk_at "ex")
  · refine' run_rt (e0 := [some _, some _, none, none]) Q.f85 rfl rfl ?h; (case h => unfold b_85; refine' es_nx (es_asg (t1 _ _) rfl) ?_; walk_at "ex")
  · by_cases h : x < y
    · rw [show sumOf "below" x y = 1 from if_pos h]
      refine' run_rt (e0 := [some _, some _, none, none]) Q.f85 rfl rfl ?h; (case h => unfold b_85; refine' es_nx (es_asg (t1 _ _) rfl) ?_; walk_at "ex")
    · rw [show sumOf "below" x y = 0 from if_neg h]
      refine' run_rt (e0 := [some _, some _, none, none]) Q.f85 rfl rfl ?h; (case h => unfold b_85; refine' es_nx (es_asg (t1 _ _) rfl) ?_; walk_at "ex")
end
end Tm

set_option Elab.async false
set_option linter.all false
set_option maxRecDepth 100000
set_option maxHeartbeats 8000000
namespace Tm
open PySem L2
local macro_rules | `(tactic| walk_at "sm") => `(tactic| first | assumption | (unfold Sm; first | omega | decide))
local macro_rules | `(tactic| walk_at "in") => `(tactic| first | assumption | omega | decide)
local macro_rules | `(tactic| walk_at "lst") => `(tactic| first | assumption | exact l_last | exact l_lst (by assumption) | exact l_ro (by assumption) | exact l_lst (set_get (by assumption)))
local macro_rules | `(tactic| walk_at "op") => `(tactic| first
  | with_reducible exact o_add
  | with_reducible exact o_sub
  | ((with_reducible refine' o_addT ?h); (case h => first | assumption | exact Nat.le_of_ble_eq_true rfl))
  | with_reducible exact o_band
  | with_reducible exact o_bxor
  | with_reducible exact o_band
  | with_reducible exact o_bxor
  | ((with_reducible refine' o_mod ?h); (case h => walk_at "in"))
  | ((with_reducible refine' o_div ?h ?g); (case h => walk_at "in"); (case g => walk_at "sm"))
  | ((with_reducible refine' o_mul ?h ?g); (case h => walk_at "sm"); (case g => walk_at "sm"))
  | ((with_reducible refine' o_pow ?h ?g); (case h => walk_at "in"); (case g => decide)))
local macro_rules | `(tactic| walk_at "cmp") => `(tactic| first
  | with_reducible assumption
  | with_reducible exact c_isN
  | with_reducible exact c_isnN
  | with_reducible exact c_isT
  | with_reducible exact c_isnT
  | with_reducible exact c_isB
  | ((with_reducible refine' c_eq_t ?h); (case h => walk_at "in"))
  | ((with_reducible refine' c_lt_t ?h); (case h => walk_at "in"))
  | ((with_reducible refine' c_gt_t ?h); (case h => walk_at "in"))
  | ((with_reducible refine' c_ne_t ?h); (case h => walk_at "in"))
  | ((with_reducible refine' c_le_t ?h); (case h => walk_at "in"))
  | ((with_reducible refine' c_ge_t ?h); (case h => walk_at "in"))
  | ((with_reducible refine' c_eq_f ?h); (case h => walk_at "in"))
  | ((with_reducible refine' c_lt_f ?h); (case h => walk_at "in"))
  | ((with_reducible refine' c_gt_f ?h); (case h => walk_at "in"))
  | ((with_reducible refine' c_ne_f ?h); (case h => walk_at "in"))
  | ((with_reducible refine' c_le_f ?h); (case h => walk_at "in"))
  | ((with_reducible refine' c_ge_f ?h); (case h => walk_at "in"))
  | ((with_reducible refine' c_str_t ?h); (case h => with_reducible exact rfl))
  | ((with_reducible refine' c_str_f ?h); (case h => first | assumption | decide))
  | ((with_reducible refine' c_strn_f ?h); (case h => with_reducible exact rfl))
  | ((with_reducible refine' c_strn_t ?h); (case h => first | assumption | decide))
  | ((with_reducible refine' c_in (t := true) ?h ?g ?f ?e); (case h => walk_at "lst"); (case g => exact rfl); (case f => exact rfl); (case e => first | assumption | decide))
  | ((with_reducible refine' c_in (t := false) ?h ?g ?f ?e); (case h => walk_at "lst"); (case g => exact rfl); (case f => exact rfl); (case e => first | assumption | decide))
  | ((with_reducible refine' c_inT (t := true) ?g ?f ?e); (case g => exact rfl); (case f => exact rfl); (case e => first | assumption | decide))
  | ((with_reducible refine' c_inT (t := false) ?g ?f ?e); (case g => exact rfl); (case f => exact rfl); (case e => first | assumption | decide))
  | ((with_reducible refine' c_ninT (t := true) ?g ?f ?e); (case g => exact rfl); (case f => exact rfl); (case e => first | assumption | decide))
  | ((with_reducible refine' c_ninT (t := false) ?g ?f ?e); (case g => exact rfl); (case f => exact rfl); (case e => first | assumption | decide))
  | ((with_reducible refine' c_nin (t := true) ?h ?g ?f ?e); (case h => walk_at "lst"); (case g => exact rfl); (case f => exact rfl); (case e => first | assumption | decide))
  | ((with_reducible refine' c_nin (t := false) ?h ?g ?f ?e); (case h => walk_at "lst"); (case g => exact rfl); (case f => exact rfl); (case e => first | assumption | decide)))
local macro_rules | `(tactic| walk_at "bi") => `(tactic| first | with_reducible assumption | ((with_reducible refine' b_tupL ?h); (case h => walk_at "lst")) | with_reducible exact b_int | with_reducible exact b_bool | with_reducible exact b_abs | with_reducible exact b_max | with_reducible exact b_min | with_reducible exact b_lenT | ((with_reducible refine' b_lenL ?h); (case h => walk_at "lst")) | with_reducible apply_assumption)
local macro_rules | `(tactic| walk_at "pick") => `(tactic| first | with_reducible exact pk1 | with_reducible exact pk2 | with_reducible exact pk3 | with_reducible exact pk4 | with_reducible exact pk5 | with_reducible exact pn1 | with_reducible exact pn2 | with_reducible exact pn3)
local macro_rules | `(tactic| walk_at "call") => `(tactic| first | with_reducible assumption | with_reducible apply_assumption)
local macro_rules | `(tactic| walk_at "ev") => `(tactic| first
  | (with_reducible assumption)
  | ((with_reducible refine' er_env ?he ?h); (case h => with_reducible assumption); (case he => exact rfl))
  | (with_reducible exact er_nil)
  | ((with_reducible refine' er_glob ?h); (case h => assumption))
  | ((with_reducible refine' er_lit ?h); (case h => exact rfl))
  | ((with_reducible refine' er_var ?h); (case h => exact rfl))
  | ((with_reducible refine' er_cons ?h1 ?h2); (case h1 => walk_at "ev"); (case h2 => walk_at "ev"))
  | ((with_reducible refine' er_tup ?h1 ?h2); (case h1 => walk_at "ev"); (case h2 => exact Nat.le_of_ble_eq_true rfl))
  | ((with_reducible refine' er_lst ?h1 ?h2); (case h1 => walk_at "ev"); (case h2 => exact Nat.le_of_ble_eq_true rfl))
  | ((with_reducible refine' er_neg ?h1); (case h1 => walk_at "ev"))
  | ((with_reducible refine' er_isty ?h1 ?h2); (case h1 => walk_at "ev"); (case h2 => first | exact rfl | exact ty_ref (by walk_at "lst")))
  | ((with_reducible refine' er_chain_t ?h1 ?h2 ?h3 ?h4 ?h5); (case h1 => walk_at "ev"); (case h2 => walk_at "ev"); (case h3 => walk_at "cmp"); (case h4 => walk_at "ev"); (case h5 => walk_at "cmp"))
  | ((with_reducible refine' er_slc_to ?h1 ?h2 ?h3 ?h4); (case h1 => walk_at "ev"); (case h2 => exact rfl); (case h3 => walk_at "ev"); (case h4 => first | assumption | omega))
  | ((with_reducible refine' er_slc_from ?h1 ?h2 ?h3 ?h4); (case h1 => walk_at "ev"); (case h2 => exact rfl); (case h3 => walk_at "ev"); (case h4 => first | assumption | omega))
  | ((with_reducible refine' er_app ?h1 ?h2 ?h3); (case h1 => walk_at "ev"); (case h2 => walk_at "ev"); (case h3 => exact push_at (by assumption) (by assumption)))
  | ((with_reducible refine' er_callv ?h1 ?h2 ?h3 ?h4); (case h1 => walk_at "ev"); (case h2 => walk_at "ev"); (case h3 => assumption); (case h4 => walk_at "call"))
  | ((with_reducible refine' er_bin ?h1 ?h2 ?h3); (case h1 => walk_at "ev"); (case h2 => walk_at "ev"); (case h3 => walk_at "op"))
  | ((with_reducible refine' er_idx ?h1 ?h2 ?h3); (case h1 => walk_at "ev"); (case h2 => walk_at "ev"); (case h3 => first | exact i_tup (by first | assumption | rfl) | exact i_lst (by walk_at "lst") (by first | assumption | rfl)))
  | ((with_reducible refine' er_call ?h1 ?h2 ?h3 ?h4); (case h1 => walk_at "ev"); (case h2 => walk_at "ev"); (case h3 => walk_at "pick"); (case h4 => walk_at "call"))
  | ((with_reducible refine' er_bi ?h1 ?h2); (case h1 => walk_at "ev"); (case h2 => walk_at "bi"))
  | ((with_reducible refine' er_cmp ?h1 ?h2 ?h3); (case h1 => walk_at "ev"); (case h2 => walk_at "ev"); (case h3 => walk_at "cmp"))
  | ((with_reducible refine' er_nots ?h1 ?h2); (case h1 => walk_at "ev"); (case h2 => first | exact Neg.t | exact Neg.f))
  | ((with_reducible refine' er_ors ?h1 ?h2); (case h1 => walk_at "ev"); (case h2 => first | exact ors_t | ((with_reducible refine' ors_f ?h3); (case h3 => walk_at "ev"))))
  | ((with_reducible refine' er_ands ?h1 ?h2); (case h1 => walk_at "ev"); (case h2 => first | exact ands_f | ((with_reducible refine' ands_t ?h3); (case h3 => walk_at "ev"))))
  | ((with_reducible refine' er_br ?h1 ?h2); (case h1 => walk_at "ev"); (case h2 => first | ((with_reducible refine' bre_t ?h3); (case h3 => walk_at "ev")) | ((with_reducible refine' bre_f ?h3); (case h3 => walk_at "ev")))))
local macro_rules | `(tactic| walk_at "ex") => `(tactic| first
  | ((with_reducible refine' es_skip2 ?h1 ?h2); (case h1 => exact rfl); (case h2 => exact rfl))
  | ((with_reducible refine' es_sq ?h1 ?h2); (case h1 => walk_at "ex"); (case h2 => first | exact nxt_rt | exact nxt_bk | exact nxt_ct | ((with_reducible refine' nxt_nx ?h3); (case h3 => walk_at "ex"))))
  | ((with_reducible refine' es_ret ?h1); (case h1 => walk_at "ev"))
  | ((with_reducible refine' es_asg ?h1 ?h2); (case h1 => walk_at "ev"); (case h2 => exact rfl))
  | ((with_reducible refine' es_seti ?h1 ?h2 ?h3 ?h4); (case h1 => walk_at "ev"); (case h2 => walk_at "ev"); (case h3 => walk_at "ev"); (case h4 => exact s_set (by first | assumption | exact set_get (by assumption)) rfl))
  | ((with_reducible refine' es_drop ?h1); (case h1 => walk_at "ev"))
  | ((with_reducible refine' es_br ?h1 ?h2); (case h1 => walk_at "ev"); (case h2 => first | ((with_reducible refine' brs_t ?h3); (case h3 => walk_at "ex")) | ((with_reducible refine' brs_f ?h3); (case h3 => walk_at "ex")))))


def t1_86 : St := (.ifs (.cmp .in_ (.var 7) (.lst (.cons (.lit (.str "load")) (.cons (.lit (.str "store")) .nil)))) (.seq (.asg (.nm 8) (.bin .mod (.bi .int (.cons (.bin .add (.idx (.var 6) (.idx (.var 5) (.lit (.int 2)))) (.idx (.var 5) (.lit (.int 3)))) .nil)) (.bi .len (.cons (.var 4) .nil))))
  .skip) .skip)
def t2_86 : St := (.ifs (.cmp .in_ (.var 7) (.lst (.cons (.lit (.str "swap")) (.cons (.lit (.str "addto")) .nil)))) (.seq (.asg (.nm 8) (.bin .mod (.bi .int (.cons (.bin .add (.idx (.var 6) (.idx (.var 5) (.lit (.int 3)))) (.idx (.var 5) (.lit (.int 4)))) .nil)) (.bi .len (.cons (.var 4) .nil))))
  .skip) .skip)
def big_86 : St := (.ifs (.cmp .eq (.var 7) (.lit (.str "set"))) (.seq (.seti (.idx (.var 5) (.lit (.int 2))) (.var 6) (.idx (.var 5) (.lit (.int 1))))
  .skip) (.seq (.ifs (.cmp .in_ (.var 7) (.lst (.cons (.lit (.str "add")) (.cons (.lit (.str "sub")) (.cons (.lit (.str "and")) (.cons (.lit (.str "xor")) (.cons (.lit (.str "below")) .nil))))))) (.seq (.seti (.call 85 [0, 1] (.cons (.var 5) (.cons (.var 6) .nil)) .nil) (.var 6) (.idx (.var 5) (.lit (.int 1))))
  .skip) (.seq (.ifs (.cmp .eq (.var 7) (.lit (.str "store"))) (.seq (.seti (.bin .add (.idx (.var 3) (.lit (.int 2))) (.lst (.cons (.tup (.cons (.var 8) (.cons (.idx (.var 6) (.idx (.var 5) (.lit (.int 1)))) .nil))) .nil))) (.var 3) (.lit (.int 2)))
  .skip) (.seq (.ifs (.cmp .eq (.var 7) (.lit (.str "load"))) (.seq (.seti (.idx (.bin .add (.lst (.cons (.idx (.var 4) (.var 8)) .nil)) (.lc (.itv (.idx (.var 3) (.lit (.int 2)))) (.tp 2 (.cons (.nm 11) (.cons (.nm 12) .nil))) (.cmp .eq (.var 11) (.var 8)) (.var 12) [11, 12])) (.neg (.lit (.int 1)))) (.var 6) (.idx (.var 5) (.lit (.int 1))))
  .skip) (.seq (.ifs (.cmp .in_ (.var 7) (.lst (.cons (.lit (.str "swap")) (.cons (.lit (.str "addto")) .nil)))) (.seq (.asg (.tp 2 (.cons (.nm 9) (.cons (.nm 10) .nil))) (.tup (.cons (.idx (.var 4) (.var 8)) (.cons (.idx (.var 6) (.idx (.var 5) (.lit (.int 2)))) .nil))))
  (.seq (.seti (.bin .mod (.bi .int (.cons (.bin .add (.var 10) (.bin .mul (.var 9) (.bi .int (.cons (.cmp .eq (.var 7) (.lit (.str "addto"))) .nil)))) .nil)) (.lit (.int 65536))) (.var 4) (.var 8))
  (.seq (.seti (.var 9) (.var 6) (.idx (.var 5) (.lit (.int 1))))
  .skip))) (.seq (.ifs (.cmp .eq (.var 7) (.lit (.str "jump"))) (.seq (.seti (.idx (.var 5) (.lit (.int 1))) (.var 3) (.lit (.int 0)))
  .skip) (.seq (.ifs (.and_ (.cmp .eq (.var 7) (.lit (.str "ifzero"))) (.cmp .eq (.idx (.var 6) (.idx (.var 5) (.lit (.int 1)))) (.lit (.int 0)))) (.seq (.seti (.idx (.var 5) (.lit (.int 2))) (.var 3) (.lit (.int 0)))
  .skip) .skip)
  .skip))
  .skip))
  .skip))
  .skip))
  .skip))
  .skip))
theorem b86_eq : b_86 = (.seq (.asg (.tp 3 (.cons (.nm 3) (.cons (.nm 4) (.cons (.nm 5) .nil)))) (.tup (.cons (.idx (.idx (.var 1) (.lit (.int 0))) (.var 2)) (.cons (.idx (.var 1) (.lit (.int 1))) (.cons (.call 83 [0, 1, 2] (.cons (.var 0) (.cons (.var 1) (.cons (.var 2) .nil))) .nil) .nil)))))
  (.seq (.asg (.tp 3 (.cons (.nm 6) (.cons (.nm 7) (.cons (.nm 8) .nil)))) (.tup (.cons (.idx (.var 3) (.lit (.int 1))) (.cons (.idx (.var 5) (.lit (.int 0))) (.cons (.lit (.int 0)) .nil)))))
  (.seq (.seti (.bin .add (.idx (.var 3) (.lit (.int 0))) (.lit (.int 1))) (.var 3) (.lit (.int 0)))
  (.seq t1_86 (.seq t2_86 (.seq big_86 .skip)))))) := rfl
theorem ixn_pos {n : Nat} {i : Int} (h0 : 0 ≤ i) (h1 : i.toNat < n) : ixN n i = some i.toNat := by
  unfold ixN
  rw [if_pos h0, if_pos (by omega)]
theorem in_two {q : Pr} {W k : Nat} {e : Env'} {S : Store} {x y nm : Str} {t : Bool} (h : e[7]? = some (some (.str nm))) (ht : ([D.str x, .str y].any fun z => scEq z (.str nm)) = t) :
    ev (pm q W k) (.cmp .in_ (.var 7) (.lst (.cons (.lit (.str x)) (.cons (.lit (.str y)) .nil)))) e S = some (.bl t, S ++ [.lst [.str x, .str y]]) :=
  er_cmp (er_var h) (er_lst (er_cons (er_lit rfl) (er_cons (er_lit rfl) er_nil)) (Nat.le_of_ble_eq_true rfl)) (c_in l_last rfl rfl ht)
theorem in_sums {q : Pr} {W k : Nat} {e : Env'} {S : Store} {nm : Str} {t : Bool} (h : e[7]? = some (some (.str nm))) (ht : ([D.str "add", .str "sub", .str "and", .str "xor", .str "below"].any fun z => scEq z (.str nm)) = t) :
    ev (pm q W k) (.cmp .in_ (.var 7) (.lst (.cons (.lit (.str "add")) (.cons (.lit (.str "sub")) (.cons (.lit (.str "and")) (.cons (.lit (.str "xor")) (.cons (.lit (.str "below")) .nil))))))) e S = some (.bl t, S ++ [.lst [.str "add", .str "sub", .str "and", .str "xor", .str "below"]]) :=
  er_cmp (er_var h) (er_lst (er_cons (er_lit rfl) (er_cons (er_lit rfl) (er_cons (er_lit rfl) (er_cons (er_lit rfl) (er_cons (er_lit rfl) er_nil))))) (Nat.le_of_ble_eq_true rfl)) (c_in l_last rfl rfl ht)
theorem ld_last (v : Int) (cell : Int) : ∀ l : List (Int × Int), atI (D.int v :: l.reverse.filterMap fun p => if p.1 = cell then some (D.int p.2) else none) (-1) = some (.int (match l.find? (fun p => decide (p.1 = cell)) with | some p => p.2 | none => v))
  | [] => rfl
  | p :: l => by
    rw [List.reverse_cons, List.filterMap_append, List.find?_cons]
    by_cases h : p.1 = cell
    · rw [decide_eq_true h]
      simp only [List.filterMap_cons, h, if_true, List.filterMap_nil]
      rw [← List.cons_append]
      exact at_last
    · rw [decide_eq_false h]
      simp only [List.filterMap_cons, h, if_false, List.filterMap_nil, List.append_nil]
      exact ld_last v cell l
theorem ld_lastW (late : List (Int × Int)) (m : List Int) (cell : Int) : atI ([D.int (rg m cell)] ++ late.filterMap fun p => if p.1 = cell then some (D.int p.2) else none) (-1) = some (.int (ldW late m cell)) := by
  have := ld_last (rg m cell) cell late.reverse
  rw [List.reverse_reverse] at this
  rw [List.singleton_append, this]
  unfold ldW
  rfl
/-- the rest of the law's do: what it makes of the core in view -/
def Fin86 (q : Pr) (W k : Nat) (Z : List Nat) (v0 v1 v2 : D) (a w l M : Nat) (i : Ins) (c : Cr) (m : List Int) (c' : Cr) (m' : List Int) : Prop :=
  ∀ S, View S a w l M c m → l ∉ Z → (∀ x ∈ Z, x < S.length) → ∃ e' S' l', ex (pm q W k) (.seq t1_86 (.seq t2_86 (.seq big_86 .skip))) [some v0, some v1, some v2, some (.ref a), some (.ref M), some (dIns i), some (.ref w), some (.str i.nm), some (.int 0), none, none, none, none] S = some (.nx, e', S') ∧
    Kp [a, w, M] S S' ∧ View S' a w l' M c' m' ∧ l' ∉ Z
section
variable {q : Pr} (Q : HK q) {W : Nat}
include Q
/-- names that meet no memory: the two tests of the cell are false -/
theorem fin_pre {k : Nat} {Z : List Nat} {v0 v1 v2 : D} {a w l M : Nat} {i : Ins} {c c' : Cr} {m m' : List Int} (n1 : ([D.str "load", .str "store"].any fun z => scEq z (.str i.nm)) = false) (n2 : ([D.str "swap", .str "addto"].any fun z => scEq z (.str i.nm)) = false)
    (h : ∀ S, View S a w l M c m → l ∉ Z → (∀ x ∈ Z, x < S.length) → ∃ e' S' l', ex (pm q W k) big_86 [some v0, some v1, some v2, some (.ref a), some (.ref M), some (dIns i), some (.ref w), some (.str i.nm), some (.int 0), none, none, none, none] S = some (.nx, e', S') ∧ Kp [a, w, M] S S' ∧ View S' a w l' M c' m' ∧ l' ∉ Z) :
    Fin86 q W k Z v0 v1 v2 a w l M i c m c' m' := by
  intro S V hl hZ
  obtain ⟨e', S', l', h1, h2, h3, h4⟩ := h ((S ++ [.lst [.str "load", .str "store"]]) ++ [.lst [.str "swap", .str "addto"]]) V.push.push hl (fun x hx => by have := hZ x hx; simp; omega)
  refine ⟨e', S', l', ?_, (Kp.push.trans Kp.push).trans h2, h3, h4⟩
  unfold t1_86 t2_86
  exact es_nx (es_if_f (in_two rfl n1) es_skip) (es_nx (es_if_f (in_two rfl n2) es_skip) (es_nx h1 es_skip))
theorem fin_set {k : Nat} {Z : List Nat} {v0 v1 v2 : D} {a w l M : Nat} {r b cc v g : Int} {c : Cr} {m : List Int} (p : Apart a w l M) (h8 : c.regs.length = 8) (r0 : 0 ≤ r) (r1 : r < 8) :
    Fin86 q W k Z v0 v1 v2 a w l M ⟨"set", r, b, cc, v, g⟩ c m ⟨c.row, c.regs.set r.toNat v, c.late⟩ m := by
  refine fin_pre Q (by dsimp only; decide) (by dsimp only; decide) fun S V hl hZ => ?_
  exact ⟨_, _, l, es_if_t (er_cmp (er_var rfl) (er_lit rfl) (c_str_t rfl)) (es_nx (es_seti (er_idx (er_var rfl) (er_lit rfl) (i_tup (atN (n := 2) rfl))) (er_var rfl) (er_idx (er_var rfl) (er_lit rfl) (i_tup (atN (n := 1) rfl))) (s_set V.w (ixn_pos r0 (by simp; omega)))) es_skip),
    Kp.setIn (x := w) (by simp), V.reg p (by rw [List.map_set]), hl⟩
theorem fin_sum {k : Nat} {Z : List Nat} {v0 v1 v2 : D} {a w l M : Nat} {nm : Str} (hm : nm ∈ sms) {r b cc v g : Int} {c : Cr} {m : List Int} (p : Apart a w l M) (h8 : c.regs.length = 8) (r0 : 0 ≤ r) (r1 : r < 8) (b0 : 0 ≤ b) (b1 : b < 8) (c0 : 0 ≤ cc) (c1 : cc < 8) :
    Fin86 q W (k + 1) Z v0 v1 v2 a w l M ⟨nm, r, b, cc, v, g⟩ c m ⟨c.row, c.regs.set r.toNat (sumOf nm (rg c.regs b) (rg c.regs cc)), c.late⟩ m := by
  have d1 : (dIns ⟨nm, r, b, cc, v, g⟩) = .tup [.str nm, .int r, .int b, .int cc] := by
    simp only [sms, List.mem_cons, List.not_mem_nil, or_false] at hm
    rcases hm with rfl | rfl | rfl | rfl | rfl <;> rfl
  have n1 : ¬ nm = "set" := by
    simp only [sms, List.mem_cons, List.not_mem_nil, or_false] at hm
    rcases hm with rfl | rfl | rfl | rfl | rfl <;> decide
  have n2 : ([D.str "add", .str "sub", .str "and", .str "xor", .str "below"].any fun y => scEq y (.str nm)) = true := by
    simp only [sms, List.mem_cons, List.not_mem_nil, or_false] at hm
    rcases hm with rfl | rfl | rfl | rfl | rfl <;> decide
  have n3 : ([D.str "load", .str "store"].any fun y => scEq y (.str nm)) = false := by
    simp only [sms, List.mem_cons, List.not_mem_nil, or_false] at hm
    rcases hm with rfl | rfl | rfl | rfl | rfl <;> decide
  have n4 : ([D.str "swap", .str "addto"].any fun y => scEq y (.str nm)) = false := by
    simp only [sms, List.mem_cons, List.not_mem_nil, or_false] at hm
    rcases hm with rfl | rfl | rfl | rfl | rfl <;> decide
  refine fin_pre Q n3 n4 fun S V hl hZ => ?_
  have V1 := V.push (o := .lst [.str "add", .str "sub", .str "and", .str "xor", .str "below"])
  have s1 := lsum_p Q (W := W) hm k (a := r) V1.w h8 b0 b1 c0 c1
  rw [d1]
  exact ⟨_, _, l, es_if_f (er_cmp (er_var rfl) (er_lit rfl) (c_str_f n1)) (es_nx (es_if_t (in_sums rfl n2) (es_nx (es_seti (er_call (er_cons (er_var rfl) (er_cons (er_var rfl) er_nil)) er_nil rfl s1) (er_var rfl) (er_idx (er_var rfl) (er_lit rfl) (i_tup (atN (n := 1) rfl))) (s_set V1.w (ixn_pos r0 (by simp; omega)))) es_skip)) es_skip),
    Kp.push.trans (Kp.setIn (x := w) (by simp)), V1.reg p (by rw [List.map_set]), hl⟩
end
end Tm

set_option Elab.async false
set_option linter.all false
set_option maxRecDepth 100000
set_option maxHeartbeats 8000000
namespace Tm
open PySem L2
local macro_rules | `(tactic| walk_at "sm") => `(tactic| first | assumption | (unfold Sm; first | omega | decide))
local macro_rules | `(tactic| walk_at "in") => `(tactic| first | assumption | omega | decide)
local macro_rules | `(tactic| walk_at "lst") => `(tactic| first | assumption | exact l_last | exact l_lst (by assumption) | exact l_ro (by assumption) | exact l_lst (set_get (by assumption)))
local macro_rules | `(tactic| walk_at "op") => `(tactic| first
  | with_reducible exact o_add
  | with_reducible exact o_sub
  | ((with_reducible refine' o_addT ?h); (case h => first | assumption | exact Nat.le_of_ble_eq_true rfl))
  | with_reducible exact o_band
  | with_reducible exact o_bxor
  | with_reducible exact o_band
  | with_reducible exact o_bxor
  | ((with_reducible refine' o_mod ?h); (case h => walk_at "in"))
  | ((with_reducible refine' o_div ?h ?g); (case h => walk_at "in"); (case g => walk_at "sm"))
  | ((with_reducible refine' o_mul ?h ?g); (case h => walk_at "sm"); (case g => walk_at "sm"))
  | ((with_reducible refine' o_pow ?h ?g); (case h => walk_at "in"); (case g => decide)))
local macro_rules | `(tactic| walk_at "cmp") => `(tactic| first
  | with_reducible assumption
  | with_reducible exact c_isN
  | with_reducible exact c_isnN
  | with_reducible exact c_isT
  | with_reducible exact c_isnT
  | with_reducible exact c_isB
  | ((with_reducible refine' c_eq_t ?h); (case h => walk_at "in"))
  | ((with_reducible refine' c_lt_t ?h); (case h => walk_at "in"))
  | ((with_reducible refine' c_gt_t ?h); (case h => walk_at "in"))
  | ((with_reducible refine' c_ne_t ?h); (case h => walk_at "in"))
  | ((with_reducible refine' c_le_t ?h); (case h => walk_at "in"))
  | ((with_reducible refine' c_ge_t ?h); (case h => walk_at "in"))
  | ((with_reducible refine' c_eq_f ?h); (case h => walk_at "in"))
  | ((with_reducible refine' c_lt_f ?h); (case h => walk_at "in"))
  | ((with_reducible refine' c_gt_f ?h); (case h => walk_at "in"))
  | ((with_reducible refine' c_ne_f ?h); (case h => walk_at "in"))
  | ((with_reducible refine' c_le_f ?h); (case h => walk_at "in"))
  | ((with_reducible refine' c_ge_f ?h); (case h => walk_at "in"))
  | ((with_reducible refine' c_str_t ?h); (case h => with_reducible exact rfl))
  | ((with_reducible refine' c_str_f ?h); (case h => first | assumption | decide))
  | ((with_reducible refine' c_strn_f ?h); (case h => with_reducible exact rfl))
  | ((with_reducible refine' c_strn_t ?h); (case h => first | assumption | decide))
  | ((with_reducible refine' c_in (t := true) ?h ?g ?f ?e); (case h => walk_at "lst"); (case g => exact rfl); (case f => exact rfl); (case e => first | assumption | decide))
  | ((with_reducible refine' c_in (t := false) ?h ?g ?f ?e); (case h => walk_at "lst"); (case g => exact rfl); (case f => exact rfl); (case e => first | assumption | decide))
  | ((with_reducible refine' c_inT (t := true) ?g ?f ?e); (case g => exact rfl); (case f => exact rfl); (case e => first | assumption | decide))
  | ((with_reducible refine' c_inT (t := false) ?g ?f ?e); (case g => exact rfl); (case f => exact rfl); (case e => first | assumption | decide))
  | ((with_reducible refine' c_ninT (t := true) ?g ?f ?e); (case g => exact rfl); (case f => exact rfl); (case e => first | assumption | decide))
  | ((with_reducible refine' c_ninT (t := false) ?g ?f ?e); (case g => exact rfl); (case f => exact rfl); (case e => first | assumption | decide))
  | ((with_reducible refine' c_nin (t := true) ?h ?g ?f ?e); (case h => walk_at "lst"); (case g => exact rfl); (case f => exact rfl); (case e => first | assumption | decide))
  | ((with_reducible refine' c_nin (t := false) ?h ?g ?f ?e); (case h => walk_at "lst"); (case g => exact rfl); (case f => exact rfl); (case e => first | assumption | decide)))
local macro_rules | `(tactic| walk_at "bi") => `(tactic| first | with_reducible assumption | ((with_reducible refine' b_tupL ?h); (case h => walk_at "lst")) | with_reducible exact b_int | with_reducible exact b_bool | with_reducible exact b_abs | with_reducible exact b_max | with_reducible exact b_min | with_reducible exact b_lenT | ((with_reducible refine' b_lenL ?h); (case h => walk_at "lst")) | with_reducible apply_assumption)
local macro_rules | `(tactic| walk_at "pick") => `(tactic| first | with_reducible exact pk1 | with_reducible exact pk2 | with_reducible exact pk3 | with_reducible exact pk4 | with_reducible exact pk5 | with_reducible exact pn1 | with_reducible exact pn2 | with_reducible exact pn3)
local macro_rules | `(tactic| walk_at "call") => `(tactic| first | with_reducible assumption | with_reducible apply_assumption)
local macro_rules | `(tactic| walk_at "ev") => `(tactic| first
  | (with_reducible assumption)
  | ((with_reducible refine' er_env ?he ?h); (case h => with_reducible assumption); (case he => exact rfl))
  | (with_reducible exact er_nil)
  | ((with_reducible refine' er_glob ?h); (case h => assumption))
  | ((with_reducible refine' er_lit ?h); (case h => exact rfl))
  | ((with_reducible refine' er_var ?h); (case h => exact rfl))
  | ((with_reducible refine' er_cons ?h1 ?h2); (case h1 => walk_at "ev"); (case h2 => walk_at "ev"))
  | ((with_reducible refine' er_tup ?h1 ?h2); (case h1 => walk_at "ev"); (case h2 => exact Nat.le_of_ble_eq_true rfl))
  | ((with_reducible refine' er_lst ?h1 ?h2); (case h1 => walk_at "ev"); (case h2 => exact Nat.le_of_ble_eq_true rfl))
  | ((with_reducible refine' er_neg ?h1); (case h1 => walk_at "ev"))
  | ((with_reducible refine' er_isty ?h1 ?h2); (case h1 => walk_at "ev"); (case h2 => first | exact rfl | exact ty_ref (by walk_at "lst")))
  | ((with_reducible refine' er_chain_t ?h1 ?h2 ?h3 ?h4 ?h5); (case h1 => walk_at "ev"); (case h2 => walk_at "ev"); (case h3 => walk_at "cmp"); (case h4 => walk_at "ev"); (case h5 => walk_at "cmp"))
  | ((with_reducible refine' er_slc_to ?h1 ?h2 ?h3 ?h4); (case h1 => walk_at "ev"); (case h2 => exact rfl); (case h3 => walk_at "ev"); (case h4 => first | assumption | omega))
  | ((with_reducible refine' er_slc_from ?h1 ?h2 ?h3 ?h4); (case h1 => walk_at "ev"); (case h2 => exact rfl); (case h3 => walk_at "ev"); (case h4 => first | assumption | omega))
  | ((with_reducible refine' er_app ?h1 ?h2 ?h3); (case h1 => walk_at "ev"); (case h2 => walk_at "ev"); (case h3 => exact push_at (by assumption) (by assumption)))
  | ((with_reducible refine' er_callv ?h1 ?h2 ?h3 ?h4); (case h1 => walk_at "ev"); (case h2 => walk_at "ev"); (case h3 => assumption); (case h4 => walk_at "call"))
  | ((with_reducible refine' er_bin ?h1 ?h2 ?h3); (case h1 => walk_at "ev"); (case h2 => walk_at "ev"); (case h3 => walk_at "op"))
  | ((with_reducible refine' er_idx ?h1 ?h2 ?h3); (case h1 => walk_at "ev"); (case h2 => walk_at "ev"); (case h3 => first | exact i_tup (by first | assumption | rfl) | exact i_lst (by walk_at "lst") (by first | assumption | rfl)))
  | ((with_reducible refine' er_call ?h1 ?h2 ?h3 ?h4); (case h1 => walk_at "ev"); (case h2 => walk_at "ev"); (case h3 => walk_at "pick"); (case h4 => walk_at "call"))
  | ((with_reducible refine' er_bi ?h1 ?h2); (case h1 => walk_at "ev"); (case h2 => walk_at "bi"))
  | ((with_reducible refine' er_cmp ?h1 ?h2 ?h3); (case h1 => walk_at "ev"); (case h2 => walk_at "ev"); (case h3 => walk_at "cmp"))
  | ((with_reducible refine' er_nots ?h1 ?h2); (case h1 => walk_at "ev"); (case h2 => first | exact Neg.t | exact Neg.f))
  | ((with_reducible refine' er_ors ?h1 ?h2); (case h1 => walk_at "ev"); (case h2 => first | exact ors_t | ((with_reducible refine' ors_f ?h3); (case h3 => walk_at "ev"))))
  | ((with_reducible refine' er_ands ?h1 ?h2); (case h1 => walk_at "ev"); (case h2 => first | exact ands_f | ((with_reducible refine' ands_t ?h3); (case h3 => walk_at "ev"))))
  | ((with_reducible refine' er_br ?h1 ?h2); (case h1 => walk_at "ev"); (case h2 => first | ((with_reducible refine' bre_t ?h3); (case h3 => walk_at "ev")) | ((with_reducible refine' bre_f ?h3); (case h3 => walk_at "ev")))))
local macro_rules | `(tactic| walk_at "ex") => `(tactic| first
  | ((with_reducible refine' es_skip2 ?h1 ?h2); (case h1 => exact rfl); (case h2 => exact rfl))
  | ((with_reducible refine' es_sq ?h1 ?h2); (case h1 => walk_at "ex"); (case h2 => first | exact nxt_rt | exact nxt_bk | exact nxt_ct | ((with_reducible refine' nxt_nx ?h3); (case h3 => walk_at "ex"))))
  | ((with_reducible refine' es_ret ?h1); (case h1 => walk_at "ev"))
  | ((with_reducible refine' es_asg ?h1 ?h2); (case h1 => walk_at "ev"); (case h2 => exact rfl))
  | ((with_reducible refine' es_seti ?h1 ?h2 ?h3 ?h4); (case h1 => walk_at "ev"); (case h2 => walk_at "ev"); (case h3 => walk_at "ev"); (case h4 => exact s_set (by first | assumption | exact set_get (by assumption)) rfl))
  | ((with_reducible refine' es_drop ?h1); (case h1 => walk_at "ev"))
  | ((with_reducible refine' es_br ?h1 ?h2); (case h1 => walk_at "ev"); (case h2 => first | ((with_reducible refine' brs_t ?h3); (case h3 => walk_at "ex")) | ((with_reducible refine' brs_f ?h3); (case h3 => walk_at "ex")))))


theorem sm_wd {v : Int} (h : Wd v) : Sm v := by have := h.1; have := h.2; unfold Sm; omega
section
variable {q : Pr} (Q : HK q) {W : Nat}
include Q
theorem fin_store {k : Nat} {Z : List Nat} {v0 v1 v2 : D} {a w l M : Nat} {r b cc v g : Int} {c : Cr} {m : List Int} (p : Apart a w l M) (h8 : c.regs.length = 8) (r0 : 0 ≤ r) (r1 : r < 8) (b0 : 0 ≤ b) (b1 : b < 8) (hm : 0 < m.length) (hl : c.late.length ≤ 1000) :
    Fin86 q W k Z v0 v1 v2 a w l M ⟨"store", r, b, cc, v, g⟩ c m ⟨c.row, c.regs, c.late ++ [((rg c.regs b + v) % m.length, rg c.regs r)]⟩ m := by
  intro S V hlZ hZ
  have ra := rg_at (l := c.regs) r0 (by omega)
  have rb := rg_at (l := c.regs) b0 (by omega)
  have V1 := V.push (o := .lst [.str "load", .str "store"])
  have V2 := V1.push (o := .lst [.str "swap", .str "addto"])
  have V3 := V2.push (o := .lst [.str "add", .str "sub", .str "and", .str "xor", .str "below"])
  have V4 := V3.push (o := .lst [.tup [.int ((rg c.regs b + v) % m.length), .int (rg c.regs r)]])
  have V5 := V4.push (o := .lst (c.late.map dPr ++ [.tup [.int ((rg c.regs b + v) % m.length), .int (rg c.regs r)]]))
  have lt := V4.lt
  have lt0 := V.lt
  have x5 : (c.late ++ [((rg c.regs b + v) % m.length, rg c.regs r)]).map dPr = c.late.map dPr ++ [.tup [.int ((rg c.regs b + v) % m.length), .int (rg c.regs r)]] := by rw [List.map_append]; rfl
  have hl4 := g_last (S := ((((S ++ [O.lst [.str "load", .str "store"]]) ++ [.lst [.str "swap", .str "addto"]]) ++ [.lst [.str "add", .str "sub", .str "and", .str "xor", .str "below"]]) ++ [.lst [.tup [.int ((rg c.regs b + v) % m.length), .int (rg c.regs r)]]])) (o := .lst (c.late.map dPr ++ [.tup [.int ((rg c.regs b + v) % m.length), .int (rg c.regs r)]]))
  refine ⟨_, _, _, es_nx (es_if_t (in_two rfl (by dsimp only; decide)) (es_nx (es_asg (er_bin (er_bi (er_cons (er_bin (er_idx (er_var rfl) (er_idx (er_var rfl) (er_lit rfl) (i_tup (atN (n := 2) rfl))) (i_lst (l_lst V1.w) rb)) (er_idx (er_var rfl) (er_lit rfl) (i_tup (atN (n := 3) rfl))) o_add) er_nil) b_int) (er_bi (er_cons (er_var rfl) er_nil) (len_lst V1.M)) (o_mod (by omega))) rfl) es_skip))
      (es_nx (es_if_f (in_two rfl (by dsimp only; decide)) es_skip) (es_nx (es_if_f (er_cmp (er_var rfl) (er_lit rfl) (c_str_f (by dsimp only; decide))) (es_nx (es_if_f (in_sums rfl (by dsimp only; decide)) (es_nx (es_if_t (er_cmp (er_var rfl) (er_lit rfl) (c_str_t rfl))
        (es_nx (es_seti (er_bin (er_idx (er_var rfl) (er_lit rfl) (i_lst (l_lst V3.a) (atN (n := 2) rfl))) (er_lst (er_cons (er_tup (er_cons (er_var rfl) (er_cons (er_idx (er_var rfl) (er_idx (er_var rfl) (er_lit rfl) (i_tup (atN (n := 1) rfl))) (i_lst (l_lst V3.w) ra)) er_nil)) (Nat.le_of_ble_eq_true rfl)) er_nil) (Nat.le_of_ble_eq_true rfl)) (o_addL V4.l g_last (by simp [sizeLine_eq]; omega))) (er_var rfl) (er_lit rfl) (s_set V5.a (j := 2) rfl)) es_skip)) es_skip)) es_skip)) es_skip)),
    (((((Kp.push.trans Kp.push).trans Kp.push).trans Kp.push).trans Kp.push).trans (Kp.setIn (x := a) (by simp))), V5.late p (l' := _) ⟨p.aw, ?_, p.aM, ?_, p.wM, ?_⟩ (by rw [x5]; exact hl4) rfl, ?_⟩
  · omega
  · omega
  · omega
  · intro z
    have := hZ _ z
    simp only [List.length_append, List.length_cons, List.length_nil] at this
    omega
theorem lc_late {k : Nat} {e : Env'} {S : Store} {a w l M : Nat} {c : Cr} {m : List Int} {cell : Int} (V : View S a w l M c m) (h3 : e[3]? = some (some (.ref a))) (hc : c.late.length ≤ 1000)
    (hb : ∀ p : Int × Int, ∀ S, ∃ e1, bindT (.tp 2 (.cons (.nm 11) (.cons (.nm 12) .nil))) (dPr p) S (wipeE e [11, 12]) = some e1 ∧ e1[11]? = some (some (.int p.1)) ∧ e1[12]? = some (some (.int p.2)) ∧ e1[8]? = some (some (.int cell))) :
    ∃ S', ev (pm q W k) (.lc (.itv (.idx (.var 3) (.lit (.int 2)))) (.tp 2 (.cons (.nm 11) (.cons (.nm 12) .nil))) (.cmp .eq (.var 11) (.var 8)) (.var 12) [11, 12]) e S = some (.ref S.length, S') ∧ Kp [] S S' ∧ S'[S.length]? = some (.lst (c.late.filterMap fun p => if p.1 = cell then some (D.int p.2) else none)) :=
  er_lcF (q := q) (W := W) (k := k) dPr _ (itv_lst (er_idx (er_var h3) (er_lit rfl) (i_lst (l_lst V.a) (atN (n := 2) rfl))) (l_lst V.l)) (fun S' hS => chk_lst (l_lst V.l) hS) (Nat.le_trans hc (by decide)) (fun p hp S' hS => by
    obtain ⟨e1, g1, g2, g3, g4⟩ := hb p S'
    refine ⟨e1, g1, ?_⟩
    by_cases z : p.1 = cell
    · exact .inr ⟨_, S', by rw [if_pos z], er_cmp (er_var g2) (er_var g4) (c_eq_t z), er_var g3, Kp.refl _ _⟩
    · exact .inl ⟨by rw [if_neg z], er_cmp (er_var g2) (er_var g4) (c_eq_f z)⟩)
theorem fin_load {k : Nat} {Z : List Nat} {v0 v1 v2 : D} {a w l M : Nat} {r b cc v g : Int} {c : Cr} {m : List Int} (p : Apart a w l M) (h8 : c.regs.length = 8) (r0 : 0 ≤ r) (r1 : r < 8) (b0 : 0 ≤ b) (b1 : b < 8) (hm : 0 < m.length) (hl : c.late.length ≤ 1000) :
    Fin86 q W k Z v0 v1 v2 a w l M ⟨"load", r, b, cc, v, g⟩ c m ⟨c.row, c.regs.set r.toNat (ldW c.late m ((rg c.regs b + v) % m.length)), c.late⟩ m := by
  intro S V hlZ hZ
  have rb := rg_at (l := c.regs) b0 (by omega)
  have cell0 := Int.emod_nonneg (rg c.regs b + v) (show (m.length : Int) ≠ 0 by omega)
  have cell1 := Int.emod_lt_of_pos (rg c.regs b + v) (show 0 < (m.length : Int) by omega)
  have rm := rg_at (l := m) cell0 (by omega)
  have V1 := V.push (o := .lst [.str "load", .str "store"])
  have V2 := V1.push (o := .lst [.str "swap", .str "addto"])
  have V3 := V2.push (o := .lst [.str "add", .str "sub", .str "and", .str "xor", .str "below"])
  have V4 := V3.push (o := .lst [.int (rg m ((rg c.regs b + v) % m.length))])
  obtain ⟨S5, c1, c2, c3⟩ := lc_late Q (W := W) (k := k) (e := [some v0, some v1, some v2, some (.ref a), some (.ref M), some (dIns ⟨"load", r, b, cc, v, g⟩), some (.ref w), some (.str "load"), some (.int ((rg c.regs b + v) % m.length)), none, none, none, none]) (cell := (rg c.regs b + v) % m.length) V4 rfl hl
    (fun p S => ⟨[some v0, some v1, some v2, some (.ref a), some (.ref M), some (dIns ⟨"load", r, b, cc, v, g⟩), some (.ref w), some (.str "load"), some (.int ((rg c.regs b + v) % m.length)), none, none, some (.int p.1), some (.int p.2)], rfl, rfl, rfl, rfl⟩)
  have V5 := V4.kp c2
  have V6 := V5.push (o := .lst ([D.int (rg m ((rg c.regs b + v) % m.length))] ++ c.late.filterMap fun p => if p.1 = (rg c.regs b + v) % m.length then some (D.int p.2) else none))
  have g4 := c2 _ _ (by simp) (g_last (S := ((S ++ [O.lst [.str "load", .str "store"]]) ++ [.lst [.str "swap", .str "addto"]]) ++ [.lst [.str "add", .str "sub", .str "and", .str "xor", .str "below"]]) (o := .lst [.int (rg m ((rg c.regs b + v) % m.length))]))
  have fl : (c.late.filterMap fun p => if p.1 = (rg c.regs b + v) % m.length then some (D.int p.2) else none).length ≤ 1000 := Nat.le_trans (List.length_filterMap_le _ _) hl
  exact ⟨_, _, l, es_nx (es_if_t (in_two rfl (by dsimp only; decide)) (es_nx (es_asg (er_bin (er_bi (er_cons (er_bin (er_idx (er_var rfl) (er_idx (er_var rfl) (er_lit rfl) (i_tup (atN (n := 2) rfl))) (i_lst (l_lst V1.w) rb)) (er_idx (er_var rfl) (er_lit rfl) (i_tup (atN (n := 3) rfl))) o_add) er_nil) b_int) (er_bi (er_cons (er_var rfl) er_nil) (len_lst V1.M)) (o_mod (by omega))) rfl) es_skip))
      (es_nx (es_if_f (in_two rfl (by dsimp only; decide)) es_skip) (es_nx (es_if_f (er_cmp (er_var rfl) (er_lit rfl) (c_str_f (by dsimp only; decide))) (es_nx (es_if_f (in_sums rfl (by dsimp only; decide)) (es_nx (es_if_f (er_cmp (er_var rfl) (er_lit rfl) (c_str_f (by dsimp only; decide))) (es_nx (es_if_t (er_cmp (er_var rfl) (er_lit rfl) (c_str_t rfl))
        (es_nx (es_seti (er_idx (er_bin (er_lst (er_cons (er_idx (er_var rfl) (er_var rfl) (i_lst (l_lst V3.M) rm)) er_nil) (Nat.le_of_ble_eq_true rfl)) (er_env rfl c1) (o_addL g4 c3 (by simp [sizeLine_eq]; omega))) (er_neg (er_lit rfl)) (i_lst l_last (ld_lastW _ _ _))) (er_var rfl) (er_idx (er_var rfl) (er_lit rfl) (i_tup (atN (n := 1) rfl))) (s_set V6.w (ixn_pos r0 (by simp; omega)))) es_skip)) es_skip)) es_skip)) es_skip)) es_skip)),
    (((((Kp.push.trans Kp.push).trans Kp.push).trans Kp.push).trans c2.nil).trans Kp.push).trans (Kp.setIn (x := w) (by simp)), V6.reg p (by rw [List.map_set]), hlZ⟩
theorem fin_none {k : Nat} {Z : List Nat} {v0 v1 v2 : D} {a w l M : Nat} {nm : Str} {r b cc v g : Int} {c : Cr} {m : List Int} (n1 : ([D.str "load", .str "store"].any fun z => scEq z (.str nm)) = false) (n2 : ([D.str "swap", .str "addto"].any fun z => scEq z (.str nm)) = false) (n3 : ([D.str "add", .str "sub", .str "and", .str "xor", .str "below"].any fun z => scEq z (.str nm)) = false)
    (m1 : ¬ nm = "set") (m2 : ¬ nm = "store") (m3 : ¬ nm = "load") (m4 : ¬ nm = "jump") (m5 : ¬ nm = "ifzero") : Fin86 q W k Z v0 v1 v2 a w l M ⟨nm, r, b, cc, v, g⟩ c m c m := by
  refine fin_pre Q n1 n2 fun S V hl hZ => ?_
  exact ⟨_, _, l, es_if_f (er_cmp (er_var rfl) (er_lit rfl) (c_str_f m1)) (es_nx (es_if_f (in_sums rfl n3) (es_nx (es_if_f (er_cmp (er_var rfl) (er_lit rfl) (c_str_f m2)) (es_nx (es_if_f (er_cmp (er_var rfl) (er_lit rfl) (c_str_f m3)) (es_nx (es_if_f (in_two rfl n2) (es_nx (es_if_f (er_cmp (er_var rfl) (er_lit rfl) (c_str_f m4)) (es_nx (es_if_f (er_and_f (er_cmp (er_var rfl) (er_lit rfl) (c_str_f m5))) es_skip) es_skip)) es_skip)) es_skip)) es_skip)) es_skip)) es_skip),
    Kp.push.trans Kp.push, V.push.push, hl⟩
theorem fin_jump {k : Nat} {Z : List Nat} {v0 v1 v2 : D} {a w l M : Nat} {r b cc v g : Int} {c : Cr} {m : List Int} (p : Apart a w l M) (g0 : 0 ≤ g) : Fin86 q W k Z v0 v1 v2 a w l M ⟨"jump", r, b, cc, v, g⟩ c m ⟨g.toNat, c.regs, c.late⟩ m := by
  refine fin_pre Q (by dsimp only; decide) (by dsimp only; decide) fun S V hl hZ => ?_
  have V1 := V.push (o := .lst [.str "add", .str "sub", .str "and", .str "xor", .str "below"])
  have V2 := V1.push (o := .lst [.str "swap", .str "addto"])
  exact ⟨_, _, l, es_if_f (er_cmp (er_var rfl) (er_lit rfl) (c_str_f (by dsimp only; decide))) (es_nx (es_if_f (in_sums rfl (by dsimp only; decide)) (es_nx (es_if_f (er_cmp (er_var rfl) (er_lit rfl) (c_str_f (by dsimp only; decide))) (es_nx (es_if_f (er_cmp (er_var rfl) (er_lit rfl) (c_str_f (by dsimp only; decide))) (es_nx (es_if_f (in_two rfl (by dsimp only; decide)) (es_nx (es_if_t (er_cmp (er_var rfl) (er_lit rfl) (c_str_t rfl))
      (es_nx (es_seti (er_idx (er_var rfl) (er_lit rfl) (i_tup (atN (n := 1) rfl))) (er_var rfl) (er_lit rfl) (s_set V2.a (j := 0) rfl)) es_skip)) es_skip)) es_skip)) es_skip)) es_skip)) es_skip),
    (Kp.push.trans Kp.push).trans (Kp.setIn (x := a) (by simp)), V2.row p (r := g.toNat) (by rw [Int.toNat_of_nonneg g0]; rfl), hl⟩
theorem fin_ifz {k : Nat} {Z : List Nat} {v0 v1 v2 : D} {a w l M : Nat} {r b cc v g : Int} {c : Cr} {m : List Int} (p : Apart a w l M) (h8 : c.regs.length = 8) (r0 : 0 ≤ r) (r1 : r < 8) (g0 : 0 ≤ g) : Fin86 q W k Z v0 v1 v2 a w l M ⟨"ifzero", r, b, cc, v, g⟩ c m ⟨if rg c.regs r = 0 then g.toNat else c.row, c.regs, c.late⟩ m := by
  refine fin_pre Q (by dsimp only; decide) (by dsimp only; decide) fun S V hl hZ => ?_
  have ra := rg_at (l := c.regs) r0 (by omega)
  have V1 := V.push (o := .lst [.str "add", .str "sub", .str "and", .str "xor", .str "below"])
  have V2 := V1.push (o := .lst [.str "swap", .str "addto"])
  by_cases z : rg c.regs r = 0
  · rw [if_pos z]
    exact ⟨_, _, l, es_if_f (er_cmp (er_var rfl) (er_lit rfl) (c_str_f (by dsimp only; decide))) (es_nx (es_if_f (in_sums rfl (by dsimp only; decide)) (es_nx (es_if_f (er_cmp (er_var rfl) (er_lit rfl) (c_str_f (by dsimp only; decide))) (es_nx (es_if_f (er_cmp (er_var rfl) (er_lit rfl) (c_str_f (by dsimp only; decide))) (es_nx (es_if_f (in_two rfl (by dsimp only; decide)) (es_nx (es_if_f (er_cmp (er_var rfl) (er_lit rfl) (c_str_f (by dsimp only; decide)))
        (es_nx (es_if_t (er_and_t (er_cmp (er_var rfl) (er_lit rfl) (c_str_t rfl)) (er_cmp (er_idx (er_var rfl) (er_idx (er_var rfl) (er_lit rfl) (i_tup (atN (n := 1) rfl))) (i_lst (l_lst V2.w) ra)) (er_lit rfl) (c_eq_t z))) (es_nx (es_seti (er_idx (er_var rfl) (er_lit rfl) (i_tup (atN (n := 2) rfl))) (er_var rfl) (er_lit rfl) (s_set V2.a (j := 0) rfl)) es_skip)) es_skip)) es_skip)) es_skip)) es_skip)) es_skip)) es_skip),
      (Kp.push.trans Kp.push).trans (Kp.setIn (x := a) (by simp)), V2.row p (r := g.toNat) (by rw [Int.toNat_of_nonneg g0]; rfl), hl⟩
  · rw [if_neg z]
    exact ⟨_, _, l, es_if_f (er_cmp (er_var rfl) (er_lit rfl) (c_str_f (by dsimp only; decide))) (es_nx (es_if_f (in_sums rfl (by dsimp only; decide)) (es_nx (es_if_f (er_cmp (er_var rfl) (er_lit rfl) (c_str_f (by dsimp only; decide))) (es_nx (es_if_f (er_cmp (er_var rfl) (er_lit rfl) (c_str_f (by dsimp only; decide))) (es_nx (es_if_f (in_two rfl (by dsimp only; decide)) (es_nx (es_if_f (er_cmp (er_var rfl) (er_lit rfl) (c_str_f (by dsimp only; decide)))
        (es_nx (es_if_f (er_and_t (er_cmp (er_var rfl) (er_lit rfl) (c_str_t rfl)) (er_cmp (er_idx (er_var rfl) (er_idx (er_var rfl) (er_lit rfl) (i_tup (atN (n := 1) rfl))) (i_lst (l_lst V2.w) ra)) (er_lit rfl) (c_eq_f z))) es_skip) es_skip)) es_skip)) es_skip)) es_skip)) es_skip)) es_skip),
      Kp.push.trans Kp.push, V.push.push, hl⟩
end
end Tm

set_option Elab.async false
set_option linter.all false
set_option maxRecDepth 100000
set_option maxHeartbeats 8000000
namespace Tm
open PySem L2
local macro_rules | `(tactic| walk_at "sm") => `(tactic| first | assumption | (unfold Sm; first | omega | decide))
local macro_rules | `(tactic| walk_at "in") => `(tactic| first | assumption | omega | decide)
local macro_rules | `(tactic| walk_at "lst") => `(tactic| first | assumption | exact l_last | exact l_lst (by assumption) | exact l_ro (by assumption) | exact l_lst (set_get (by assumption)))
local macro_rules | `(tactic| walk_at "op") => `(tactic| first
  | with_reducible exact o_add
  | with_reducible exact o_sub
  | ((with_reducible refine' o_addT ?h); (case h => first | assumption | exact Nat.le_of_ble_eq_true rfl))
  | with_reducible exact o_band
  | with_reducible exact o_bxor
  | with_reducible exact o_band
  | with_reducible exact o_bxor
  | ((with_reducible refine' o_mod ?h); (case h => walk_at "in"))
  | ((with_reducible refine' o_div ?h ?g); (case h => walk_at "in"); (case g => walk_at "sm"))
  | ((with_reducible refine' o_mul ?h ?g); (case h => walk_at "sm"); (case g => walk_at "sm"))
  | ((with_reducible refine' o_pow ?h ?g); (case h => walk_at "in"); (case g => decide)))
local macro_rules | `(tactic| walk_at "cmp") => `(tactic| first
  | with_reducible assumption
  | with_reducible exact c_isN
  | with_reducible exact c_isnN
  | with_reducible exact c_isT
  | with_reducible exact c_isnT
  | with_reducible exact c_isB
  | ((with_reducible refine' c_eq_t ?h); (case h => walk_at "in"))
  | ((with_reducible refine' c_lt_t ?h); (case h => walk_at "in"))
  | ((with_reducible refine' c_gt_t ?h); (case h => walk_at "in"))
  | ((with_reducible refine' c_ne_t ?h); (case h => walk_at "in"))
  | ((with_reducible refine' c_le_t ?h); (case h => walk_at "in"))
  | ((with_reducible refine' c_ge_t ?h); (case h => walk_at "in"))
  | ((with_reducible refine' c_eq_f ?h); (case h => walk_at "in"))
  | ((with_reducible refine' c_lt_f ?h); (case h => walk_at "in"))
  | ((with_reducible refine' c_gt_f ?h); (case h => walk_at "in"))
  | ((with_reducible refine' c_ne_f ?h); (case h => walk_at "in"))
  | ((with_reducible refine' c_le_f ?h); (case h => walk_at "in"))
  | ((with_reducible refine' c_ge_f ?h); (case h => walk_at "in"))
  | ((with_reducible refine' c_str_t ?h); (case h => with_reducible exact rfl))
  | ((with_reducible refine' c_str_f ?h); (case h => first | assumption | decide))
  | ((with_reducible refine' c_strn_f ?h); (case h => with_reducible exact rfl))
  | ((with_reducible refine' c_strn_t ?h); (case h => first | assumption | decide))
  | ((with_reducible refine' c_in (t := true) ?h ?g ?f ?e); (case h => walk_at "lst"); (case g => exact rfl); (case f => exact rfl); (case e => first | assumption | decide))
  | ((with_reducible refine' c_in (t := false) ?h ?g ?f ?e); (case h => walk_at "lst"); (case g => exact rfl); (case f => exact rfl); (case e => first | assumption | decide))
  | ((with_reducible refine' c_inT (t := true) ?g ?f ?e); (case g => exact rfl); (case f => exact rfl); (case e => first | assumption | decide))
  | ((with_reducible refine' c_inT (t := false) ?g ?f ?e); (case g => exact rfl); (case f => exact rfl); (case e => first | assumption | decide))
  | ((with_reducible refine' c_ninT (t := true) ?g ?f ?e); (case g => exact rfl); (case f => exact rfl); (case e => first | assumption | decide))
  | ((with_reducible refine' c_ninT (t := false) ?g ?f ?e); (case g => exact rfl); (case f => exact rfl); (case e => first | assumption | decide))
  | ((with_reducible refine' c_nin (t := true) ?h ?g ?f ?e); (case h => walk_at "lst"); (case g => exact rfl); (case f => exact rfl); (case e => first | assumption | decide))
  | ((with_reducible refine' c_nin (t := false) ?h ?g ?f ?e); (case h => walk_at "lst"); (case g => exact rfl); (case f => exact rfl); (case e => first | assumption | decide)))
local macro_rules | `(tactic| walk_at "bi") => `(tactic| first | with_reducible assumption | ((with_reducible refine' b_tupL ?h); (case h => walk_at "lst")) | with_reducible exact b_int | with_reducible exact b_bool | with_reducible exact b_abs | with_reducible exact b_max | with_reducible exact b_min | with_reducible exact b_lenT | ((with_reducible refine' b_lenL ?h); (case h => walk_at "lst")) | with_reducible apply_assumption)
local macro_rules | `(tactic| walk_at "pick") => `(tactic| first | with_reducible exact pk1 | with_reducible exact pk2 | with_reducible exact pk3 | with_reducible exact pk4 | with_reducible exact pk5 | with_reducible exact pn1 | with_reducible exact pn2 | with_reducible exact pn3)
local macro_rules | `(tactic| walk_at "call") => `(tactic| first | with_reducible assumption | with_reducible apply_assumption)
local macro_rules | `(tactic| walk_at "ev") => `(tactic| first
  | (with_reducible assumption)
  | ((with_reducible refine' er_env ?he ?h); (case h => with_reducible assumption); (case he => exact rfl))
  | (with_reducible exact er_nil)
  | ((with_reducible refine' er_glob ?h); (case h => assumption))
  | ((with_reducible refine' er_lit ?h); (case h => exact rfl))
  | ((with_reducible refine' er_var ?h); (case h => exact rfl))
  | ((with_reducible refine' er_cons ?h1 ?h2); (case h1 => walk_at "ev"); (case h2 => walk_at "ev"))
  | ((with_reducible refine' er_tup ?h1 ?h2); (case h1 => walk_at "ev"); (case h2 => exact Nat.le_of_ble_eq_true rfl))
  | ((with_reducible refine' er_lst ?h1 ?h2); (case h1 => walk_at "ev"); (case h2 => exact Nat.le_of_ble_eq_true rfl))
  | ((with_reducible refine' er_neg ?h1); (case h1 => walk_at "ev"))
  | ((with_reducible refine' er_isty ?h1 ?h2); (case h1 => walk_at "ev"); (case h2 => first | exact rfl | exact ty_ref (by walk_at "lst")))
  | ((with_reducible refine' er_chain_t ?h1 ?h2 ?h3 ?h4 ?h5); (case h1 => walk_at "ev"); (case h2 => walk_at "ev"); (case h3 => walk_at "cmp"); (case h4 => walk_at "ev"); (case h5 => walk_at "cmp"))
  | ((with_reducible refine' er_slc_to ?h1 ?h2 ?h3 ?h4); (case h1 => walk_at "ev"); (case h2 => exact rfl); (case h3 => walk_at "ev"); (case h4 => first | assumption | omega))
  | ((with_reducible refine' er_slc_from ?h1 ?h2 ?h3 ?h4); (case h1 => walk_at "ev"); (case h2 => exact rfl); (case h3 => walk_at "ev"); (case h4 => first | assumption | omega))
  | ((with_reducible refine' er_app ?h1 ?h2 ?h3); (case h1 => walk_at "ev"); (case h2 => walk_at "ev"); (case h3 => exact push_at (by assumption) (by assumption)))
  | ((with_reducible refine' er_callv ?h1 ?h2 ?h3 ?h4); (case h1 => walk_at "ev"); (case h2 => walk_at "ev"); (case h3 => assumption); (case h4 => walk_at "call"))
  | ((with_reducible refine' er_bin ?h1 ?h2 ?h3); (case h1 => walk_at "ev"); (case h2 => walk_at "ev"); (case h3 => walk_at "op"))
  | ((with_reducible refine' er_idx ?h1 ?h2 ?h3); (case h1 => walk_at "ev"); (case h2 => walk_at "ev"); (case h3 => first | exact i_tup (by first | assumption | rfl) | exact i_lst (by walk_at "lst") (by first | assumption | rfl)))
  | ((with_reducible refine' er_call ?h1 ?h2 ?h3 ?h4); (case h1 => walk_at "ev"); (case h2 => walk_at "ev"); (case h3 => walk_at "pick"); (case h4 => walk_at "call"))
  | ((with_reducible refine' er_bi ?h1 ?h2); (case h1 => walk_at "ev"); (case h2 => walk_at "bi"))
  | ((with_reducible refine' er_cmp ?h1 ?h2 ?h3); (case h1 => walk_at "ev"); (case h2 => walk_at "ev"); (case h3 => walk_at "cmp"))
  | ((with_reducible refine' er_nots ?h1 ?h2); (case h1 => walk_at "ev"); (case h2 => first | exact Neg.t | exact Neg.f))
  | ((with_reducible refine' er_ors ?h1 ?h2); (case h1 => walk_at "ev"); (case h2 => first | exact ors_t | ((with_reducible refine' ors_f ?h3); (case h3 => walk_at "ev"))))
  | ((with_reducible refine' er_ands ?h1 ?h2); (case h1 => walk_at "ev"); (case h2 => first | exact ands_f | ((with_reducible refine' ands_t ?h3); (case h3 => walk_at "ev"))))
  | ((with_reducible refine' er_br ?h1 ?h2); (case h1 => walk_at "ev"); (case h2 => first | ((with_reducible refine' bre_t ?h3); (case h3 => walk_at "ev")) | ((with_reducible refine' bre_f ?h3); (case h3 => walk_at "ev")))))
local macro_rules | `(tactic| walk_at "ex") => `(tactic| first
  | ((with_reducible refine' es_skip2 ?h1 ?h2); (case h1 => exact rfl); (case h2 => exact rfl))
  | ((with_reducible refine' es_sq ?h1 ?h2); (case h1 => walk_at "ex"); (case h2 => first | exact nxt_rt | exact nxt_bk | exact nxt_ct | ((with_reducible refine' nxt_nx ?h3); (case h3 => walk_at "ex"))))
  | ((with_reducible refine' es_ret ?h1); (case h1 => walk_at "ev"))
  | ((with_reducible refine' es_asg ?h1 ?h2); (case h1 => walk_at "ev"); (case h2 => exact rfl))
  | ((with_reducible refine' es_seti ?h1 ?h2 ?h3 ?h4); (case h1 => walk_at "ev"); (case h2 => walk_at "ev"); (case h3 => walk_at "ev"); (case h4 => exact s_set (by first | assumption | exact set_get (by assumption)) rfl))
  | ((with_reducible refine' es_drop ?h1); (case h1 => walk_at "ev"))
  | ((with_reducible refine' es_br ?h1 ?h2); (case h1 => walk_at "ev"); (case h2 => first | ((with_reducible refine' brs_t ?h3); (case h3 => walk_at "ex")) | ((with_reducible refine' brs_f ?h3); (case h3 => walk_at "ex")))))


section
variable {q : Pr} (Q : HK q) {W : Nat}
include Q
theorem fin_two {k : Nat} {Z : List Nat} {v0 v1 v2 : D} {a w l M : Nat} {nm : Str} {t : Bool} {r b cc v g : Int} {c : Cr} {m : List Int} {y : Int} (hd : dIns ⟨nm, r, b, cc, v, g⟩ = .tup [.str nm, .int r, .int b, .int cc, .int v])
    (n1 : ([D.str "load", .str "store"].any fun z => scEq z (.str nm)) = false) (n2 : ([D.str "swap", .str "addto"].any fun z => scEq z (.str nm)) = true) (n3 : ([D.str "add", .str "sub", .str "and", .str "xor", .str "below"].any fun z => scEq z (.str nm)) = false)
    (m1 : ¬ nm = "set") (m2 : ¬ nm = "store") (m3 : ¬ nm = "load") (ht : ∀ S, cmpop .eq (.str nm) (.str "addto") S = some t) (hy : (rg c.regs b + rg m ((rg c.regs cc + v) % m.length) * (if t then 1 else 0)) % 65536 = y)
    (p : Apart a w l M) (h8 : c.regs.length = 8) (r0 : 0 ≤ r) (r1 : r < 8) (b0 : 0 ≤ b) (b1 : b < 8) (c0 : 0 ≤ cc) (c1 : cc < 8) (hm : 0 < m.length) (hw : ∀ x ∈ m, Wd x) :
    Fin86 q W k Z v0 v1 v2 a w l M ⟨nm, r, b, cc, v, g⟩ c m ⟨c.row, c.regs.set r.toNat (rg m ((rg c.regs cc + v) % m.length)), c.late⟩ (m.set ((rg c.regs cc + v) % m.length).toNat y) := by
  intro S V hlZ hZ
  have rb := rg_at (l := c.regs) b0 (by omega)
  have rc := rg_at (l := c.regs) c0 (by omega)
  have cell0 := Int.emod_nonneg (rg c.regs cc + v) (show (m.length : Int) ≠ 0 by omega)
  have cell1 := Int.emod_lt_of_pos (rg c.regs cc + v) (show 0 < (m.length : Int) by omega)
  have rm := rg_at (l := m) cell0 (by omega)
  have wm : Wd (rg m ((rg c.regs cc + v) % m.length)) := rg_wd hw
  have V1 := V.push (o := .lst [.str "load", .str "store"])
  have V2 := V1.push (o := .lst [.str "swap", .str "addto"])
  have V3 := V2.push (o := .lst [.str "add", .str "sub", .str "and", .str "xor", .str "below"])
  have V4 := V3.push (o := .lst [.str "swap", .str "addto"])
  have V5 := V4.mem p (m' := m.set ((rg c.regs cc + v) % m.length).toNat y) (xs := (m.map D.int).set ((rg c.regs cc + v) % m.length).toNat (.int y)) (by rw [List.map_set])
  rw [hd]
  have hs : setS (.ref M) (.int ((rg c.regs cc + v) % m.length)) (.int y) ((((S ++ [O.lst [.str "load", .str "store"]]) ++ [.lst [.str "swap", .str "addto"]]) ++ [.lst [.str "add", .str "sub", .str "and", .str "xor", .str "below"]]) ++ [.lst [.str "swap", .str "addto"]]) = some _ := s_set V4.M (ixn_pos cell0 (by simp; omega))
  have smt : Sm (if t = true then (1 : Int) else 0) := by cases t <;> (unfold Sm; decide)
  have hx : ∀ e : Env', e[9]? = some (some (.int (rg m ((rg c.regs cc + v) % m.length)))) → e[10]? = some (some (.int (rg c.regs b))) → e[7]? = some (some (.str nm)) → ∀ S, ev (pm q W k) (.bin .mod (.bi .int (.cons (.bin .add (.var 10) (.bin .mul (.var 9) (.bi .int (.cons (.cmp .eq (.var 7) (.lit (.str "addto"))) .nil)))) .nil)) (.lit (.int 65536))) e S = some (.int y, S) := fun e h9 h10 h7 S => by
    rw [← hy]
    exact er_bin (er_bi (er_cons (er_bin (er_var h10) (er_bin (er_var h9) (er_bi (er_cons (er_cmp (er_var h7) (er_lit rfl) (ht S)) er_nil) b_bool) (o_mul (sm_wd wm) smt)) o_add) er_nil) b_int) (er_lit rfl) (o_mod (by decide))
  exact ⟨_, _, l, es_nx (es_if_f (in_two rfl n1) es_skip) (es_nx (es_if_t (in_two rfl n2) (es_nx (es_asg (er_bin (er_bi (er_cons (er_bin (er_idx (er_var rfl) (er_idx (er_var rfl) (er_lit rfl) (i_tup (atN (n := 3) rfl))) (i_lst (l_lst V2.w) rc)) (er_idx (er_var rfl) (er_lit rfl) (i_tup (atN (n := 4) rfl))) o_add) er_nil) b_int) (er_bi (er_cons (er_var rfl) er_nil) (len_lst V2.M)) (o_mod (by omega))) rfl) es_skip))
      (es_nx (es_if_f (er_cmp (er_var rfl) (er_lit rfl) (c_str_f m1)) (es_nx (es_if_f (in_sums rfl n3) (es_nx (es_if_f (er_cmp (er_var rfl) (er_lit rfl) (c_str_f m2)) (es_nx (es_if_f (er_cmp (er_var rfl) (er_lit rfl) (c_str_f m3)) (es_nx (es_if_t (in_two rfl n2)
        (es_nx (es_asg (er_tup (er_cons (er_idx (er_var rfl) (er_var rfl) (i_lst (l_lst V4.M) rm)) (er_cons (er_idx (er_var rfl) (er_idx (er_var rfl) (er_lit rfl) (i_tup (atN (n := 2) rfl))) (i_lst (l_lst V4.w) rb)) er_nil)) (Nat.le_of_ble_eq_true rfl)) rfl)
          (es_nx (es_seti (hx _ rfl rfl rfl _) (er_var rfl) (er_var rfl) hs) (es_nx (es_seti (er_var rfl) (er_var rfl) (er_idx (er_var rfl) (er_lit rfl) (i_tup (atN (n := 1) rfl))) (s_set V5.w (ixn_pos r0 (by simp; omega)))) es_skip)))) es_skip)) es_skip)) es_skip)) es_skip)) es_skip)),
    ((((Kp.push.trans Kp.push).trans Kp.push).trans Kp.push).trans (Kp.setIn (x := M) (by simp))).trans (Kp.setIn (x := w) (by simp)), V5.reg p (by rw [List.map_set]), hlZ⟩
theorem ldo_p (k : Nat) {Z : List Nat} {S : Store} {o L M : Nat} {as : List (Nat × Nat)} {s : Sd} {t : Nat} {bk : List (List Ins)} {j : Nat} {rs : List Ins} {c : Cr} {i : Ins} (h : Own Z S o L M as s) (hZ : ∀ x ∈ Z, x < S.length) (ht : t ≤ 1000)
    (ok : OkS bk t s) (h1 : bk[j]? = some rs) (h2 : s.cs[j]? = some c) (hi : rs[c.row]? = some i) (hs : ¬ i.nm = "stop") (iok : i.ok rs.length) :
    ∃ S', run q W (k + 3) 86 [dBk bk, .ref o, .int j] S = some (.non, S') ∧ Own Z S' o L M as ⟨s.cs.set j (doI i c s.mem).1, (doI i c s.mem).2⟩ ∧ Kp (FP M as) S S' := by
  obtain ⟨p, l, hp, V, ap, lZ⟩ := h.view h2
  have okc := ok.cs _ (zip_get h1 h2)
  have hj : j < s.cs.length := (List.getElem?_eq_some_iff.mp h2).1
  have a1 := lat_p Q (W := W) (k + 1) h h1 h2 okc.row
  have ar : atR rs c.row = dIns i := by unfold atR; rw [hi]; simp only [if_neg hs]
  rw [ar] at a1
  have V1 := V.row ap (r := c.row + 1) (xs := [.int ((c.row : Int) + 1), .ref p.2, .ref l]) rfl
  have hZ1 : ∀ x ∈ Z, x < (S.set p.1 (.lst [.int ((c.row : Int) + 1), .ref p.2, .ref l])).length := fun x hx => by rw [List.length_set]; exact hZ x hx
  have fin : ∀ (c' : Cr) (m' : List Int), Fin86 q W (k + 2) Z (dBk bk) (.ref o) (.int j) p.1 p.2 l M i ⟨c.row + 1, c.regs, c.late⟩ s.mem c' m' → doI i c s.mem = (c', m') →
      ∃ S', run q W (k + 3) 86 [dBk bk, .ref o, .int j] S = some (.non, S') ∧ Own Z S' o L M as ⟨s.cs.set j (doI i c s.mem).1, (doI i c s.mem).2⟩ ∧ Kp (FP M as) S S' := by
    intro c' m' F e
    obtain ⟨e', S', l', f1, f2, f3, f4⟩ := F _ V1 lZ hZ1
    have K : Kp [p.1, p.2, M] S S' := (Kp.setIn (x := p.1) (by simp)).trans f2
    obtain ⟨m1, m2⟩ := fp_mem (M := M) hp
    have mM : M ∈ FP M as := by simp [FP]
    refine ⟨S', ?_, by rw [e]; exact h.upd hp hj K f3 f4, K.more fun x hx => ?_⟩
    · refine' run_nx Q (e0 := [some _, some _, some _, none, none, none, none, none, none, none, none, none, none]) Q.f86 rfl rfl ?h
      case h =>
        rw [b86_eq]
        refine' es_nx (es_asg (er_tup (er_cons (er_idx (er_idx (er_var rfl) (er_lit rfl) (i_lst (l_lst h.ho) (atN (n := 0) rfl))) (er_var rfl) (i_lst (l_lst h.hL) (map_at hp))) (er_cons (er_idx (er_var rfl) (er_lit rfl) (i_lst (l_lst h.ho) (atN (n := 1) rfl))) (er_cons (er_call (er_cons (er_var rfl) (er_cons (er_var rfl) (er_cons (er_var rfl) er_nil))) er_nil rfl a1) er_nil))) (Nat.le_of_ble_eq_true rfl)) rfl) ?_
        refine' es_nx (es_asg (er_tup (er_cons (er_idx (er_var rfl) (er_lit rfl) (i_lst (l_lst V.a) (atN (n := 1) rfl))) (er_cons (er_idx (er_var rfl) (er_lit rfl) (i_tup (nm_at (nm := i.nm)))) (er_cons (er_lit rfl) er_nil))) (Nat.le_of_ble_eq_true rfl)) rfl) ?_
        refine' es_nx (es_seti (er_bin (er_idx (er_var rfl) (er_lit rfl) (i_lst (l_lst V.a) (atN (n := 0) rfl))) (er_lit rfl) o_add) (er_var rfl) (er_lit rfl) (s_set V.a (j := 0) rfl)) ?_
        exact f1
    · simp only [List.mem_cons, List.not_mem_nil, or_false] at hx
      rcases hx with rfl | rfl | rfl
      · exact m1
      · exact m2
      · exact mM
  obtain ⟨hnm, a0, a1', b0, b1, c0, c1, w0, w1, g0, g1⟩ := iok
  have m0 := ok.mem.l0
  have m1 := ok.mem.l1
  have mw := ok.mem.wds
  have h8 := okc.len
  have hl := okc.ll
  obtain ⟨row, regs, late⟩ := c
  obtain ⟨nm, a, b, cc, w, g⟩ := i
  simp only at hnm a0 a1' b0 b1 c0 c1 w0 w1 g0 g1 h8 hs hl
  have sw : ∀ x, Wd (rg regs x) := fun x => rg_wd okc.wds
  simp only [nms, List.mem_cons, List.not_mem_nil, or_false] at hnm
  rcases hnm with rfl | rfl | rfl | rfl | rfl | rfl | rfl | rfl | rfl | rfl | rfl | rfl | rfl | rfl | rfl
  · exact fin _ _ (fin_set Q ap h8 a0 a1') rfl
  · exact fin _ _ (fin_sum Q (nm := "add") (by decide) ap h8 a0 a1' b0 b1 c0 c1) rfl
  · exact fin _ _ (fin_sum Q (nm := "sub") (by decide) ap h8 a0 a1' b0 b1 c0 c1) rfl
  · exact fin _ _ (fin_sum Q (nm := "and") (by decide) ap h8 a0 a1' b0 b1 c0 c1) rfl
  · exact fin _ _ (fin_sum Q (nm := "xor") (by decide) ap h8 a0 a1' b0 b1 c0 c1) rfl
  · exact fin _ _ (fin_sum Q (nm := "below") (by decide) ap h8 a0 a1' b0 b1 c0 c1) rfl
  · exact fin _ _ (fin_load Q ap h8 a0 a1' b0 b1 (by omega) (by show late.length ≤ 1000; omega)) rfl
  · exact fin _ _ (fin_store Q ap h8 a0 a1' b0 b1 (by omega) (by show late.length ≤ 1000; omega)) rfl
  · refine fin _ _ (fin_two Q (nm := "swap") (t := false) (y := rg regs b) rfl (by decide) (by decide) (by decide) (by decide) (by decide) (by decide) (fun S => c_str_f (by decide)) ?_ ap h8 a0 a1' b0 b1 c0 c1 (by omega) mw) rfl
    have := sw b
    show (rg regs b + _ * 0) % 65536 = rg regs b
    have h1 := this.1
    have h2 := this.2
    omega
  · refine fin _ _ (fin_two Q (nm := "addto") (t := true) (y := (rg s.mem ((rg regs cc + w) % s.mem.length) + rg regs b) % 65536) rfl (by decide) (by decide) (by decide) (by decide) (by decide) (by decide) (fun S => c_str_t rfl) ?_ ap h8 a0 a1' b0 b1 c0 c1 (by omega) mw) rfl
    show (rg regs b + rg s.mem ((rg regs cc + w) % s.mem.length) * 1) % 65536 = _
    omega
  · exact fin _ _ (fin_none Q (by decide) (by decide) (by decide) (by decide) (by decide) (by decide) (by decide) (by decide)) rfl
  · exact fin _ _ (fin_ifz Q ap h8 a0 a1' g0) rfl
  · exact fin _ _ (fin_jump Q ap g0) rfl
  · exact fin _ _ (fin_none Q (by decide) (by decide) (by decide) (by decide) (by decide) (by decide) (by decide) (by decide)) rfl
  · exact absurd rfl hs
end
end Tm

set_option Elab.async false
set_option linter.all false
set_option maxRecDepth 100000
set_option maxHeartbeats 8000000
namespace Tm
open PySem L2
local macro_rules | `(tactic| walk_at "sm") => `(tactic| first | assumption | (unfold Sm; first | omega | decide))
local macro_rules | `(tactic| walk_at "in") => `(tactic| first | assumption | omega | decide)
local macro_rules | `(tactic| walk_at "lst") => `(tactic| first | assumption | exact l_last | exact l_lst (by assumption) | exact l_ro (by assumption) | exact l_lst (set_get (by assumption)))
local macro_rules | `(tactic| walk_at "op") => `(tactic| first
  | with_reducible exact o_add
  | with_reducible exact o_sub
  | ((with_reducible refine' o_addT ?h); (case h => first | assumption | exact Nat.le_of_ble_eq_true rfl))
  | with_reducible exact o_band
  | with_reducible exact o_bxor
  | with_reducible exact o_band
  | with_reducible exact o_bxor
  | ((with_reducible refine' o_mod ?h); (case h => walk_at "in"))
  | ((with_reducible refine' o_div ?h ?g); (case h => walk_at "in"); (case g => walk_at "sm"))
  | ((with_reducible refine' o_mul ?h ?g); (case h => walk_at "sm"); (case g => walk_at "sm"))
  | ((with_reducible refine' o_pow ?h ?g); (case h => walk_at "in"); (case g => decide)))
local macro_rules | `(tactic| walk_at "cmp") => `(tactic| first
  | with_reducible assumption
  | with_reducible exact c_isN
  | with_reducible exact c_isnN
  | with_reducible exact c_isT
  | with_reducible exact c_isnT
  | with_reducible exact c_isB
  | ((with_reducible refine' c_eq_t ?h); (case h => walk_at "in"))
  | ((with_reducible refine' c_lt_t ?h); (case h => walk_at "in"))
  | ((with_reducible refine' c_gt_t ?h); (case h => walk_at "in"))
  | ((with_reducible refine' c_ne_t ?h); (case h => walk_at "in"))
  | ((with_reducible refine' c_le_t ?h); (case h => walk_at "in"))
  | ((with_reducible refine' c_ge_t ?h); (case h => walk_at "in"))
  | ((with_reducible refine' c_eq_f ?h); (case h => walk_at "in"))
  | ((with_reducible refine' c_lt_f ?h); (case h => walk_at "in"))
  | ((with_reducible refine' c_gt_f ?h); (case h => walk_at "in"))
  | ((with_reducible refine' c_ne_f ?h); (case h => walk_at "in"))
  | ((with_reducible refine' c_le_f ?h); (case h => walk_at "in"))
  | ((with_reducible refine' c_ge_f ?h); (case h => walk_at "in"))
  | ((with_reducible refine' c_str_t ?h); (case h => with_reducible exact rfl))
  | ((with_reducible refine' c_str_f ?h); (case h => first | assumption | decide))
  | ((with_reducible refine' c_strn_f ?h); (case h => with_reducible exact rfl))
  | ((with_reducible refine' c_strn_t ?h); (case h => first | assumption | decide))
  | ((with_reducible refine' c_in (t := true) ?h ?g ?f ?e); (case h => walk_at "lst"); (case g => exact rfl); (case f => exact rfl); (case e => first | assumption | decide))
  | ((with_reducible refine' c_in (t := false) ?h ?g ?f ?e); (case h => walk_at "lst"); (case g => exact rfl); (case f => exact rfl); (case e => first | assumption | decide))
  | ((with_reducible refine' c_inT (t := true) ?g ?f ?e); (case g => exact rfl); (case f => exact rfl); (case e => first | assumption | decide))
  | ((with_reducible refine' c_inT (t := false) ?g ?f ?e); (case g => exact rfl); (case f => exact rfl); (case e => first | assumption | decide))
  | ((with_reducible refine' c_ninT (t := true) ?g ?f ?e); (case g => exact rfl); (case f => exact rfl); (case e => first | assumption | decide))
  | ((with_reducible refine' c_ninT (t := false) ?g ?f ?e); (case g => exact rfl); (case f => exact rfl); (case e => first | assumption | decide))
  | ((with_reducible refine' c_nin (t := true) ?h ?g ?f ?e); (case h => walk_at "lst"); (case g => exact rfl); (case f => exact rfl); (case e => first | assumption | decide))
  | ((with_reducible refine' c_nin (t := false) ?h ?g ?f ?e); (case h => walk_at "lst"); (case g => exact rfl); (case f => exact rfl); (case e => first | assumption | decide)))
local macro_rules | `(tactic| walk_at "bi") => `(tactic| first | with_reducible assumption | ((with_reducible refine' b_tupL ?h); (case h => walk_at "lst")) | with_reducible exact b_int | with_reducible exact b_bool | with_reducible exact b_abs | with_reducible exact b_max | with_reducible exact b_min | with_reducible exact b_lenT | ((with_reducible refine' b_lenL ?h); (case h => walk_at "lst")) | with_reducible apply_assumption)
local macro_rules | `(tactic| walk_at "pick") => `(tactic| first | with_reducible exact pk1 | with_reducible exact pk2 | with_reducible exact pk3 | with_reducible exact pk4 | with_reducible exact pk5 | with_reducible exact pn1 | with_reducible exact pn2 | with_reducible exact pn3)
local macro_rules | `(tactic| walk_at "call") => `(tactic| first | with_reducible assumption | with_reducible apply_assumption)
local macro_rules | `(tactic| walk_at "ev") => `(tactic| first
  | (with_reducible assumption)
  | ((with_reducible refine' er_env ?he ?h); (case h => with_reducible assumption); (case he => exact rfl))
  | (with_reducible exact er_nil)
  | ((with_reducible refine' er_glob ?h); (case h => assumption))
  | ((with_reducible refine' er_lit ?h); (case h => exact rfl))
  | ((with_reducible refine' er_var ?h); (case h => exact rfl))
  | ((with_reducible refine' er_cons ?h1 ?h2); (case h1 => walk_at "ev"); (case h2 => walk_at "ev"))
  | ((with_reducible refine' er_tup ?h1 ?h2); (case h1 => walk_at "ev"); (case h2 => exact Nat.le_of_ble_eq_true rfl))
  | ((with_reducible refine' er_lst ?h1 ?h2); (case h1 => walk_at "ev"); (case h2 => exact Nat.le_of_ble_eq_true rfl))
  | ((with_reducible refine' er_neg ?h1); (case h1 => walk_at "ev"))
  | ((with_reducible refine' er_isty ?h1 ?h2); (case h1 => walk_at "ev"); (case h2 => first | exact rfl | exact ty_ref (by walk_at "lst")))
  | ((with_reducible refine' er_chain_t ?h1 ?h2 ?h3 ?h4 ?h5); (case h1 => walk_at "ev"); (case h2 => walk_at "ev"); (case h3 => walk_at "cmp"); (case h4 => walk_at "ev"); (case h5 => walk_at "cmp"))
  | ((with_reducible refine' er_slc_to ?h1 ?h2 ?h3 ?h4); (case h1 => walk_at "ev"); (case h2 => exact rfl); (case h3 => walk_at "ev"); (case h4 => first | assumption | omega))
  | ((with_reducible refine' er_slc_from ?h1 ?h2 ?h3 ?h4); (case h1 => walk_at "ev"); (case h2 => exact rfl); (case h3 => walk_at "ev"); (case h4 => first | assumption | omega))
  | ((with_reducible refine' er_app ?h1 ?h2 ?h3); (case h1 => walk_at "ev"); (case h2 => walk_at "ev"); (case h3 => exact push_at (by assumption) (by assumption)))
  | ((with_reducible refine' er_callv ?h1 ?h2 ?h3 ?h4); (case h1 => walk_at "ev"); (case h2 => walk_at "ev"); (case h3 => assumption); (case h4 => walk_at "call"))
  | ((with_reducible refine' er_bin ?h1 ?h2 ?h3); (case h1 => walk_at "ev"); (case h2 => walk_at "ev"); (case h3 => walk_at "op"))
  | ((with_reducible refine' er_idx ?h1 ?h2 ?h3); (case h1 => walk_at "ev"); (case h2 => walk_at "ev"); (case h3 => first | exact i_tup (by first | assumption | rfl) | exact i_lst (by walk_at "lst") (by first | assumption | rfl)))
  | ((with_reducible refine' er_call ?h1 ?h2 ?h3 ?h4); (case h1 => walk_at "ev"); (case h2 => walk_at "ev"); (case h3 => walk_at "pick"); (case h4 => walk_at "call"))
  | ((with_reducible refine' er_bi ?h1 ?h2); (case h1 => walk_at "ev"); (case h2 => walk_at "bi"))
  | ((with_reducible refine' er_cmp ?h1 ?h2 ?h3); (case h1 => walk_at "ev"); (case h2 => walk_at "ev"); (case h3 => walk_at "cmp"))
  | ((with_reducible refine' er_nots ?h1 ?h2); (case h1 => walk_at "ev"); (case h2 => first | exact Neg.t | exact Neg.f))
  | ((with_reducible refine' er_ors ?h1 ?h2); (case h1 => walk_at "ev"); (case h2 => first | exact ors_t | ((with_reducible refine' ors_f ?h3); (case h3 => walk_at "ev"))))
  | ((with_reducible refine' er_ands ?h1 ?h2); (case h1 => walk_at "ev"); (case h2 => first | exact ands_f | ((with_reducible refine' ands_t ?h3); (case h3 => walk_at "ev"))))
  | ((with_reducible refine' er_br ?h1 ?h2); (case h1 => walk_at "ev"); (case h2 => first | ((with_reducible refine' bre_t ?h3); (case h3 => walk_at "ev")) | ((with_reducible refine' bre_f ?h3); (case h3 => walk_at "ev")))))
local macro_rules | `(tactic| walk_at "ex") => `(tactic| first
  | ((with_reducible refine' es_skip2 ?h1 ?h2); (case h1 => exact rfl); (case h2 => exact rfl))
  | ((with_reducible refine' es_sq ?h1 ?h2); (case h1 => walk_at "ex"); (case h2 => first | exact nxt_rt | exact nxt_bk | exact nxt_ct | ((with_reducible refine' nxt_nx ?h3); (case h3 => walk_at "ex"))))
  | ((with_reducible refine' es_ret ?h1); (case h1 => walk_at "ev"))
  | ((with_reducible refine' es_asg ?h1 ?h2); (case h1 => walk_at "ev"); (case h2 => exact rfl))
  | ((with_reducible refine' es_seti ?h1 ?h2 ?h3 ?h4); (case h1 => walk_at "ev"); (case h2 => walk_at "ev"); (case h3 => walk_at "ev"); (case h4 => exact s_set (by first | assumption | exact set_get (by assumption)) rfl))
  | ((with_reducible refine' es_drop ?h1); (case h1 => walk_at "ev"))
  | ((with_reducible refine' es_br ?h1 ?h2); (case h1 => walk_at "ev"); (case h2 => first | ((with_reducible refine' brs_t ?h3); (case h3 => walk_at "ex")) | ((with_reducible refine' brs_f ?h3); (case h3 => walk_at "ex")))))


theorem er_slcL_from {q : Pr} {W k : Nat} {e : Env'} {S S1 S2 : Store} {a b : C} {n : Nat} {xs : List D} {i : Int} (h1 : ev (pm q W k) a e S = some (.ref n, S1)) (hb : isAbs b = false) (h2 : ev (pm q W k) b e S1 = some (.int i, S2)) (hn : listAt S2 n = some xs) (hi : 0 ≤ i) :
    ev (pm q W k) (.slc a b .absent) e S = some (.ref S2.length, S2 ++ [.lst (xs.drop i.toNat)]) := by
  have ha : isAbs C.absent = true := rfl
  simp only [ev, h1, Option.bind_some, part, ha, if_true, hb, Bool.false_eq_true, if_false, h2, slcop, hn, Option.map_some, new, cut_from xs hi]
section
variable {q : Pr} (Q : HK q) {W : Nat}
include Q
theorem lfl_p (k : Nat) {Z : List Nat} {S : Store} {o L M : Nat} {as : List (Nat × Nat)} {s : Sd} {j : Nat} {c : Cr} {pr : Int × Int} {r : List (Int × Int)} (h : Own Z S o L M as s) (hZ : ∀ x ∈ Z, x < S.length)
    (h2 : s.cs[j]? = some c) (hc : c.late = pr :: r) (p0 : 0 ≤ pr.1) (p1 : pr.1.toNat < s.mem.length) :
    ∃ S', run q W (k + 1) 87 [.ref o, .int j] S = some (.non, S') ∧ Own Z S' o L M as ⟨s.cs.set j ⟨c.row, c.regs, r⟩, s.mem.set pr.1.toNat pr.2⟩ ∧ Kp (FP M as) S S' := by
  obtain ⟨p, l, hp, V, ap, lZ⟩ := h.view h2
  have hj : j < s.cs.length := (List.getElem?_eq_some_iff.mp h2).1
  have lt := V.lt
  have Vl := V.l
  rw [hc] at Vl
  have V1 := V.push (o := .lst (((pr :: r).map dPr).drop ((1 : Int).toNat)))
  have g1 := g_last (S := S) (o := .lst (((pr :: r).map dPr).drop ((1 : Int).toNat)))
  have ap' : Apart p.1 p.2 S.length M := ⟨ap.aw, by omega, ap.aM, by omega, ap.wM, by omega⟩
  have V2 := V1.late ap ap' (lt := r) g1 (xs := [.int c.row, .ref p.2, .ref S.length]) rfl
  have V3 := V2.mem ap' (m' := s.mem.set pr.1.toNat pr.2) (xs := (s.mem.map D.int).set pr.1.toNat (.int pr.2)) (by rw [List.map_set])
  have K : Kp [p.1, p.2, M] S _ := (Kp.push (S := S) (o := .lst (((pr :: r).map dPr).drop ((1 : Int).toNat)))).trans ((Kp.setIn (x := p.1) (o := .lst [.int c.row, .ref p.2, .ref S.length]) (by simp)).trans (Kp.setIn (x := M) (o := .lst ((s.mem.map D.int).set pr.1.toNat (.int pr.2))) (by simp)))
  have hs : setS (.ref M) (.int pr.1) (.int pr.2) ((S ++ [O.lst (((pr :: r).map dPr).drop ((1 : Int).toNat))]).set p.1 (.lst [.int c.row, .ref p.2, .ref S.length])) = some _ := s_set V2.M (ixn_pos p0 (by simpa using p1))
  obtain ⟨m1, m2⟩ := fp_mem (M := M) hp
  have mM : M ∈ FP M as := by simp [FP]
  refine ⟨_, ?_, h.upd hp hj K V3 (fun z => by have := hZ _ z; omega), K.more fun x hx => ?_⟩
  · refine' run_nx Q (e0 := [some _, some _, none, none, none, none]) Q.f87 rfl rfl ?h
    case h =>
      unfold b_87
      refine' es_nx (es_asg (er_tup (er_cons (er_idx (er_idx (er_var rfl) (er_lit rfl) (i_lst (l_lst h.ho) (atN (n := 0) rfl))) (er_var rfl) (i_lst (l_lst h.hL) (map_at hp))) (er_cons (er_idx (er_var rfl) (er_lit rfl) (i_lst (l_lst h.ho) (atN (n := 1) rfl))) er_nil)) (Nat.le_of_ble_eq_true rfl)) rfl) ?_
      refine' es_nx (es_asg (er_idx (er_idx (er_var rfl) (er_lit rfl) (i_lst (l_lst V.a) (atN (n := 2) rfl))) (er_lit rfl) (i_lst (l_lst Vl) (show atI ((pr :: r).map dPr) 0 = some (dPr pr) from atN (n := 0) rfl))) rfl) ?_
      refine' es_nx (es_seti (er_slcL_from (er_idx (er_var rfl) (er_lit rfl) (i_lst (l_lst V.a) (atN (n := 2) rfl))) rfl (er_lit rfl) (l_lst Vl) (show (0 : Int) ≤ 1 by decide)) (er_var rfl) (er_lit rfl) (s_set V1.a (j := 2) rfl)) ?_
      exact es_nx (es_seti (er_var rfl) (er_var rfl) (er_var rfl) hs) es_skip
  · simp only [List.mem_cons, List.not_mem_nil, or_false] at hx
    rcases hx with rfl | rfl | rfl
    · exact m1
    · exact m2
    · exact mM
theorem lstep_p (k : Nat) {Z : List Nat} {S : Store} {o L M : Nat} {as : List (Nat × Nat)} {s : Sd} {t : Nat} {bk : List (List Ins)} {p : Bool × Nat} (h : Own Z S o L M as s) (hZ : ∀ x ∈ Z, x < S.length) (ht : t ≤ 1000) (hB : OkB bk)
    (ok : OkS bk t s) (hp : p ∈ lets bk s) : ∃ S', run q W (k + 4) 88 [dBk bk, .ref o, dSt p] S = some (.non, S') ∧ Own Z S' o L M as (aft bk s p) ∧ Kp (FP M as) S S' := by
  obtain ⟨rs, c, h1, h2, h3⟩ := mem_lets hp
  have okc := ok.cs _ (zip_get h1 h2)
  obtain ⟨b, j⟩ := p
  simp only at h1 h2 h3 okc
  cases b
  · have h3' : canFl c = true := by simpa using h3
    have j0 : ev (pm q W (k + 3)) (.idx (.var 2) (.lit (.int 0))) [some (dBk bk), some (.ref o), some (dSt (false, j))] S = some (.str "flush", S) := er_idx (er_var rfl) (er_lit rfl) (i_tup (atN (n := 0) rfl))
    have j1 : ev (pm q W (k + 3)) (.idx (.var 2) (.lit (.int 1))) [some (dBk bk), some (.ref o), some (dSt (false, j))] S = some (.int j, S) := er_idx (er_var rfl) (er_lit rfl) (i_tup (atN (n := 1) rfl))
    cases hc : c.late with
    | nil => unfold canFl at h3'; rw [hc] at h3'; cases h3'
    | cons pr r =>
      have e : aft bk s (false, j) = ⟨s.cs.set j ⟨c.row, c.regs, r⟩, s.mem.set pr.1.toNat pr.2⟩ := by
        show aftFl s j = _
        unfold aftFl; rw [h2]; simp only [hc]
      rw [e]
      have lp := okc.lt pr (by rw [hc]; exact List.mem_cons_self)
      obtain ⟨S', a1, a2, a3⟩ := lfl_p Q (W := W) (k + 2) h hZ h2 hc lp.1 (by omega)
      refine ⟨S', ?_, a2, a3⟩
      refine' run_nx Q (e0 := [some _, some _, some _]) Q.f88 rfl rfl ?h
      case h =>
        unfold b_88
        exact es_nx (es_if_f (er_cmp j0 (er_lit rfl) (c_str_f (by decide))) (es_nx (es_drop (er_call (er_cons (er_var rfl) (er_cons j1 er_nil)) er_nil rfl a1)) es_skip)) es_skip
  · have h3' : canDo rs c = true := by simpa using h3
    obtain ⟨i, hi, hs, _⟩ := canDo_at h3'
    have iok := (hB.rs rs (List.mem_of_getElem? h1)).2 i (List.mem_of_getElem? hi)
    have j0 : ev (pm q W (k + 3)) (.idx (.var 2) (.lit (.int 0))) [some (dBk bk), some (.ref o), some (dSt (true, j))] S = some (.str "do", S) := er_idx (er_var rfl) (er_lit rfl) (i_tup (atN (n := 0) rfl))
    have j1 : ev (pm q W (k + 3)) (.idx (.var 2) (.lit (.int 1))) [some (dBk bk), some (.ref o), some (dSt (true, j))] S = some (.int j, S) := er_idx (er_var rfl) (er_lit rfl) (i_tup (atN (n := 1) rfl))
    have e : aft bk s (true, j) = ⟨s.cs.set j (doI i c s.mem).1, (doI i c s.mem).2⟩ := by
      show aftDo bk s j = _
      unfold aftDo; rw [h1, h2]; simp only [hi]
    rw [e]
    obtain ⟨S', a1, a2, a3⟩ := ldo_p Q (W := W) k h hZ ht ok h1 h2 hi hs iok
    refine ⟨S', ?_, a2, a3⟩
    refine' run_nx Q (e0 := [some _, some _, some _]) Q.f88 rfl rfl ?h
    case h =>
      unfold b_88
      exact es_nx (es_if_t (er_cmp j0 (er_lit rfl) (c_str_t rfl)) (es_nx (es_drop (er_call (er_cons (er_var rfl) (er_cons (er_var rfl) (er_cons j1 er_nil))) er_nil rfl a1)) es_skip)) es_skip
theorem ltold_p (k : Nat) {Z : List Nat} {S : Store} {o L M : Nat} {as : List (Nat × Nat)} {s : Sd} (h : Own Z S o L M as s) (hl : s.cs.length ≤ 4) : ∃ S', run q W (k + 1) 89 [.ref o] S = some (dSd s, S') ∧ Kp [] S S' := by
  have e1 : (as.zip s.cs).map (fun x => D.ref x.1.1) = as.map fun p => .ref p.1 := by
    rw [show (fun x : (Nat × Nat) × Cr => D.ref x.1.1) = (fun p : Nat × Nat => D.ref p.1) ∘ Prod.fst from rfl, ← List.map_map, List.map_fst_zip (by rw [h.hn]; exact Nat.le_refl _)]
  have e2 : (as.zip s.cs).map (fun x => dCr x.2) = s.cs.map dCr := by
    rw [show (fun x : (Nat × Nat) × Cr => dCr x.2) = dCr ∘ Prod.snd from rfl, ← List.map_map, List.map_snd_zip (by rw [h.hn]; exact Nat.le_refl _)]
  obtain ⟨S', c1, c2, c3⟩ := er_lcG (q := q) (W := W) (k := k) (i := .itv (.idx (.var 0) (.lit (.int 0)))) (a := .tup (.cons (.var 1) (.cons (.bi .tuple (.cons (.var 2) .nil)) (.cons (.bi .tuple (.cons (.var 3) .nil)) .nil)))) (t := .tp 3 (.cons (.nm 1) (.cons (.nm 2) (.cons (.nm 3) .nil)))) (own := [1, 2, 3]) (e := [some (.ref o), none, none, none]) (S := S) (S1 := S) (ds := as.zip s.cs) (cks := [.tup [.ref L, .tup (as.map fun p => .ref p.1)]])
    (fun x => D.ref x.1.1) (fun x => dCr x.2) (by rw [e1]; exact itv_lst (er_idx (er_var rfl) (er_lit rfl) (i_lst (l_lst h.ho) (atN (n := 0) rfl))) (l_lst h.hL)) (fun S' hS => chk_lst (l_lst h.hL) hS)
    (by rw [List.length_zip]; exact Nat.le_trans (Nat.min_le_right _ _) (Nat.le_trans hl (by decide))) (fun x hx S1 hS => by
      obtain ⟨j, hj⟩ := List.mem_iff_getElem?.mp hx
      rw [List.getElem?_zip_eq_some] at hj
      obtain ⟨l, g1, g2, g3, g4⟩ := h.hc j _ _ hj.1 hj.2
      have g1 := hS _ _ (by simp) g1
      have g2 := hS _ _ (by simp) g2
      have g3 := hS _ _ (by simp) g3
      refine ⟨[some (.ref o), some (.int x.2.row), some (.ref x.1.2), some (.ref l)], S1, ?_, ?_, Kp.refl _ _⟩
      · show (listAt S1 x.1.1).bind _ = _
        rw [l_lst g1]; rfl
      · exact er_tup (ds := [.int x.2.row, .tup (x.2.regs.map .int), .tup (x.2.late.map dPr)]) (er_cons (er_var rfl) (er_cons (er_bi (er_cons (er_var rfl) er_nil) (b_tupL (l_lst g2))) (er_cons (er_bi (er_cons (er_var rfl) er_nil) (b_tupL (l_lst g3))) er_nil))) (Nat.le_of_ble_eq_true rfl))
  rw [e2] at c3
  have ho := c2 _ _ (by simp) h.ho
  have hM := c2 _ _ (by simp) h.hM
  refine ⟨S', ?_, c2⟩
  refine' run_rt (e0 := [some _, none, none, none]) Q.f89 rfl rfl ?h
  case h =>
    unfold b_89
    exact es_rt (es_ret (er_tup (ds := [.tup (s.cs.map dCr), .tup (s.mem.map .int)]) (er_cons (er_bi (er_cons c1 er_nil) (b_tupL (l_lst c3))) (er_cons (er_bi (er_cons (er_idx (er_var rfl) (er_lit rfl) (i_lst (l_lst ho) (atN (n := 1) rfl))) er_nil) (b_tupL (l_lst hM))) er_nil)) (Nat.le_of_ble_eq_true rfl)))
theorem like_p (k : Nat) (S : Store) {d : D} (h : Nice d) : run q W (k + 1) 12 [d, d] S = some (.bl true, S) := by
  obtain ⟨z, hz⟩ := h.rp
  have he := h.eq S
  refine' run_rt (e0 := [some _, some _]) Q.f12 rfl rfl ?h
  case h =>
    unfold b_12
    exact es_rt (es_ret (er_and_t (er_cmp (er_var rfl) (er_var rfl) he) (er_cmp (er_bi (er_cons (er_var rfl) er_nil) (hz S)) (er_bi (er_cons (er_var rfl) er_nil) (hz S)) (c_str_t rfl))))
theorem likeL_p (k : Nat) (S : Store) {bk : List (List Ins)} {s : Sd} {m n : Nat} (hb : bk.length ≤ 4) (hm : listAt S m = some ((lets bk s).map dSt)) (hn : listAt S n = some ((lets bk s).map dSt)) : run q W (k + 1) 12 [.ref m, .ref n] S = some (.bl true, S) := by
  have hl := lets_le bk s
  obtain ⟨he, z, z1, z2⟩ := eq_lists hm hn (dp := 1) (w := 102) (fun d hd => by
    obtain ⟨p, hp, rfl⟩ := List.mem_map.mp hd
    obtain ⟨rs, c, h1, h2, h3⟩ := mem_lets hp
    exact nw_st (by have := (List.getElem?_eq_some_iff.mp h1).1; omega)) (by decide) (by simp; omega)
  refine' run_rt (e0 := [some _, some _]) Q.f12 rfl rfl ?h
  case h =>
    unfold b_12
    exact es_rt (es_ret (er_and_t (er_cmp (er_var rfl) (er_var rfl) he) (er_cmp (er_bi (er_cons (er_var rfl) er_nil) z1) (er_bi (er_cons (er_var rfl) er_nil) z2) (c_str_t rfl))))
theorem tells_p (k : Nat) (S : Store) (b : Bool) : run q W (k + 1) 30 [.bl b, .bl b] S = some (.bl true, S) := by
  cases b
  · refine' run_rt (e0 := [some _, some _]) Q.f30 rfl rfl ?h
    case h => unfold b_30; exact es_nx (es_if_f (er_var rfl) es_skip) (es_rt (es_ret (er_cmp (er_var rfl) (er_lit rfl) rfl)))
  · refine' run_rt (e0 := [some _, some _]) Q.f30 rfl rfl ?h
    case h => unfold b_30; exact es_rt (es_if_t (er_var rfl) (es_rt (es_ret (er_cmp (er_var rfl) (er_lit rfl) rfl))))
end
end Tm

set_option Elab.async false
set_option linter.all false
set_option maxRecDepth 100000
set_option maxHeartbeats 8000000
namespace Tm
open PySem L2
local macro_rules | `(tactic| walk_at "sm") => `(tactic| first | assumption | (unfold Sm; first | omega | decide))
local macro_rules | `(tactic| walk_at "in") => `(tactic| first | assumption | omega | decide)
local macro_rules | `(tactic| walk_at "lst") => `(tactic| first | assumption | exact l_last | exact l_lst (by assumption) | exact l_ro (by assumption) | exact l_lst (set_get (by assumption)))
local macro_rules | `(tactic| walk_at "op") => `(tactic| first
  | with_reducible exact o_add
  | with_reducible exact o_sub
  | ((with_reducible refine' o_addT ?h); (case h => first | assumption | exact Nat.le_of_ble_eq_true rfl))
  | with_reducible exact o_band
  | with_reducible exact o_bxor
  | with_reducible exact o_band
  | with_reducible exact o_bxor
  | ((with_reducible refine' o_mod ?h); (case h => walk_at "in"))
  | ((with_reducible refine' o_div ?h ?g); (case h => walk_at "in"); (case g => walk_at "sm"))
  | ((with_reducible refine' o_mul ?h ?g); (case h => walk_at "sm"); (case g => walk_at "sm"))
  | ((with_reducible refine' o_pow ?h ?g); (case h => walk_at "in"); (case g => decide)))
local macro_rules | `(tactic| walk_at "cmp") => `(tactic| first
  | with_reducible assumption
  | with_reducible exact c_isN
  | with_reducible exact c_isnN
  | with_reducible exact c_isT
  | with_reducible exact c_isnT
  | with_reducible exact c_isB
  | ((with_reducible refine' c_eq_t ?h); (case h => walk_at "in"))
  | ((with_reducible refine' c_lt_t ?h); (case h => walk_at "in"))
  | ((with_reducible refine' c_gt_t ?h); (case h => walk_at "in"))
  | ((with_reducible refine' c_ne_t ?h); (case h => walk_at "in"))
  | ((with_reducible refine' c_le_t ?h); (case h => walk_at "in"))
  | ((with_reducible refine' c_ge_t ?h); (case h => walk_at "in"))
  | ((with_reducible refine' c_eq_f ?h); (case h => walk_at "in"))
  | ((with_reducible refine' c_lt_f ?h); (case h => walk_at "in"))
  | ((with_reducible refine' c_gt_f ?h); (case h => walk_at "in"))
  | ((with_reducible refine' c_ne_f ?h); (case h => walk_at "in"))
  | ((with_reducible refine' c_le_f ?h); (case h => walk_at "in"))
  | ((with_reducible refine' c_ge_f ?h); (case h => walk_at "in"))
  | ((with_reducible refine' c_str_t ?h); (case h => with_reducible exact rfl))
  | ((with_reducible refine' c_str_f ?h); (case h => first | assumption | decide))
  | ((with_reducible refine' c_strn_f ?h); (case h => with_reducible exact rfl))
  | ((with_reducible refine' c_strn_t ?h); (case h => first | assumption | decide))
  | ((with_reducible refine' c_in (t := true) ?h ?g ?f ?e); (case h => walk_at "lst"); (case g => exact rfl); (case f => exact rfl); (case e => first | assumption | decide))
  | ((with_reducible refine' c_in (t := false) ?h ?g ?f ?e); (case h => walk_at "lst"); (case g => exact rfl); (case f => exact rfl); (case e => first | assumption | decide))
  | ((with_reducible refine' c_inT (t := true) ?g ?f ?e); (case g => exact rfl); (case f => exact rfl); (case e => first | assumption | decide))
  | ((with_reducible refine' c_inT (t := false) ?g ?f ?e); (case g => exact rfl); (case f => exact rfl); (case e => first | assumption | decide))
  | ((with_reducible refine' c_ninT (t := true) ?g ?f ?e); (case g => exact rfl); (case f => exact rfl); (case e => first | assumption | decide))
  | ((with_reducible refine' c_ninT (t := false) ?g ?f ?e); (case g => exact rfl); (case f => exact rfl); (case e => first | assumption | decide))
  | ((with_reducible refine' c_nin (t := true) ?h ?g ?f ?e); (case h => walk_at "lst"); (case g => exact rfl); (case f => exact rfl); (case e => first | assumption | decide))
  | ((with_reducible refine' c_nin (t := false) ?h ?g ?f ?e); (case h => walk_at "lst"); (case g => exact rfl); (case f => exact rfl); (case e => first | assumption | decide)))
local macro_rules | `(tactic| walk_at "bi") => `(tactic| first | with_reducible assumption | ((with_reducible refine' b_tupL ?h); (case h => walk_at "lst")) | with_reducible exact b_int | with_reducible exact b_bool | with_reducible exact b_abs | with_reducible exact b_max | with_reducible exact b_min | with_reducible exact b_lenT | ((with_reducible refine' b_lenL ?h); (case h => walk_at "lst")) | with_reducible apply_assumption)
local macro_rules | `(tactic| walk_at "pick") => `(tactic| first | with_reducible exact pk1 | with_reducible exact pk2 | with_reducible exact pk3 | with_reducible exact pk4 | with_reducible exact pk5 | with_reducible exact pn1 | with_reducible exact pn2 | with_reducible exact pn3)
local macro_rules | `(tactic| walk_at "call") => `(tactic| first | with_reducible assumption | with_reducible apply_assumption)
local macro_rules | `(tactic| walk_at "ev") => `(tactic| first
  | (with_reducible assumption)
  | ((with_reducible refine' er_env ?he ?h); (case h => with_reducible assumption); (case he => exact rfl))
  | (with_reducible exact er_nil)
  | ((with_reducible refine' er_glob ?h); (case h => assumption))
  | ((with_reducible refine' er_lit ?h); (case h => exact rfl))
  | ((with_reducible refine' er_var ?h); (case h => exact rfl))
  | ((with_reducible refine' er_cons ?h1 ?h2); (case h1 => walk_at "ev"); (case h2 => walk_at "ev"))
  | ((with_reducible refine' er_tup ?h1 ?h2); (case h1 => walk_at "ev"); (case h2 => exact Nat.le_of_ble_eq_true rfl))
  | ((with_reducible refine' er_lst ?h1 ?h2); (case h1 => walk_at "ev"); (case h2 => exact Nat.le_of_ble_eq_true rfl))
  | ((with_reducible refine' er_neg ?h1); (case h1 => walk_at "ev"))
  | ((with_reducible refine' er_isty ?h1 ?h2); (case h1 => walk_at "ev"); (case h2 => first | exact rfl | exact ty_ref (by walk_at "lst")))
  | ((with_reducible refine' er_chain_t ?h1 ?h2 ?h3 ?h4 ?h5); (case h1 => walk_at "ev"); (case h2 => walk_at "ev"); (case h3 => walk_at "cmp"); (case h4 => walk_at "ev"); (case h5 => walk_at "cmp"))
  | ((with_reducible refine' er_slc_to ?h1 ?h2 ?h3 ?h4); (case h1 => walk_at "ev"); (case h2 => exact rfl); (case h3 => walk_at "ev"); (case h4 => first | assumption | omega))
  | ((with_reducible refine' er_slc_from ?h1 ?h2 ?h3 ?h4); (case h1 => walk_at "ev"); (case h2 => exact rfl); (case h3 => walk_at "ev"); (case h4 => first | assumption | omega))
  | ((with_reducible refine' er_app ?h1 ?h2 ?h3); (case h1 => walk_at "ev"); (case h2 => walk_at "ev"); (case h3 => exact push_at (by assumption) (by assumption)))
  | ((with_reducible refine' er_callv ?h1 ?h2 ?h3 ?h4); (case h1 => walk_at "ev"); (case h2 => walk_at "ev"); (case h3 => assumption); (case h4 => walk_at "call"))
  | ((with_reducible refine' er_bin ?h1 ?h2 ?h3); (case h1 => walk_at "ev"); (case h2 => walk_at "ev"); (case h3 => walk_at "op"))
  | ((with_reducible refine' er_idx ?h1 ?h2 ?h3); (case h1 => walk_at "ev"); (case h2 => walk_at "ev"); (case h3 => first | exact i_tup (by first | assumption | rfl) | exact i_lst (by walk_at "lst") (by first | assumption | rfl)))
  | ((with_reducible refine' er_call ?h1 ?h2 ?h3 ?h4); (case h1 => walk_at "ev"); (case h2 => walk_at "ev"); (case h3 => walk_at "pick"); (case h4 => walk_at "call"))
  | ((with_reducible refine' er_bi ?h1 ?h2); (case h1 => walk_at "ev"); (case h2 => walk_at "bi"))
  | ((with_reducible refine' er_cmp ?h1 ?h2 ?h3); (case h1 => walk_at "ev"); (case h2 => walk_at "ev"); (case h3 => walk_at "cmp"))
  | ((with_reducible refine' er_nots ?h1 ?h2); (case h1 => walk_at "ev"); (case h2 => first | exact Neg.t | exact Neg.f))
  | ((with_reducible refine' er_ors ?h1 ?h2); (case h1 => walk_at "ev"); (case h2 => first | exact ors_t | ((with_reducible refine' ors_f ?h3); (case h3 => walk_at "ev"))))
  | ((with_reducible refine' er_ands ?h1 ?h2); (case h1 => walk_at "ev"); (case h2 => first | exact ands_f | ((with_reducible refine' ands_t ?h3); (case h3 => walk_at "ev"))))
  | ((with_reducible refine' er_br ?h1 ?h2); (case h1 => walk_at "ev"); (case h2 => first | ((with_reducible refine' bre_t ?h3); (case h3 => walk_at "ev")) | ((with_reducible refine' bre_f ?h3); (case h3 => walk_at "ev")))))
local macro_rules | `(tactic| walk_at "ex") => `(tactic| first
  | ((with_reducible refine' es_skip2 ?h1 ?h2); (case h1 => exact rfl); (case h2 => exact rfl))
  | ((with_reducible refine' es_sq ?h1 ?h2); (case h1 => walk_at "ex"); (case h2 => first | exact nxt_rt | exact nxt_bk | exact nxt_ct | ((with_reducible refine' nxt_nx ?h3); (case h3 => walk_at "ex"))))
  | ((with_reducible refine' es_ret ?h1); (case h1 => walk_at "ev"))
  | ((with_reducible refine' es_asg ?h1 ?h2); (case h1 => walk_at "ev"); (case h2 => exact rfl))
  | ((with_reducible refine' es_seti ?h1 ?h2 ?h3 ?h4); (case h1 => walk_at "ev"); (case h2 => walk_at "ev"); (case h3 => walk_at "ev"); (case h4 => exact s_set (by first | assumption | exact set_get (by assumption)) rfl))
  | ((with_reducible refine' es_drop ?h1); (case h1 => walk_at "ev"))
  | ((with_reducible refine' es_br ?h1 ?h2); (case h1 => walk_at "ev"); (case h2 => first | ((with_reducible refine' brs_t ?h3); (case h3 => walk_at "ex")) | ((with_reducible refine' brs_f ?h3); (case h3 => walk_at "ex")))))


theorem Kp.set_newA {A : List Nat} {S0 S : Store} {n : Nat} {o : O} (h : Kp A S0 S) (hn : S0.length ≤ n) : Kp A S0 (S.set n o) := fun i u x e => by
  have := (List.getElem?_eq_some_iff.mp e).1
  rw [List.getElem?_set_ne (by omega)]
  exact h i u x e
theorem Spr.setN {S : Store} {a n : Nat} {c : Int} {o : O} (h : Spr S a c) (hn : n ≠ a) : Spr (S.set n o) a c := h.kp (A := [n]) Kp.set (by simp; exact fun z => hn z.symm)
/-- a comprehension whose items draw -/
theorem lcD {α β : Type} {cnd elt : Env' → Store → Option (D × Store)} {t : Tg} {w : Env'} {cks : List D} {n a : Nat} {S0 : Store} (N B : Int) (h : α → D) (enc : β → D) (R : α → β → Prop) (hck : ∀ S, Kp [a] S0 S → chks S cks = true) (hn : S0.length ≤ n) (ha : a < S0.length) :
    ∀ (l : List α) (acc : List D) (S : Store) (c : Int),
    (∀ x ∈ l, ∀ S c, Spr S a c → c + N ≤ B → Kp [a] S0 S → ∃ e1 b S2, bindT t (h x) S w = some e1 ∧ cnd e1 S = some (.bl true, S) ∧ elt e1 S = some (enc b, S2) ∧ R x b ∧ Spr S2 a (c + N) ∧ Kp [a] S S2) →
    Spr S a c → 0 ≤ N → c + N * (l.length : Int) ≤ B → S[n]? = some (.lst acc) → Kp [a] S0 S → acc.length + l.length ≤ sizeLine →
    ∃ bs S', lcL cnd elt t cks w n (l.map h) S = some S' ∧ bs.length = l.length ∧ (∀ p ∈ l.zip bs, R p.1 p.2) ∧ S'[n]? = some (.lst (acc ++ bs.map enc)) ∧ Spr S' a (c + N * (l.length : Int)) ∧ Kp [a] S0 S' := by
  intro l
  induction l with
  | nil => intro acc S c _ h1 hN h2 h3 h4 _; exact ⟨[], S, by simp only [List.map_nil, lcL, hck S h4, if_true], rfl, (by intro p hp; simp at hp), by simpa using h3, by simpa using h1, h4⟩
  | cons x l ih =>
    intro acc S c hs h1 hN h2 h3 h4 h5
    have hm : N * ((x :: l).length : Int) = N + N * (l.length : Int) := by rw [List.length_cons]; push_cast; rw [Int.mul_add, Int.mul_one]; omega
    rw [hm] at h2 ⊢
    have hNl : 0 ≤ N * (l.length : Int) := Int.mul_nonneg hN (by omega)
    obtain ⟨e1, b, S2, g1, g2, g3, g4, g5, g6⟩ := hs x List.mem_cons_self S c h1 (by omega) h4
    have hna : n ≠ a := by omega
    have h3' := g6 n _ (by simp; exact hna) h3
    simp only [List.length_cons] at h5
    obtain ⟨bs, S', k1, k2, k3, k4, k5, k6⟩ := ih (acc ++ [enc b]) (S2.set n (.lst (acc ++ [enc b]))) (c + N) (fun y hy => hs y (List.mem_cons_of_mem _ hy)) (g5.setN hna) hN (by omega) (set_get h3') ((h4.trans g6).set_newA hn) (by simp; omega)
    refine ⟨b :: bs, S', ?_, by simp [k2], ?_, by rw [k4]; simp, by rw [← Int.add_assoc]; exact k5, k6⟩
    · simp only [List.map_cons, lcL, hck S h4, if_true, g1, g2, g3, Option.bind_some, push_at h3' (show acc.length < sizeLine by omega)]; exact k1
    · intro p hp
      rw [List.zip_cons_cons] at hp
      rcases List.mem_cons.mp hp with rfl | hp
      · exact g4
      · exact k3 p hp
theorem er_lcD {α β : Type} {q : Pr} {W k : Nat} {i el : C} {t : Tg} {own : List Nat} {e : Env'} {S S1 : Store} {l : List α} {cks : List D} {a : Nat} {c : Int} (N B : Int) (h : α → D) (enc : β → D) (R : α → β → Prop) (h1 : ev (pm q W k) i e S = some (itD (l.map h) cks, S1)) (hck : ∀ S, Kp [a] S1 S → chks S cks = true)
    (step : ∀ x ∈ l, ∀ S c, Spr S a c → c + N ≤ B → Kp [a] S1 S → ∃ e1 b S2, bindT t (h x) S (wipeE e own) = some e1 ∧ ev (pm q W k) el e1 S = some (enc b, S2) ∧ R x b ∧ Spr S2 a (c + N) ∧ Kp [a] S S2)
    (hs : Spr S1 a c) (hN : 0 ≤ N) (hB : c + N * (l.length : Int) ≤ B) (hl : l.length ≤ sizeLine) :
    ∃ bs S', ev (pm q W k) (.lc i t (.lit (.bl true)) el own) e S = some (.ref S1.length, S') ∧ bs.length = l.length ∧ (∀ p ∈ l.zip bs, R p.1 p.2) ∧ S'[S1.length]? = some (.lst (bs.map enc)) ∧ Spr S' a (c + N * (l.length : Int)) ∧ Kp [a] S1 S' := by
  obtain ⟨bs, S', k1, k2, k3, k4, k5, k6⟩ := lcD (cnd := ev (pm q W k) (.lit (.bl true))) (elt := ev (pm q W k) el) (t := t) (w := wipeE e own) (n := S1.length) (S0 := S1) N B h enc R hck (Nat.le_refl _) hs.lt l [] (S1 ++ [.lst []]) c
    (fun x hx S c h1 h2 h3 => by obtain ⟨e1, b, S2, g1, g2, g3⟩ := step x hx S c h1 h2 h3; exact ⟨e1, b, S2, g1, er_lit rfl, g2, g3⟩) hs.push hN hB g_last Kp.push (by simpa using hl)
  exact ⟨bs, S', er_lc h1 k1, k2, k3, by simpa using k4, k5, k6⟩
/-- a loop that appends what it draws -/
theorem forD {α β : Type} {bod : Env' → Store → Option (Fl × Env' × Store)} {t : Tg} {n a : Nat} {S0 : Store} (N B : Int) (h : α → D) (enc : β → D) (R : α → β → Prop) (P : Env' → Prop) (hn : S0.length ≤ n) (ha : a < S0.length) :
    ∀ (l : List α) (acc : List D) (e : Env') (S : Store) (c : Int),
    (∀ x ∈ l, ∀ e S c acc, P e → Spr S a c → c + N ≤ B → Kp [a] S0 S → S[n]? = some (.lst acc) → acc.length < sizeLine → ∃ e1 e2 b S2, bindT t (h x) S e = some e1 ∧ bod e1 S = some (.nx, e2, S2) ∧ P e2 ∧ R x b ∧ S2[n]? = some (.lst (acc ++ [enc b])) ∧ Spr S2 a (c + N) ∧ Kp [a] S0 S2) →
    P e → Spr S a c → 0 ≤ N → c + N * (l.length : Int) ≤ B → S[n]? = some (.lst acc) → Kp [a] S0 S → acc.length + l.length ≤ sizeLine →
    ∃ bs e' S', forL bod t [] (l.map h) e S = some (.nx, e', S') ∧ P e' ∧ bs.length = l.length ∧ (∀ p ∈ l.zip bs, R p.1 p.2) ∧ S'[n]? = some (.lst (acc ++ bs.map enc)) ∧ Spr S' a (c + N * (l.length : Int)) ∧ Kp [a] S0 S' := by
  intro l
  induction l with
  | nil => intro acc e S c _ h0 h1 hN h2 h3 h4 _; exact ⟨[], e, S, forL_nil rfl, h0, rfl, (by intro p hp; simp at hp), by simpa using h3, by simpa using h1, h4⟩
  | cons x l ih =>
    intro acc e S c hs h0 h1 hN h2 h3 h4 h5
    have hm : N * ((x :: l).length : Int) = N + N * (l.length : Int) := by rw [List.length_cons]; push_cast; rw [Int.mul_add, Int.mul_one]; omega
    rw [hm] at h2 ⊢
    have hNl : 0 ≤ N * (l.length : Int) := Int.mul_nonneg hN (by omega)
    simp only [List.length_cons] at h5
    obtain ⟨e1, e2, b, S2, g1, g2, g3, g4, g5, g6, g7⟩ := hs x List.mem_cons_self e S c acc h0 h1 (by omega) h4 h3 (by omega)
    obtain ⟨bs, e', S', k1, k2, k3, k4, k5, k6, k7⟩ := ih (acc ++ [enc b]) e2 S2 (c + N) (fun y hy => hs y (List.mem_cons_of_mem _ hy)) g3 g6 hN (by omega) g5 g7 (by simp; omega)
    refine ⟨b :: bs, e', S', forL_nx rfl g1 g2 k1, k2, by simp [k3], ?_, by rw [k5]; simp, by rw [← Int.add_assoc]; exact k6, k7⟩
    intro p hp
    rw [List.zip_cons_cons] at hp
    rcases List.mem_cons.mp hp with rfl | hp
    · exact g4
    · exact k4 p hp
theorem ne_nil {dp w m n : Nat} {S : Store} {ds : List D} (hm : listAt S m = some ds) (hn : listAt S n = some []) (h : ∀ d ∈ ds, NW dp w d) (h1 : dp < 64) (h2 : (w + 1) * ds.length ≤ 2 ^ 20) : cmpop .ne (.ref m) (.ref n) S = some (!ds.isEmpty) := by
  have := eq_nil hm hn h h1 h2
  show (eqD S (.ref m) (.ref n)).map (!·) = _
  rw [show eqD S (.ref m) (.ref n) = some ds.isEmpty from this]; rfl
theorem int_at {l : List D} {r : Int} (h0 : 0 ≤ r) (h1 : r < l.length) : ∃ d, atI l r = some d ∧ d ∈ l := by
  have hl : r.toNat < l.length := by omega
  exact ⟨l[r.toNat], at_pos h0 (List.getElem?_eq_getElem hl), List.getElem_mem hl⟩
theorem nw_lets {bk : List (List Ins)} {s : Sd} (hb : bk.length ≤ 4) : ∀ d ∈ (lets bk s).map dSt, NW 1 102 d := fun d hd => by
  obtain ⟨p, hp, rfl⟩ := List.mem_map.mp hd
  obtain ⟨rs, c, h1, h2, h3⟩ := mem_lets hp
  exact nw_st (by have := (List.getElem?_eq_some_iff.mp h1).1; omega)
section
variable {q : Pr} (Q : HK q) {W : Nat}
include Q
theorem chosen_p (k : Nat) {S : Store} {a n : Nat} {c : Int} {bk : List (List Ins)} {s : Sd} {late : Bool} (hs : Spr S a c) (hc : c < 10 ^ 11) (hb : bk.length ≤ 4) (hn : listAt S n = some ((lets bk s).map dSt)) (hna : n ≠ a) (hne : (lets bk s) ≠ []) :
    ∃ p S', p ∈ lets bk s ∧ run q W (k + 2) 91 [.ref a, .ref n, .bl late] S = some (dSt p, S') ∧ Spr S' a (c + 1) ∧ Kp [a] S S' := by
  have hl := lets_le bk s
  have keepL : ∀ {S' : Store}, Kp [] S S' → listAt S' n = some ((lets bk s).map dSt) := fun k => k.at hn
  obtain ⟨S1, c1, c2, c3⟩ := er_lcF (q := q) (W := W) (k := k + 1) (i := .itv (.var 1)) (b := .cmp .eq (.idx (.var 4) (.lit (.int 0))) (.lit (.str "do"))) (a := .var 4) (t := .nm 4) (own := [4]) (e := [some (.ref a), some (.ref n), some (.bl late), none, none]) (S := S) (ds := lets bk s) dSt (fun p => if p.1 then some (dSt p) else none)
    (itv_lst (er_var rfl) hn) (fun S' hS => chk_lst hn hS) (Nat.le_trans hl (by rw [sizeLine_eq]; omega)) (fun p hp S' hS => by
      refine ⟨[some (.ref a), some (.ref n), some (.bl late), none, some (dSt p)], rfl, ?_⟩
      obtain ⟨b, j⟩ := p
      have i0 : ev (pm q W (k + 1)) (.idx (.var 4) (.lit (.int 0))) [some (.ref a), some (.ref n), some (.bl late), none, some (dSt (b, j))] S' = some (.str (if b then "do" else "flush"), S') := er_idx (er_var rfl) (er_lit rfl) (i_tup (atN (n := 0) rfl))
      cases b
      · exact .inl ⟨rfl, er_cmp i0 (er_lit rfl) (c_str_f (by decide))⟩
      · exact .inr ⟨_, S', rfl, er_cmp i0 (er_lit rfl) (c_str_t rfl), er_var rfl, Kp.refl _ _⟩)
  have fm : ∀ d ∈ (lets bk s).filterMap (fun p => if p.1 then some (dSt p) else none), ∃ p ∈ lets bk s, d = dSt p := fun d hd => by
    obtain ⟨p, hp, e⟩ := List.mem_filterMap.mp hd
    split at e
    · cases e; exact ⟨p, hp, rfl⟩
    · cases e
  have fl : ((lets bk s).filterMap (fun p => if p.1 then some (dSt p) else none)).length ≤ 8 := Nat.le_trans (List.length_filterMap_le _ _) (by omega)
  have key : ∀ (m : Nat) (ds : List D) (S1 : Store), Kp [] S S1 → listAt S1 m = some ds → m ≠ a → (∀ d ∈ ds, ∃ p ∈ lets bk s, d = dSt p) → 0 < ds.length → ds.length ≤ 8 → ∀ (e : Env') (i : Nat), e[0]? = some (some (.ref a)) → e[i]? = some (some (.ref m)) →
      ∃ p S', p ∈ lets bk s ∧ ev (pm q W (k + 1)) (.idx (.var i) (.call 5 [0, 1] (.cons (.var 0) (.cons (.bi .len (.cons (.var i) .nil)) .nil)) .nil)) e S1 = some (dSt p, S') ∧ Spr S' a (c + 1) ∧ Kp [a] S S' := by
    intro m ds S1 kS hm hma hd h0 h8 e i e0 ei
    obtain ⟨r, S2, p1, p2, p3, p4, p5⟩ := pick_spec Q.f5 (W := W) k (S := S1) (a := a) (c := c) (many := (ds.length : Int)) (hs.kp0 kS) (by omega) (by omega) (by unfold Sm; omega)
    obtain ⟨d, hd1, hd2⟩ := int_at (l := ds) p2 p3
    obtain ⟨p, hp, rfl⟩ := hd d hd2
    have hm2 : listAt S2 m = some ds := by
      unfold listAt at hm ⊢
      split at hm
      · rename_i xs ex; rw [p5 _ _ (by simp; exact hma) ex]; exact hm
      · rename_i xs ex; rw [p5 _ _ (by simp; exact hma) ex]; exact hm
      · cases hm
    exact ⟨p, S2, hp, er_idx (er_var ei) (er_call (er_cons (er_var e0) (er_cons (er_bi (er_cons (er_var ei) er_nil) (b_lenL hm)) er_nil)) er_nil rfl p1) (i_lst hm2 hd1), p4, kS.nil.trans p5⟩
  have hmem : ∀ d ∈ (lets bk s).map dSt, ∃ p ∈ lets bk s, d = dSt p := fun d hd => by obtain ⟨p, hp, e⟩ := List.mem_map.mp hd; exact ⟨p, hp, e.symm⟩
  have hpos : 0 < ((lets bk s).map dSt).length := by rw [List.length_map]; exact List.length_pos_iff.mpr hne
  have halt := hs.lt
  cases late
  · obtain ⟨p, S', q1, q2, q3, q4⟩ := key n _ S1 c2 (keepL c2) hna hmem hpos (by rw [List.length_map]; omega) [some (.ref a), some (.ref n), some (.bl false), some (.ref S.length), none] 1 rfl rfl
    refine ⟨p, S', q1, ?_, q3, q4⟩
    refine' run_rt (e0 := [some _, some _, some _, none, none]) Q.f91 rfl rfl ?h
    case h =>
      unfold b_91
      exact es_nx (es_asg c1 rfl) (es_nx (es_if_f (er_and_f (er_var rfl)) es_skip) (es_rt (es_ret q2)))
  · have ne := ne_nil (S := S1 ++ [.lst []]) (m := S.length) (n := S1.length) (ds := (lets bk s).filterMap (fun p => if p.1 then some (dSt p) else none)) ((Kp.push).at (l_lst c3)) l_last (dp := 1) (w := 102) (fun d hd => by
      obtain ⟨p, hp, rfl⟩ := fm d hd
      exact nw_lets hb _ (List.mem_map.mpr ⟨p, hp, rfl⟩)) (by decide) (by omega)
    have t1 : ev (pm q W (k + 1)) (.cmp .ne (.var 3) (.lst .nil)) [some (.ref a), some (.ref n), some (.bl true), some (.ref S.length), none] S1 = some (.bl (!((lets bk s).filterMap (fun p => if p.1 then some (dSt p) else none)).isEmpty), S1 ++ [.lst []]) := er_cmp (er_var rfl) (er_lst er_nil (Nat.zero_le _)) ne
    cases he : ((lets bk s).filterMap (fun p => if p.1 then some (dSt p) else none)).isEmpty
    · rw [he] at t1
      obtain ⟨p, S', q1, q2, q3, q4⟩ := key S.length _ (S1 ++ [.lst []]) (c2.trans Kp.push) ((Kp.push).at (l_lst c3)) (by omega) fm (by
        rw [List.isEmpty_eq_false_iff] at he; exact List.length_pos_iff.mpr he) fl [some (.ref a), some (.ref n), some (.bl true), some (.ref S.length), none] 3 rfl rfl
      refine ⟨p, S', q1, ?_, q3, q4⟩
      refine' run_rt (e0 := [some _, some _, some _, none, none]) Q.f91 rfl rfl ?h
      case h =>
        unfold b_91
        exact es_nx (es_asg c1 rfl) (es_rt (es_if_t (er_and_t (er_var rfl) t1) (es_rt (es_ret q2))))
    · rw [he] at t1
      obtain ⟨p, S', q1, q2, q3, q4⟩ := key n _ (S1 ++ [.lst []]) (c2.trans Kp.push) (keepL (c2.trans Kp.push)) hna hmem hpos (by rw [List.length_map]; omega) [some (.ref a), some (.ref n), some (.bl true), some (.ref S.length), none] 1 rfl rfl
      refine ⟨p, S', q1, ?_, q3, q4⟩
      refine' run_rt (e0 := [some _, some _, some _, none, none]) Q.f91 rfl rfl ?h
      case h =>
        unfold b_91
        exact es_nx (es_asg c1 rfl) (es_nx (es_if_f (er_and_t (er_var rfl) t1) es_skip) (es_rt (es_ret q2)))
end
end Tm

set_option Elab.async false
set_option linter.all false
set_option maxRecDepth 100000
set_option maxHeartbeats 8000000
namespace Tm
open PySem L2
local macro_rules | `(tactic| walk_at "sm") => `(tactic| first | assumption | (unfold Sm; first | omega | decide))
local macro_rules | `(tactic| walk_at "in") => `(tactic| first | assumption | omega | decide)
local macro_rules | `(tactic| walk_at "lst") => `(tactic| first | assumption | exact l_last | exact l_lst (by assumption) | exact l_ro (by assumption) | exact l_lst (set_get (by assumption)))
local macro_rules | `(tactic| walk_at "op") => `(tactic| first
  | with_reducible exact o_add
  | with_reducible exact o_sub
  | ((with_reducible refine' o_addT ?h); (case h => first | assumption | exact Nat.le_of_ble_eq_true rfl))
  | with_reducible exact o_band
  | with_reducible exact o_bxor
  | with_reducible exact o_band
  | with_reducible exact o_bxor
  | ((with_reducible refine' o_mod ?h); (case h => walk_at "in"))
  | ((with_reducible refine' o_div ?h ?g); (case h => walk_at "in"); (case g => walk_at "sm"))
  | ((with_reducible refine' o_mul ?h ?g); (case h => walk_at "sm"); (case g => walk_at "sm"))
  | ((with_reducible refine' o_pow ?h ?g); (case h => walk_at "in"); (case g => decide)))
local macro_rules | `(tactic| walk_at "cmp") => `(tactic| first
  | with_reducible assumption
  | with_reducible exact c_isN
  | with_reducible exact c_isnN
  | with_reducible exact c_isT
  | with_reducible exact c_isnT
  | with_reducible exact c_isB
  | ((with_reducible refine' c_eq_t ?h); (case h => walk_at "in"))
  | ((with_reducible refine' c_lt_t ?h); (case h => walk_at "in"))
  | ((with_reducible refine' c_gt_t ?h); (case h => walk_at "in"))
  | ((with_reducible refine' c_ne_t ?h); (case h => walk_at "in"))
  | ((with_reducible refine' c_le_t ?h); (case h => walk_at "in"))
  | ((with_reducible refine' c_ge_t ?h); (case h => walk_at "in"))
  | ((with_reducible refine' c_eq_f ?h); (case h => walk_at "in"))
  | ((with_reducible refine' c_lt_f ?h); (case h => walk_at "in"))
  | ((with_reducible refine' c_gt_f ?h); (case h => walk_at "in"))
  | ((with_reducible refine' c_ne_f ?h); (case h => walk_at "in"))
  | ((with_reducible refine' c_le_f ?h); (case h => walk_at "in"))
  | ((with_reducible refine' c_ge_f ?h); (case h => walk_at "in"))
  | ((with_reducible refine' c_str_t ?h); (case h => with_reducible exact rfl))
  | ((with_reducible refine' c_str_f ?h); (case h => first | assumption | decide))
  | ((with_reducible refine' c_strn_f ?h); (case h => with_reducible exact rfl))
  | ((with_reducible refine' c_strn_t ?h); (case h => first | assumption | decide))
  | ((with_reducible refine' c_in (t := true) ?h ?g ?f ?e); (case h => walk_at "lst"); (case g => exact rfl); (case f => exact rfl); (case e => first | assumption | decide))
  | ((with_reducible refine' c_in (t := false) ?h ?g ?f ?e); (case h => walk_at "lst"); (case g => exact rfl); (case f => exact rfl); (case e => first | assumption | decide))
  | ((with_reducible refine' c_inT (t := true) ?g ?f ?e); (case g => exact rfl); (case f => exact rfl); (case e => first | assumption | decide))
  | ((with_reducible refine' c_inT (t := false) ?g ?f ?e); (case g => exact rfl); (case f => exact rfl); (case e => first | assumption | decide))
  | ((with_reducible refine' c_ninT (t := true) ?g ?f ?e); (case g => exact rfl); (case f => exact rfl); (case e => first | assumption | decide))
  | ((with_reducible refine' c_ninT (t := false) ?g ?f ?e); (case g => exact rfl); (case f => exact rfl); (case e => first | assumption | decide))
  | ((with_reducible refine' c_nin (t := true) ?h ?g ?f ?e); (case h => walk_at "lst"); (case g => exact rfl); (case f => exact rfl); (case e => first | assumption | decide))
  | ((with_reducible refine' c_nin (t := false) ?h ?g ?f ?e); (case h => walk_at "lst"); (case g => exact rfl); (case f => exact rfl); (case e => first | assumption | decide)))
local macro_rules | `(tactic| walk_at "bi") => `(tactic| first | with_reducible assumption | ((with_reducible refine' b_tupL ?h); (case h => walk_at "lst")) | with_reducible exact b_int | with_reducible exact b_bool | with_reducible exact b_abs | with_reducible exact b_max | with_reducible exact b_min | with_reducible exact b_lenT | ((with_reducible refine' b_lenL ?h); (case h => walk_at "lst")) | with_reducible apply_assumption)
local macro_rules | `(tactic| walk_at "pick") => `(tactic| first | with_reducible exact pk1 | with_reducible exact pk2 | with_reducible exact pk3 | with_reducible exact pk4 | with_reducible exact pk5 | with_reducible exact pn1 | with_reducible exact pn2 | with_reducible exact pn3)
local macro_rules | `(tactic| walk_at "call") => `(tactic| first | with_reducible assumption | with_reducible apply_assumption)
local macro_rules | `(tactic| walk_at "ev") => `(tactic| first
  | (with_reducible assumption)
  | ((with_reducible refine' er_env ?he ?h); (case h => with_reducible assumption); (case he => exact rfl))
  | (with_reducible exact er_nil)
  | ((with_reducible refine' er_glob ?h); (case h => assumption))
  | ((with_reducible refine' er_lit ?h); (case h => exact rfl))
  | ((with_reducible refine' er_var ?h); (case h => exact rfl))
  | ((with_reducible refine' er_cons ?h1 ?h2); (case h1 => walk_at "ev"); (case h2 => walk_at "ev"))
  | ((with_reducible refine' er_tup ?h1 ?h2); (case h1 => walk_at "ev"); (case h2 => exact Nat.le_of_ble_eq_true rfl))
  | ((with_reducible refine' er_lst ?h1 ?h2); (case h1 => walk_at "ev"); (case h2 => exact Nat.le_of_ble_eq_true rfl))
  | ((with_reducible refine' er_neg ?h1); (case h1 => walk_at "ev"))
  | ((with_reducible refine' er_isty ?h1 ?h2); (case h1 => walk_at "ev"); (case h2 => first | exact rfl | exact ty_ref (by walk_at "lst")))
  | ((with_reducible refine' er_chain_t ?h1 ?h2 ?h3 ?h4 ?h5); (case h1 => walk_at "ev"); (case h2 => walk_at "ev"); (case h3 => walk_at "cmp"); (case h4 => walk_at "ev"); (case h5 => walk_at "cmp"))
  | ((with_reducible refine' er_slc_to ?h1 ?h2 ?h3 ?h4); (case h1 => walk_at "ev"); (case h2 => exact rfl); (case h3 => walk_at "ev"); (case h4 => first | assumption | omega))
  | ((with_reducible refine' er_slc_from ?h1 ?h2 ?h3 ?h4); (case h1 => walk_at "ev"); (case h2 => exact rfl); (case h3 => walk_at "ev"); (case h4 => first | assumption | omega))
  | ((with_reducible refine' er_app ?h1 ?h2 ?h3); (case h1 => walk_at "ev"); (case h2 => walk_at "ev"); (case h3 => exact push_at (by assumption) (by assumption)))
  | ((with_reducible refine' er_callv ?h1 ?h2 ?h3 ?h4); (case h1 => walk_at "ev"); (case h2 => walk_at "ev"); (case h3 => assumption); (case h4 => walk_at "call"))
  | ((with_reducible refine' er_bin ?h1 ?h2 ?h3); (case h1 => walk_at "ev"); (case h2 => walk_at "ev"); (case h3 => walk_at "op"))
  | ((with_reducible refine' er_idx ?h1 ?h2 ?h3); (case h1 => walk_at "ev"); (case h2 => walk_at "ev"); (case h3 => first | exact i_tup (by first | assumption | rfl) | exact i_lst (by walk_at "lst") (by first | assumption | rfl)))
  | ((with_reducible refine' er_call ?h1 ?h2 ?h3 ?h4); (case h1 => walk_at "ev"); (case h2 => walk_at "ev"); (case h3 => walk_at "pick"); (case h4 => walk_at "call"))
  | ((with_reducible refine' er_bi ?h1 ?h2); (case h1 => walk_at "ev"); (case h2 => walk_at "bi"))
  | ((with_reducible refine' er_cmp ?h1 ?h2 ?h3); (case h1 => walk_at "ev"); (case h2 => walk_at "ev"); (case h3 => walk_at "cmp"))
  | ((with_reducible refine' er_nots ?h1 ?h2); (case h1 => walk_at "ev"); (case h2 => first | exact Neg.t | exact Neg.f))
  | ((with_reducible refine' er_ors ?h1 ?h2); (case h1 => walk_at "ev"); (case h2 => first | exact ors_t | ((with_reducible refine' ors_f ?h3); (case h3 => walk_at "ev"))))
  | ((with_reducible refine' er_ands ?h1 ?h2); (case h1 => walk_at "ev"); (case h2 => first | exact ands_f | ((with_reducible refine' ands_t ?h3); (case h3 => walk_at "ev"))))
  | ((with_reducible refine' er_br ?h1 ?h2); (case h1 => walk_at "ev"); (case h2 => first | ((with_reducible refine' bre_t ?h3); (case h3 => walk_at "ev")) | ((with_reducible refine' bre_f ?h3); (case h3 => walk_at "ev")))))
local macro_rules | `(tactic| walk_at "ex") => `(tactic| first
  | ((with_reducible refine' es_skip2 ?h1 ?h2); (case h1 => exact rfl); (case h2 => exact rfl))
  | ((with_reducible refine' es_sq ?h1 ?h2); (case h1 => walk_at "ex"); (case h2 => first | exact nxt_rt | exact nxt_bk | exact nxt_ct | ((with_reducible refine' nxt_nx ?h3); (case h3 => walk_at "ex"))))
  | ((with_reducible refine' es_ret ?h1); (case h1 => walk_at "ev"))
  | ((with_reducible refine' es_asg ?h1 ?h2); (case h1 => walk_at "ev"); (case h2 => exact rfl))
  | ((with_reducible refine' es_seti ?h1 ?h2 ?h3 ?h4); (case h1 => walk_at "ev"); (case h2 => walk_at "ev"); (case h3 => walk_at "ev"); (case h4 => exact s_set (by first | assumption | exact set_get (by assumption)) rfl))
  | ((with_reducible refine' es_drop ?h1); (case h1 => walk_at "ev"))
  | ((with_reducible refine' es_br ?h1 ?h2); (case h1 => walk_at "ev"); (case h2 => first | ((with_reducible refine' brs_t ?h3); (case h3 => walk_at "ex")) | ((with_reducible refine' brs_f ?h3); (case h3 => walk_at "ex")))))


def b_4l : St := (.seq (.asg (.nm 3) (.bin .mod (.bi .int (.cons (.bin .add (.bin .mul (.var 3) (.lit (.int 524287))) (.bin .mod (.bi .int (.cons (.var 4) .nil)) (.bin .add (.bin .pow (.lit (.int 10)) (.lit (.int 18))) (.lit (.int 9))))) .nil)) (.bin .sub (.bin .pow (.lit (.int 2)) (.lit (.int 61))) (.lit (.int 1)))))
  .skip)
theorem spring_loop {q : Pr} {W k : Nat} {S : Store} {cks : List D} (hc : chks S cks = true) {v0 v1 v2 : Option D} : ∀ (ns : List Int) (m : Int) (x4 : Option D), 0 ≤ m → m < 2 ^ 61 →
    ∃ m' x4', forL (ex (pm q W k) b_4l) (.nm 4) cks (ns.map D.int) [v0, v1, v2, some (.int m), x4] S = some (.nx, [v0, v1, v2, some (.int m'), x4'], S) ∧ 0 ≤ m' ∧ m' < 2 ^ 61
  | [], m, x4, h0, h1 => ⟨m, x4, forL_nil hc, h0, h1⟩
  | n :: ns, m, x4, h0, h1 => by
    have w3 : 0 < (10 : Int) ^ (18 : Int).toNat + 9 := by decide
    have w4 : 0 < (2 : Int) ^ (61 : Int).toNat - 1 := by decide
    have w5 : Sm m := by unfold Sm; omega
    have w6 := Int.emod_nonneg (m * 524287 + n % ((10 : Int) ^ (18 : Int).toNat + 9)) (show (2 : Int) ^ (61 : Int).toNat - 1 ≠ 0 by decide)
    have w7 : (m * 524287 + n % ((10 : Int) ^ (18 : Int).toNat + 9)) % ((2 : Int) ^ (61 : Int).toNat - 1) < 2 ^ 61 := Int.lt_trans (Int.emod_lt_of_pos _ w4) (by decide)
    obtain ⟨m', x4', he, k0, k1⟩ := spring_loop (q := q) (W := W) (k := k) hc (v0 := v0) (v1 := v1) (v2 := v2) ns _ (some (.int n)) w6 w7
    exact ⟨m', x4', forL_nx hc rfl (by unfold b_4l; walk_at "ex") he, k0, k1⟩
theorem spring_spec {q : Pr} (h4 : q.fs 4 = some (2, 5, b_4)) {W k : Nat} {S : Store} {ns : List Int} {i : Int} (hS : S[0]? = some (.ro (ns.map D.int))) (hi : 0 ≤ i ∧ i < 100) :
    ∃ u m, run q W (k + 1) 4 [.ref 0, .int i] S = some (.ref S.length, S ++ [.lst [.int u, .int m, .int 0]]) ∧ 0 ≤ m ∧ m < 2 ^ 61 := by
  have hL : listAt S 0 = some (ns.map D.int) := l_ro hS
  have A : ∃ u, ev (pm q W k) (.var 2) [some (.ref 0), some (.int i), some (.int u), none, none] S = some (.int u, S) ∧ ∀ w' (st : St), ex (pm q W k) st [some (.ref 0), some (.int i), some (.int u), none, none] S = some w' →
      ex (pm q W k) (.seq (.asg (.nm 2) (.bin .add (.bin .mul (.lit (.int 13)) (.var 1)) (.lit (.int 5)))) (.seq (.ifs (.cmp .lt (.var 1) (.bi .len (.cons (.var 0) .nil))) (.seq (.asg (.nm 2) (.idx (.var 0) (.var 1))) .skip) .skip) st)) (env0 2 5 [.ref 0, .int i]) S = some w' := by
    have sm1 : Sm i := by unfold Sm; omega
    by_cases h : i < ((ns.map D.int).length : Int)
    · obtain ⟨u, hu⟩ := at_ints ns i hi.1 h
      refine ⟨u, rfl, fun w' st hw => ?_⟩
      refine' es_nx ?a1 ?a2
      case a1 => walk_at "ex"
      case a2 =>
      refine' es_nx ?b1 ?b2
      case b1 => walk_at "ex"
      case b2 => exact hw
    · refine ⟨13 * i + 5, rfl, fun w' st hw => ?_⟩
      · refine' es_nx ?a1 ?a2
        case a1 => walk_at "ex"
        case a2 =>
        refine' es_nx ?b1 ?b2
        case b1 => walk_at "ex"
        case b2 => exact hw
  obtain ⟨u, _, A1⟩ := A
  have w3 : 0 < (10 : Int) ^ (9 : Int).toNat + 7 := by decide
  have w5 := Int.emod_nonneg (if u < 0 then -u else u) (show (10 : Int) ^ (9 : Int).toNat + 7 ≠ 0 by decide)
  have w6 : (if u < 0 then -u else u) % ((10 : Int) ^ (9 : Int).toNat + 7) < 10 ^ 10 := Int.lt_trans (Int.emod_lt_of_pos _ w3) (by decide)
  have sm1 : Sm i := by unfold Sm; omega
  have hc : chks S [.tup [.ref 0, .tup (ns.map D.int)]] = true := by
    simp only [chks, chk1, hL, D.beqs_refl, Bool.and_true]
  obtain ⟨m, x4, B1, B2, B3⟩ := spring_loop (q := q) (W := W) (k := k) hc (v0 := some (.ref 0)) (v1 := some (.int i)) (v2 := some (.int u)) ns (977 + 3 * i + (if u < 0 then -u else u) % ((10 : Int) ^ (9 : Int).toNat + 7)) none (by omega) (by omega)
  refine' ⟨_, m, run_rt (b := b_4) h4 rfl rfl (A1 _ _ ?hh), B2, B3⟩
  case hh =>
  refine' es_nx ?a1 ?a2
  case a1 => walk_at "ex"
  case a2 =>
  refine' es_nx ?b1 ?b2
  case b1 => exact es_for (er_itv (er_var rfl) (by show (listAt S 0).map _ = _; rw [hL]; rfl)) B1
  case b2 => walk_at "ex"

theorem lst_keep {S S' : Store} {a n : Nat} {ds : List D} (k : Kp [a] S S') (h : listAt S n = some ds) (hn : n ≠ a) : listAt S' n = some ds := by
  unfold listAt at h ⊢
  split at h
  · rename_i xs e; rw [k _ _ (by simp; exact hn) e]; exact h
  · rename_i xs e; rw [k _ _ (by simp; exact hn) e]; exact h
  · cases h
def b_79l : St := (.seq (.drop (.app (.var 4) (.call 7 [0, 1, 2, 3] (.cons (.var 0) (.cons (.idx (.var 3) (.call 5 [0, 1] (.cons (.var 0) (.cons (.bi .len (.cons (.var 3) .nil)) .nil)) .nil)) (.cons (.var 2) (.cons (.var 1) .nil)))) .nil)))
  .skip)
def n79a : List Str := ["set", "set", "add", "sub", "and", "xor", "below", "load", "load", "load", "store", "store", "store"]
def n79b : List Str := ["store", "swap", "addto", "fence", "gap", "ifzero", "jump", "stop"]
def n79c : List Str := ["set", "set", "sub", "load", "load", "store", "store", "store"]
section
variable {q : Pr} (Q : HK q) {W : Nat}
include Q
theorem drows_tail (k : Nat) {S : Store} {a nl size : Nat} {few c : Int} {ns : List Str} (hs : Spr S a c) (hc : c < 10 ^ 11) (hsz : size ≤ 40) (f0 : 0 < few) (f1 : few ≤ 8) (hnl : listAt S nl = some (ns.map D.str)) (hna : nl ≠ a) (hne : 0 < ns.length) (hns : ∀ x ∈ ns, x ∈ nms) (hn40 : ns.length ≤ 40) :
    ∃ (rs : List Ins) (e' : Env') (S' : Store), rs.length = size ∧ (∀ i ∈ rs, i.ok size) ∧ ex (pm q W (k + 3)) (.seq (.asg (.nm 4) (.lst .nil)) (.seq (.for_ (.irng (.cons (.var 1) .nil)) (.nm 5) b_79l) (.seq (.ret (.bi .tuple (.cons (.var 4) .nil))) .skip))) [some (.ref a), some (.int size), some (.int few), some (.ref nl), none, none] S = some (.rt (dRows rs), e', S') ∧ Spr S' a (c + 8 * size) ∧ Kp [a] S S' := by
  have halt := hs.lt
  obtain ⟨rs, e', S', l1, l2, l3, l4, l5, l6, l7⟩ := forD (bod := ex (pm q W (k + 3)) b_79l) (t := .nm 5) (n := S.length) (a := a) (S0 := S) 8 (10 ^ 12 - 100) (fun j : Nat => D.int j) dIns (fun _ i => i.ok size) (fun e => ∃ x5, e = [some (.ref a), some (.int size), some (.int few), some (.ref nl), some (.ref S.length), x5]) (Nat.le_refl _) halt
    (List.range size) [] [some (.ref a), some (.int size), some (.int few), some (.ref nl), some (.ref S.length), none] (S ++ [.lst []]) c
    (fun j hj e S1 c1 acc he h1 h2 h3 h4 h5 => by
      obtain ⟨x5, rfl⟩ := he
      have hnl1 := lst_keep h3 hnl hna
      obtain ⟨r, S2, p1, p2, p3, p4, p5⟩ := pick_spec Q.f5 (W := W) (k + 2) (many := (ns.length : Int)) h1 (by omega) (by omega) (by unfold Sm; omega)
      obtain ⟨d, hd1, hd2⟩ := int_at (l := ns.map D.str) p2 (by simpa using p3)
      obtain ⟨nm, hnm, rfl⟩ := List.mem_map.mp hd2
      obtain ⟨i1, i2, i3, w, g, S3, r1, a0, a1, b0, b1, c0, c1', w0, w1, g0, g1, s3, k3⟩ := instr_spec Q.f5 Q.f6 Q.f7 (W := W) k p4 (by omega) f0 (show few < 100 by omega) (show 0 ≤ (size : Int) by omega) (show (size : Int) < 100 by omega) (hns nm hnm)
      have hf : S.length ≠ a := by omega
      have h4' := k3 _ _ (by simp; exact hf) (p5 _ _ (by simp; exact hf) h4)
      have hnl2 := lst_keep p5 hnl1 hna
      have ln : biop .len [.ref nl] S1 = some (.int ns.length, S1) := by rw [b_lenL hnl1]; simp
      refine ⟨[some (.ref a), some (.int size), some (.int few), some (.ref nl), some (.ref S.length), some (.int j)], [some (.ref a), some (.int size), some (.int few), some (.ref nl), some (.ref S.length), some (.int j)], ⟨nm, i1, i2, i3, w, g⟩, S3.set S.length (.lst (acc ++ [dIns ⟨nm, i1, i2, i3, w, g⟩])), rfl, ?_, ⟨_, rfl⟩, ⟨hns nm hnm, a0, by simp only; omega, b0, by simp only; omega, c0, by simp only; omega, w0, w1, g0, g1⟩, set_get h4', (s3.le (by omega)).setN hf, ((h3.trans p5).trans k3).set_newA (Nat.le_refl _)⟩
      unfold b_79l
      exact es_nx (es_drop (er_app (er_var rfl) (er_call (er_cons (er_var rfl) (er_cons (er_idx (er_var rfl) (er_call (er_cons (er_var rfl) (er_cons (er_bi (er_cons (er_var rfl) er_nil) ln) er_nil)) er_nil rfl p1) (i_lst hnl2 hd1)) (er_cons (er_var rfl) (er_cons (er_var rfl) er_nil)))) er_nil rfl r1) (push_at h4' h5))) es_skip)
    ⟨_, rfl⟩ hs.push (by decide) (by simp; omega) g_last Kp.push (by simp [sizeLine_eq]; omega)
  obtain ⟨x5, rfl⟩ := l2
  rw [List.length_range] at l3 l6
  refine ⟨rs, [some (.ref a), some (.int size), some (.int few), some (.ref nl), some (.ref S.length), x5], S', l3, fun i hi => ?_, ?_, l6, l7⟩
  · obtain ⟨j, hj⟩ := List.mem_iff_getElem?.mp hi
    have hjl := (List.getElem?_eq_some_iff.mp hj).1
    exact l4 _ (zip_get (x := j) (by rw [List.getElem?_range (by omega)]) hj)
  · refine' es_nx (es_asg (er_lst er_nil (Nat.zero_le _)) rfl) ?_
    refine' es_nx (es_for (er_rng (n := size) (er_cons (er_var rfl) er_nil) (by omega)) l1) ?_
    exact es_rt (es_ret (er_bi (er_cons (er_var rfl) er_nil) (b_tupL (l_lst (by simpa using l5)))))
theorem drows_p (k : Nat) {S : Store} {a size : Nat} {few c : Int} (hs : Spr S a c) (hc : c < 10 ^ 11 - 10) (hsz : size ≤ 40) (f0 : 0 < few) (f1 : few ≤ 8) :
    ∃ (rs : List Ins) (S' : Store), rs.length = size ∧ (∀ i ∈ rs, i.ok size) ∧ run q W (k + 4) 79 [.ref a, .int size, .int few] S = some (dRows rs, S') ∧ Spr S' a (c + 330) ∧ Kp [a] S S' := by
  have halt := hs.lt
  -- the names, and the draw that may change them
  have V1 := g_last (S := S) (o := .lst (n79a.map D.str))
  have V2 := g_last (S := S ++ [O.lst (n79a.map D.str)]) (o := .lst (n79b.map D.str))
  have s3 : Spr (((S ++ [O.lst (n79a.map D.str)]) ++ [O.lst (n79b.map D.str)]) ++ [O.lst (n79a.map D.str ++ n79b.map D.str)]) a c := hs.push.push.push
  have V3 := g_last (S := (S ++ [O.lst (n79a.map D.str)]) ++ [O.lst (n79b.map D.str)]) (o := .lst (n79a.map D.str ++ n79b.map D.str))
  have K3 : Kp [a] S (((S ++ [O.lst (n79a.map D.str)]) ++ [O.lst (n79b.map D.str)]) ++ [O.lst (n79a.map D.str ++ n79b.map D.str)]) := (Kp.push.trans Kp.push).trans Kp.push
  obtain ⟨r, S4, p1, p2, p3, p4, p5⟩ := pick_spec Q.f5 (W := W) (k + 2) (many := 4) s3 (by omega) (by decide) (by unfold Sm; decide)
  have A1 : ∀ x, ev (pm q W (k + 3)) (.lst (.cons (.lit (.str "set")) (.cons (.lit (.str "set")) (.cons (.lit (.str "add")) (.cons (.lit (.str "sub")) (.cons (.lit (.str "and")) (.cons (.lit (.str "xor")) (.cons (.lit (.str "below")) (.cons (.lit (.str "load")) (.cons (.lit (.str "load")) (.cons (.lit (.str "load")) (.cons (.lit (.str "store")) (.cons (.lit (.str "store")) (.cons (.lit (.str "store")) .nil)))))))))))))) [some (.ref a), some (.int size), some (.int few), x, none, none] S = some (.ref S.length, S ++ [O.lst (n79a.map D.str)]) := fun _ =>
    er_lst (ds := n79a.map D.str) (er_cons (er_lit rfl) (er_cons (er_lit rfl) (er_cons (er_lit rfl) (er_cons (er_lit rfl) (er_cons (er_lit rfl) (er_cons (er_lit rfl) (er_cons (er_lit rfl) (er_cons (er_lit rfl) (er_cons (er_lit rfl) (er_cons (er_lit rfl) (er_cons (er_lit rfl) (er_cons (er_lit rfl) (er_cons (er_lit rfl) er_nil))))))))))))) (Nat.le_of_ble_eq_true rfl)
  have A2 : ev (pm q W (k + 3)) (.bin .add (.var 3) (.lst (.cons (.lit (.str "store")) (.cons (.lit (.str "swap")) (.cons (.lit (.str "addto")) (.cons (.lit (.str "fence")) (.cons (.lit (.str "gap")) (.cons (.lit (.str "ifzero")) (.cons (.lit (.str "jump")) (.cons (.lit (.str "stop")) .nil)))))))))) [some (.ref a), some (.int size), some (.int few), some (.ref S.length), none, none] (S ++ [O.lst (n79a.map D.str)]) = some (.ref ((S ++ [O.lst (n79a.map D.str)]) ++ [O.lst (n79b.map D.str)]).length, _) :=
    er_bin (er_var rfl) (er_lst (ds := n79b.map D.str) (er_cons (er_lit rfl) (er_cons (er_lit rfl) (er_cons (er_lit rfl) (er_cons (er_lit rfl) (er_cons (er_lit rfl) (er_cons (er_lit rfl) (er_cons (er_lit rfl) (er_cons (er_lit rfl) er_nil)))))))) (Nat.le_of_ble_eq_true rfl)) (o_addL (Kp.push (A := []) _ _ (by simp) V1) V2 (Nat.le_of_ble_eq_true rfl))
  have nl3 : ((S ++ [O.lst (n79a.map D.str)]) ++ [O.lst (n79b.map D.str)]).length ≠ a := by simp; omega
  have fin : ∀ (nl : Nat) (ns : List Str) (S5 : Store), Spr S5 a (c + 1) → Kp [a] S S5 → listAt S5 nl = some (ns.map D.str) → nl ≠ a → 0 < ns.length → (∀ x ∈ ns, x ∈ nms) → ns.length ≤ 40 →
      ex (pm q W (k + 3)) (.ifs (.cmp .eq (.call 5 [0, 1] (.cons (.var 0) (.cons (.lit (.int 4)) .nil)) .nil) (.lit (.int 0))) (.seq (.asg (.nm 3) (.lst (.cons (.lit (.str "set")) (.cons (.lit (.str "set")) (.cons (.lit (.str "sub")) (.cons (.lit (.str "load")) (.cons (.lit (.str "load")) (.cons (.lit (.str "store")) (.cons (.lit (.str "store")) (.cons (.lit (.str "store")) .nil)))))))))) .skip) .skip) [some (.ref a), some (.int size), some (.int few), some (.ref ((S ++ [O.lst (n79a.map D.str)]) ++ [O.lst (n79b.map D.str)]).length), none, none] (((S ++ [O.lst (n79a.map D.str)]) ++ [O.lst (n79b.map D.str)]) ++ [O.lst (n79a.map D.str ++ n79b.map D.str)]) = some (.nx, [some (.ref a), some (.int size), some (.int few), some (.ref nl), none, none], S5) →
      ∃ (rs : List Ins) (S' : Store), rs.length = size ∧ (∀ i ∈ rs, i.ok size) ∧ run q W (k + 4) 79 [.ref a, .int size, .int few] S = some (dRows rs, S') ∧ Spr S' a (c + 330) ∧ Kp [a] S S' := by
    intro nl ns S5 g1 g2 g3 g4 g5 g6 g7 g8
    obtain ⟨rs, e', S', t1, t2, t3, t4, t5⟩ := drows_tail Q (W := W) k g1 (by omega) hsz f0 f1 g3 g4 g5 g6 g7
    refine ⟨rs, S', t1, t2, ?_, t4.le (by omega), g2.trans t5⟩
    refine' run_rt (e0 := [some _, some _, some _, none, none, none]) Q.f79 rfl rfl ?h
    case h =>
      unfold b_79
      refine' es_nx (es_asg (A1 _) rfl) ?_
      refine' es_nx (es_asg A2 rfl) ?_
      refine' es_nx g8 ?_
      exact t3
  by_cases z : r = 0
  · refine fin S4.length n79c (S4 ++ [O.lst (n79c.map D.str)]) p4.push (K3.trans (p5.trans Kp.push)) l_last (by have := p4.lt; omega) (by decide) (by decide) (by decide) ?_
    exact es_if_t (er_cmp (er_call (er_cons (er_var rfl) (er_cons (er_lit rfl) er_nil)) er_nil rfl p1) (er_lit rfl) (c_eq_t z)) (es_nx (es_asg (er_lst (ds := n79c.map D.str) (er_cons (er_lit rfl) (er_cons (er_lit rfl) (er_cons (er_lit rfl) (er_cons (er_lit rfl) (er_cons (er_lit rfl) (er_cons (er_lit rfl) (er_cons (er_lit rfl) (er_cons (er_lit rfl) er_nil)))))))) (Nat.le_of_ble_eq_true rfl)) rfl) es_skip)
  · refine fin _ (n79a ++ n79b) S4 p4 (K3.trans p5) ?_ nl3 (by decide) (by decide) (by decide) ?_
    · refine lst_keep p5 (l_lst ?_) nl3
      rw [List.map_append]; exact V3
    · exact es_if_f (er_cmp (er_call (er_cons (er_var rfl) (er_cons (er_lit rfl) er_nil)) er_nil rfl p1) (er_lit rfl) (c_eq_f z)) es_skip
end
end Tm

set_option Elab.async false
set_option linter.all false
set_option maxRecDepth 100000
set_option maxHeartbeats 8000000
namespace Tm
open PySem L2
local macro_rules | `(tactic| walk_at "sm") => `(tactic| first | assumption | (unfold Sm; first | omega | decide))
local macro_rules | `(tactic| walk_at "in") => `(tactic| first | assumption | omega | decide)
local macro_rules | `(tactic| walk_at "lst") => `(tactic| first | assumption | exact l_last | exact l_lst (by assumption) | exact l_ro (by assumption) | exact l_lst (set_get (by assumption)))
local macro_rules | `(tactic| walk_at "op") => `(tactic| first
  | with_reducible exact o_add
  | with_reducible exact o_sub
  | ((with_reducible refine' o_addT ?h); (case h => first | assumption | exact Nat.le_of_ble_eq_true rfl))
  | with_reducible exact o_band
  | with_reducible exact o_bxor
  | with_reducible exact o_band
  | with_reducible exact o_bxor
  | ((with_reducible refine' o_mod ?h); (case h => walk_at "in"))
  | ((with_reducible refine' o_div ?h ?g); (case h => walk_at "in"); (case g => walk_at "sm"))
  | ((with_reducible refine' o_mul ?h ?g); (case h => walk_at "sm"); (case g => walk_at "sm"))
  | ((with_reducible refine' o_pow ?h ?g); (case h => walk_at "in"); (case g => decide)))
local macro_rules | `(tactic| walk_at "cmp") => `(tactic| first
  | with_reducible assumption
  | with_reducible exact c_isN
  | with_reducible exact c_isnN
  | with_reducible exact c_isT
  | with_reducible exact c_isnT
  | with_reducible exact c_isB
  | ((with_reducible refine' c_eq_t ?h); (case h => walk_at "in"))
  | ((with_reducible refine' c_lt_t ?h); (case h => walk_at "in"))
  | ((with_reducible refine' c_gt_t ?h); (case h => walk_at "in"))
  | ((with_reducible refine' c_ne_t ?h); (case h => walk_at "in"))
  | ((with_reducible refine' c_le_t ?h); (case h => walk_at "in"))
  | ((with_reducible refine' c_ge_t ?h); (case h => walk_at "in"))
  | ((with_reducible refine' c_eq_f ?h); (case h => walk_at "in"))
  | ((with_reducible refine' c_lt_f ?h); (case h => walk_at "in"))
  | ((with_reducible refine' c_gt_f ?h); (case h => walk_at "in"))
  | ((with_reducible refine' c_ne_f ?h); (case h => walk_at "in"))
  | ((with_reducible refine' c_le_f ?h); (case h => walk_at "in"))
  | ((with_reducible refine' c_ge_f ?h); (case h => walk_at "in"))
  | ((with_reducible refine' c_str_t ?h); (case h => with_reducible exact rfl))
  | ((with_reducible refine' c_str_f ?h); (case h => first | assumption | decide))
  | ((with_reducible refine' c_strn_f ?h); (case h => with_reducible exact rfl))
  | ((with_reducible refine' c_strn_t ?h); (case h => first | assumption | decide))
  | ((with_reducible refine' c_in (t := true) ?h ?g ?f ?e); (case h => walk_at "lst"); (case g => exact rfl); (case f => exact rfl); (case e => first | assumption | decide))
  | ((with_reducible refine' c_in (t := false) ?h ?g ?f ?e); (case h => walk_at "lst"); (case g => exact rfl); (case f => exact rfl); (case e => first | assumption | decide))
  | ((with_reducible refine' c_inT (t := true) ?g ?f ?e); (case g => exact rfl); (case f => exact rfl); (case e => first | assumption | decide))
  | ((with_reducible refine' c_inT (t := false) ?g ?f ?e); (case g => exact rfl); (case f => exact rfl); (case e => first | assumption | decide))
  | ((with_reducible refine' c_ninT (t := true) ?g ?f ?e); (case g => exact rfl); (case f => exact rfl); (case e => first | assumption | decide))
  | ((with_reducible refine' c_ninT (t := false) ?g ?f ?e); (case g => exact rfl); (case f => exact rfl); (case e => first | assumption | decide))
  | ((with_reducible refine' c_nin (t := true) ?h ?g ?f ?e); (case h => walk_at "lst"); (case g => exact rfl); (case f => exact rfl); (case e => first | assumption | decide))
  | ((with_reducible refine' c_nin (t := false) ?h ?g ?f ?e); (case h => walk_at "lst"); (case g => exact rfl); (case f => exact rfl); (case e => first | assumption | decide)))
local macro_rules | `(tactic| walk_at "bi") => `(tactic| first | with_reducible assumption | ((with_reducible refine' b_tupL ?h); (case h => walk_at "lst")) | with_reducible exact b_int | with_reducible exact b_bool | with_reducible exact b_abs | with_reducible exact b_max | with_reducible exact b_min | with_reducible exact b_lenT | ((with_reducible refine' b_lenL ?h); (case h => walk_at "lst")) | with_reducible apply_assumption)
local macro_rules | `(tactic| walk_at "pick") => `(tactic| first | with_reducible exact pk1 | with_reducible exact pk2 | with_reducible exact pk3 | with_reducible exact pk4 | with_reducible exact pk5 | with_reducible exact pn1 | with_reducible exact pn2 | with_reducible exact pn3)
local macro_rules | `(tactic| walk_at "call") => `(tactic| first | with_reducible assumption | with_reducible apply_assumption)
local macro_rules | `(tactic| walk_at "ev") => `(tactic| first
  | (with_reducible assumption)
  | ((with_reducible refine' er_env ?he ?h); (case h => with_reducible assumption); (case he => exact rfl))
  | (with_reducible exact er_nil)
  | ((with_reducible refine' er_glob ?h); (case h => assumption))
  | ((with_reducible refine' er_lit ?h); (case h => exact rfl))
  | ((with_reducible refine' er_var ?h); (case h => exact rfl))
  | ((with_reducible refine' er_cons ?h1 ?h2); (case h1 => walk_at "ev"); (case h2 => walk_at "ev"))
  | ((with_reducible refine' er_tup ?h1 ?h2); (case h1 => walk_at "ev"); (case h2 => exact Nat.le_of_ble_eq_true rfl))
  | ((with_reducible refine' er_lst ?h1 ?h2); (case h1 => walk_at "ev"); (case h2 => exact Nat.le_of_ble_eq_true rfl))
  | ((with_reducible refine' er_neg ?h1); (case h1 => walk_at "ev"))
  | ((with_reducible refine' er_isty ?h1 ?h2); (case h1 => walk_at "ev"); (case h2 => first | exact rfl | exact ty_ref (by walk_at "lst")))
  | ((with_reducible refine' er_chain_t ?h1 ?h2 ?h3 ?h4 ?h5); (case h1 => walk_at "ev"); (case h2 => walk_at "ev"); (case h3 => walk_at "cmp"); (case h4 => walk_at "ev"); (case h5 => walk_at "cmp"))
  | ((with_reducible refine' er_slc_to ?h1 ?h2 ?h3 ?h4); (case h1 => walk_at "ev"); (case h2 => exact rfl); (case h3 => walk_at "ev"); (case h4 => first | assumption | omega))
  | ((with_reducible refine' er_slc_from ?h1 ?h2 ?h3 ?h4); (case h1 => walk_at "ev"); (case h2 => exact rfl); (case h3 => walk_at "ev"); (case h4 => first | assumption | omega))
  | ((with_reducible refine' er_app ?h1 ?h2 ?h3); (case h1 => walk_at "ev"); (case h2 => walk_at "ev"); (case h3 => exact push_at (by assumption) (by assumption)))
  | ((with_reducible refine' er_callv ?h1 ?h2 ?h3 ?h4); (case h1 => walk_at "ev"); (case h2 => walk_at "ev"); (case h3 => assumption); (case h4 => walk_at "call"))
  | ((with_reducible refine' er_bin ?h1 ?h2 ?h3); (case h1 => walk_at "ev"); (case h2 => walk_at "ev"); (case h3 => walk_at "op"))
  | ((with_reducible refine' er_idx ?h1 ?h2 ?h3); (case h1 => walk_at "ev"); (case h2 => walk_at "ev"); (case h3 => first | exact i_tup (by first | assumption | rfl) | exact i_lst (by walk_at "lst") (by first | assumption | rfl)))
  | ((with_reducible refine' er_call ?h1 ?h2 ?h3 ?h4); (case h1 => walk_at "ev"); (case h2 => walk_at "ev"); (case h3 => walk_at "pick"); (case h4 => walk_at "call"))
  | ((with_reducible refine' er_bi ?h1 ?h2); (case h1 => walk_at "ev"); (case h2 => walk_at "bi"))
  | ((with_reducible refine' er_cmp ?h1 ?h2 ?h3); (case h1 => walk_at "ev"); (case h2 => walk_at "ev"); (case h3 => walk_at "cmp"))
  | ((with_reducible refine' er_nots ?h1 ?h2); (case h1 => walk_at "ev"); (case h2 => first | exact Neg.t | exact Neg.f))
  | ((with_reducible refine' er_ors ?h1 ?h2); (case h1 => walk_at "ev"); (case h2 => first | exact ors_t | ((with_reducible refine' ors_f ?h3); (case h3 => walk_at "ev"))))
  | ((with_reducible refine' er_ands ?h1 ?h2); (case h1 => walk_at "ev"); (case h2 => first | exact ands_f | ((with_reducible refine' ands_t ?h3); (case h3 => walk_at "ev"))))
  | ((with_reducible refine' er_br ?h1 ?h2); (case h1 => walk_at "ev"); (case h2 => first | ((with_reducible refine' bre_t ?h3); (case h3 => walk_at "ev")) | ((with_reducible refine' bre_f ?h3); (case h3 => walk_at "ev")))))
local macro_rules | `(tactic| walk_at "ex") => `(tactic| first
  | ((with_reducible refine' es_skip2 ?h1 ?h2); (case h1 => exact rfl); (case h2 => exact rfl))
  | ((with_reducible refine' es_sq ?h1 ?h2); (case h1 => walk_at "ex"); (case h2 => first | exact nxt_rt | exact nxt_bk | exact nxt_ct | ((with_reducible refine' nxt_nx ?h3); (case h3 => walk_at "ex"))))
  | ((with_reducible refine' es_ret ?h1); (case h1 => walk_at "ev"))
  | ((with_reducible refine' es_asg ?h1 ?h2); (case h1 => walk_at "ev"); (case h2 => exact rfl))
  | ((with_reducible refine' es_seti ?h1 ?h2 ?h3 ?h4); (case h1 => walk_at "ev"); (case h2 => walk_at "ev"); (case h3 => walk_at "ev"); (case h4 => exact s_set (by first | assumption | exact set_get (by assumption)) rfl))
  | ((with_reducible refine' es_drop ?h1); (case h1 => walk_at "ev"))
  | ((with_reducible refine' es_br ?h1 ?h2); (case h1 => walk_at "ev"); (case h2 => first | ((with_reducible refine' brs_t ?h3); (case h3 => walk_at "ex")) | ((with_reducible refine' brs_f ?h3); (case h3 => walk_at "ex")))))


theorem Spr.kle {S S' : Store} {a : Nat} {c : Int} (h : Spr S' a c) (k : Kp [a] S S') : S.length ≤ S'.length := by
  by_cases e : S.length = 0
  · omega
  · by_cases e2 : S.length - 1 = a
    · have := h.lt; omega
    · have := k.len (n := S.length - 1) (by simp; exact e2) (by omega); omega
theorem zip_right {α β : Type} {l : List α} {bs : List β} {R : α → β → Prop} (hl : bs.length = l.length) (h : ∀ p ∈ l.zip bs, R p.1 p.2) {b : β} (hb : b ∈ bs) : ∃ x ∈ l, R x b := by
  obtain ⟨j, hj⟩ := List.mem_iff_getElem?.mp hb
  have hjl : j < l.length := by have := (List.getElem?_eq_some_iff.mp hj).1; omega
  exact ⟨l[j], List.getElem_mem hjl, h _ (zip_get (List.getElem?_eq_getElem hjl) hj)⟩
theorem map_int_set {l : List Nat} {j g : Nat} : (l.map fun n : Nat => D.int n).set j (.int g) = (l.set j g).map fun n : Nat => D.int n := by rw [List.map_set]
section
variable {q : Pr} (Q : HK q) {W : Nat}
include Q
theorem dbook_p (k : Nat) {S : Store} {a most great : Nat} {c : Int} (hs : Spr S a c) (hc : c < 10 ^ 10) (hm : most ≤ 40) (hg : great ≤ 40) :
    ∃ (bk : List (List Ins)) (S' : Store), OkB bk ∧ run q W (k + 5) 80 [.ref a, .int most, .int great] S = some (dBk bk, S') ∧ Spr S' a (c + 2000) ∧ Kp [a] S S' := by
  have halt := hs.lt
  -- the sizes
  obtain ⟨r0, S1, p1, p2, p3, p4, p5⟩ := pick_spec Q.f5 (W := W) (k + 3) (many := 4) hs (by omega) (by decide) (by unfold Sm; decide)
  have hn1 : (1 + r0 : Int) = ((1 + r0.toNat : Nat) : Int) := by omega
  have i1 : ev (pm q W (k + 4)) (.irng (.cons (.bin .add (.lit (.int 1)) (.call 5 [0, 1] (.cons (.var 0) (.cons (.lit (.int 4)) .nil)) .nil)) .nil)) [some (.ref a), some (.int most), some (.int great), none, none, none] S = some (itD ((List.range (1 + r0.toNat)).map fun (i : Nat) => D.int (i : Int)) [], S1) := by
    refine er_rng (er_cons (er_bin (er_lit rfl) (er_call (er_cons (er_var rfl) (er_cons (er_lit rfl) er_nil)) er_nil rfl p1) ?_) er_nil) (by omega)
    rw [← hn1]; exact o_add
  obtain ⟨szs, S2, l1, l2, l3, l4, l5, l6⟩ := er_lcD (q := q) (W := W) (k := k + 4) (el := .call 5 [0, 1] (.cons (.var 0) (.cons (.bin .add (.var 1) (.lit (.int 1))) .nil)) .nil) (t := .nm 4) (own := [4]) (a := a) (c := c + 1) 1 (10 ^ 11) (fun i : Nat => D.int i) (fun n : Nat => D.int n) (fun _ n => n ≤ most) i1 (fun _ _ => rfl)
    (fun x hx S c h1 h2 h3 => by
      obtain ⟨r, S2, q1, q2, q3, q4, q5⟩ := pick_spec Q.f5 (W := W) (k + 3) (many := (most : Int) + 1) h1 (by omega) (by omega) (by unfold Sm; omega)
      refine ⟨[some (.ref a), some (.int most), some (.int great), none, some (.int x), none], r.toNat, S2, rfl, ?_, by omega, q4, q5⟩
      rw [Int.toNat_of_nonneg q2]
      exact er_call (er_cons (er_var rfl) (er_cons (er_bin (er_var rfl) (er_lit rfl) o_add) er_nil)) er_nil rfl q1)
    p4 (by decide) (by simp; omega) (by simp [sizeLine_eq]; omega)
  rw [List.length_range] at l2 l5
  have K2 : Kp [a] S S2 := p5.trans l6
  have hS1 : S1.length ≠ a := by have := p4.lt; omega
  -- one of them may be great
  obtain ⟨r1, S3, q1, q2, q3, q4, q5⟩ := pick_spec Q.f5 (W := W) (k + 3) (many := 8) l5 (by push_cast; omega) (by decide) (by unfold Sm; decide)
  have h3 := q5 _ _ (by simp; exact hS1) l4
  have mid : ∃ (zs : List Nat) (S4 : Store), zs.length = 1 + r0.toNat ∧ (∀ z ∈ zs, z ≤ 40) ∧ S4[S1.length]? = some (.lst (zs.map fun n : Nat => D.int n)) ∧ Spr S4 a (c + 10) ∧ Kp [a] S S4 ∧
      ex (pm q W (k + 4)) (.ifs (.cmp .eq (.call 5 [0, 1] (.cons (.var 0) (.cons (.lit (.int 8)) .nil)) .nil) (.lit (.int 0))) (.seq (.seti (.var 2) (.var 3) (.call 5 [0, 1] (.cons (.var 0) (.cons (.bi .len (.cons (.var 3) .nil)) .nil)) .nil)) .skip) .skip) [some (.ref a), some (.int most), some (.int great), some (.ref S1.length), none, none] S2 = some (.nx, [some (.ref a), some (.int most), some (.int great), some (.ref S1.length), none, none], S4) := by
    have sz : ∀ z ∈ szs, z ≤ 40 := fun z hz => by obtain ⟨_, _, h⟩ := zip_right (R := fun (_ : Nat) n => n ≤ most) (by rw [l2, List.length_range]) l3 hz; omega
    by_cases z : r1 = 0
    · have ln : biop .len [.ref S1.length] S3 = some (.int szs.length, S3) := by rw [b_lenL (l_lst h3)]; simp
      obtain ⟨r2, S4, t1, t2, t3, t4, t5⟩ := pick_spec Q.f5 (W := W) (k + 3) (many := (szs.length : Int)) q4 (by push_cast; omega) (by omega) (by unfold Sm; omega)
      have h4 := t5 _ _ (by simp; exact hS1) h3
      refine ⟨szs.set r2.toNat great, S4.set S1.length (.lst ((szs.map fun n : Nat => D.int n).set r2.toNat (.int great))), by simp [l2], all_set sz hg, by rw [set_get h4, map_int_set], (t4.setN hS1).le (by push_cast; omega), ((K2.trans (q5.trans t5)).set_newA (p4.kle p5)), ?_⟩
      · exact es_if_t (er_cmp (er_call (er_cons (er_var rfl) (er_cons (er_lit rfl) er_nil)) er_nil rfl q1) (er_lit rfl) (c_eq_t z)) (es_nx (es_seti (er_var rfl) (er_var rfl) (er_call (er_cons (er_var rfl) (er_cons (er_bi (er_cons (er_var rfl) er_nil) ln) er_nil)) er_nil rfl t1) (s_set h4 (ixn_pos t2 (by simp; omega)))) es_skip)
    · exact ⟨szs, S3, l2, sz, h3, q4.le (by push_cast; omega), K2.trans q5, es_if_f (er_cmp (er_call (er_cons (er_var rfl) (er_cons (er_lit rfl) er_nil)) er_nil rfl q1) (er_lit rfl) (c_eq_f z)) es_skip⟩
  obtain ⟨zs, S4, z1, z2, z3, z4, z5, z6⟩ := mid
  -- the rows
  obtain ⟨bk, S5, m1, m2, m3, m4, m5, m6⟩ := er_lcD (q := q) (W := W) (k := k + 4) (i := .itv (.var 3)) (el := .call 79 [0, 1, 2] (.cons (.var 0) (.cons (.var 5) (.cons (.idx (.lst (.cons (.lit (.int 8)) (.cons (.lit (.int 3)) (.cons (.lit (.int 2)) .nil)))) (.call 5 [0, 1] (.cons (.var 0) (.cons (.lit (.int 3)) .nil)) .nil)) .nil))) .nil) (t := .nm 5) (own := [5]) (e := [some (.ref a), some (.int most), some (.int great), some (.ref S1.length), none, none]) (S := S4) (S1 := S4) (l := zs) (a := a) (c := c + 10) 331 (10 ^ 11 - 100) (fun n : Nat => D.int n) dRows (fun size rs => rs.length = size ∧ ∀ i ∈ rs, i.ok size)
    (itv_lst (er_var rfl) (l_lst z3)) (fun S' hS => by
      have := lst_keep hS (l_lst z3) hS1
      simp only [chks, chk1, this, D.beqs_refl, Bool.and_true])
    (fun x hx S c h1 h2 h3 => by
      have P0 := h1.push (o := .lst [.int 8, .int 3, .int 2])
      obtain ⟨r, S2, q1, q2, q3, q4, q5⟩ := pick_spec Q.f5 (W := W) (k + 3) (many := 3) P0 (by omega) (by decide) (by unfold Sm; decide)
      obtain ⟨f, hf, hfo⟩ := pick3 8 3 2 r q2 q3
      have hL : listAt S2 S.length = some [.int 8, .int 3, .int 2] := lst_keep q5 l_last (by have := h1.lt; omega)
      obtain ⟨rs, S3, t1, t2, t3, t4, t5⟩ := drows_p Q (W := W) k q4 (by omega) (z2 x hx) (show 0 < f by omega) (show f ≤ 8 by omega)
      refine ⟨[some (.ref a), some (.int most), some (.int great), some (.ref S1.length), none, some (.int x)], rs, S3, rfl, ?_, ⟨t1, t2⟩, t4.le (by omega), (Kp.push.trans q5).trans t5⟩
      exact er_call (er_cons (er_var rfl) (er_cons (er_var rfl) (er_cons (er_idx (er_lst (er_cons (er_lit rfl) (er_cons (er_lit rfl) (er_cons (er_lit rfl) er_nil))) (Nat.le_of_ble_eq_true rfl)) (er_call (er_cons (er_var rfl) (er_cons (er_lit rfl) er_nil)) er_nil rfl q1) (i_lst hL hf)) er_nil))) er_nil rfl t3)
    z4 (by decide) (by rw [z1]; push_cast; omega) (by rw [z1, sizeLine_eq]; omega)
  refine ⟨bk, S5, ⟨by rw [m2, z1]; omega, by rw [m2, z1]; omega, fun r hr => ?_⟩, ?_, m5.le (by rw [z1]; push_cast; omega), z5.trans m6⟩
  · obtain ⟨x, hx, e1, e2⟩ := zip_right (R := fun (size : Nat) (rs : List Ins) => rs.length = size ∧ ∀ i ∈ rs, i.ok size) m2 m3 hr
    subst e1
    exact ⟨z2 _ hx, e2⟩
  · refine' run_rt (e0 := [some _, some _, some _, none, none, none]) Q.f80 rfl rfl ?h
    case h =>
      unfold b_80
      refine' es_nx (es_asg l1 rfl) ?_
      refine' es_nx z6 ?_
      exact es_rt (es_ret (er_bi (er_cons m1 er_nil) (b_tupL (l_lst m4))))
theorem dmem_p (k : Nat) {S : Store} {a : Nat} {c : Int} (hs : Spr S a c) (hc : c < 10 ^ 10) : ∃ (m : List Int) (S' : Store), OkM m ∧ run q W (k + 3) 81 [.ref a] S = some (.tup (m.map .int), S') ∧ Spr S' a (c + 100) ∧ Kp [a] S S' := by
  have halt := hs.lt
  obtain ⟨r0, S1, p1, p2, p3, p4, p5⟩ := pick_spec Q.f5 (W := W) (k + 1) (many := 4) hs (by omega) (by decide) (by unfold Sm; decide)
  obtain ⟨r1, S2, q1, q2, q3, q4, q5⟩ := pick_spec Q.f5 (W := W) (k + 1) (many := 32) p4 (by omega) (by decide) (by unfold Sm; decide)
  obtain ⟨r2, S3, t1, t2, t3, t4, t5⟩ := pick_spec Q.f5 (W := W) (k + 1) (many := 4) (q4.push (o := .lst [.int (1 + r0), .int (1 + r1)])) (by omega) (by decide) (by unfold Sm; decide)
  have hL : listAt S3 S2.length = some [.int (1 + r0), .int (1 + r1)] := lst_keep t5 l_last (by have := q4.lt; omega)
  have K3 : Kp [a] S S3 := p5.trans (q5.trans (Kp.push.trans t5))
  have e1 : ∀ x, ∃ n : Nat, 1 ≤ n ∧ n ≤ 32 ∧ ev (pm q W (k + 2)) (.idx (.lst (.cons (.bin .add (.lit (.int 1)) (.call 5 [0, 1] (.cons (.var 0) (.cons (.lit (.int 4)) .nil)) .nil)) (.cons (.bin .add (.lit (.int 1)) (.call 5 [0, 1] (.cons (.var 0) (.cons (.lit (.int 32)) .nil)) .nil)) .nil))) (.bi .int (.cons (.cmp .eq (.call 5 [0, 1] (.cons (.var 0) (.cons (.lit (.int 4)) .nil)) .nil) (.lit (.int 0))) .nil))) [some (.ref a), none, x] S = some (.int n, S3) := by
    intro x
    have l1 : ev (pm q W (k + 2)) (.lst (.cons (.bin .add (.lit (.int 1)) (.call 5 [0, 1] (.cons (.var 0) (.cons (.lit (.int 4)) .nil)) .nil)) (.cons (.bin .add (.lit (.int 1)) (.call 5 [0, 1] (.cons (.var 0) (.cons (.lit (.int 32)) .nil)) .nil)) .nil))) [some (.ref a), none, x] S = some (.ref S2.length, S2 ++ [.lst [.int (1 + r0), .int (1 + r1)]]) :=
      er_lst (er_cons (er_bin (er_lit rfl) (er_call (er_cons (er_var rfl) (er_cons (er_lit rfl) er_nil)) er_nil rfl p1) o_add) (er_cons (er_bin (er_lit rfl) (er_call (er_cons (er_var rfl) (er_cons (er_lit rfl) er_nil)) er_nil rfl q1) o_add) er_nil)) (Nat.le_of_ble_eq_true rfl)
    by_cases z : r2 = 0
    · refine ⟨(1 + r1).toNat, by omega, by omega, ?_⟩
      rw [Int.toNat_of_nonneg (by omega)]
      exact er_idx l1 (er_bi (er_cons (er_cmp (er_call (er_cons (er_var rfl) (er_cons (er_lit rfl) er_nil)) er_nil rfl t1) (er_lit rfl) (c_eq_t z)) er_nil) b_bool) (i_lst hL (atN (n := 1) rfl))
    · refine ⟨(1 + r0).toNat, by omega, by omega, ?_⟩
      rw [Int.toNat_of_nonneg (by omega)]
      exact er_idx l1 (er_bi (er_cons (er_cmp (er_call (er_cons (er_var rfl) (er_cons (er_lit rfl) er_nil)) er_nil rfl t1) (er_lit rfl) (c_eq_f z)) er_nil) b_bool) (i_lst hL (atN (n := 0) rfl))
  obtain ⟨n, n1, n2, e1⟩ := e1 none
  obtain ⟨m, S5, m1, m2, m3, m4, m5, m6⟩ := er_lcD (q := q) (W := W) (k := k + 2) (i := .irng (.cons (.var 1) .nil)) (el := .call 6 [0] (.cons (.var 0) .nil) .nil) (t := .nm 2) (own := [2]) (e := [some (.ref a), some (.int n), none]) (S := S3) (S1 := S3) (l := List.range n) (a := a) (c := c + 3) 2 (10 ^ 11) (fun i : Nat => D.int i) D.int (fun _ v => Wd v)
    (er_rng (er_cons (er_var rfl) er_nil) (by omega)) (fun _ _ => rfl)
    (fun x hx S c h1 h2 h3 => by
      obtain ⟨r, S2, q1, q2, q3, q4, q5⟩ := word_spec Q.f5 Q.f6 (W := W) k h1 (by omega)
      exact ⟨[some (.ref a), some (.int n), some (.int x)], r, S2, rfl, er_call (er_cons (er_var rfl) er_nil) er_nil rfl q1, ⟨q2, q3⟩, q4, q5⟩)
    (t4.le (by omega)) (by decide) (by simp; omega) (by simp [sizeLine_eq]; omega)
  rw [List.length_range] at m2 m5
  refine ⟨m, S5, ⟨by omega, by omega, fun v hv => ?_⟩, ?_, m5.le (by omega), K3.trans m6⟩
  · obtain ⟨_, _, h⟩ := zip_right (R := fun (_ : Nat) v => Wd v) (by rw [m2, List.length_range]) m3 hv
    exact h
  · refine' run_rt (e0 := [some _, none, none]) Q.f81 rfl rfl ?h
    case h =>
      unfold b_81
      refine' es_nx (es_asg e1 rfl) ?_
      exact es_rt (es_ret (er_bi (er_cons m1 er_nil) (b_tupL (l_lst m4))))
end
end Tm

set_option Elab.async false
set_option linter.all false
set_option maxRecDepth 100000
set_option maxHeartbeats 8000000
namespace Tm
open PySem L2
local macro_rules | `(tactic| walk_at "sm") => `(tactic| first | assumption | (unfold Sm; first | omega | decide))
local macro_rules | `(tactic| walk_at "in") => `(tactic| first | assumption | omega | decide)
local macro_rules | `(tactic| walk_at "lst") => `(tactic| first | assumption | exact l_last | exact l_lst (by assumption) | exact l_ro (by assumption) | exact l_lst (set_get (by assumption)))
local macro_rules | `(tactic| walk_at "op") => `(tactic| first
  | with_reducible exact o_add
  | with_reducible exact o_sub
  | ((with_reducible refine' o_addT ?h); (case h => first | assumption | exact Nat.le_of_ble_eq_true rfl))
  | with_reducible exact o_band
  | with_reducible exact o_bxor
  | with_reducible exact o_band
  | with_reducible exact o_bxor
  | ((with_reducible refine' o_mod ?h); (case h => walk_at "in"))
  | ((with_reducible refine' o_div ?h ?g); (case h => walk_at "in"); (case g => walk_at "sm"))
  | ((with_reducible refine' o_mul ?h ?g); (case h => walk_at "sm"); (case g => walk_at "sm"))
  | ((with_reducible refine' o_pow ?h ?g); (case h => walk_at "in"); (case g => decide)))
local macro_rules | `(tactic| walk_at "cmp") => `(tactic| first
  | with_reducible assumption
  | with_reducible exact c_isN
  | with_reducible exact c_isnN
  | with_reducible exact c_isT
  | with_reducible exact c_isnT
  | with_reducible exact c_isB
  | ((with_reducible refine' c_eq_t ?h); (case h => walk_at "in"))
  | ((with_reducible refine' c_lt_t ?h); (case h => walk_at "in"))
  | ((with_reducible refine' c_gt_t ?h); (case h => walk_at "in"))
  | ((with_reducible refine' c_ne_t ?h); (case h => walk_at "in"))
  | ((with_reducible refine' c_le_t ?h); (case h => walk_at "in"))
  | ((with_reducible refine' c_ge_t ?h); (case h => walk_at "in"))
  | ((with_reducible refine' c_eq_f ?h); (case h => walk_at "in"))
  | ((with_reducible refine' c_lt_f ?h); (case h => walk_at "in"))
  | ((with_reducible refine' c_gt_f ?h); (case h => walk_at "in"))
  | ((with_reducible refine' c_ne_f ?h); (case h => walk_at "in"))
  | ((with_reducible refine' c_le_f ?h); (case h => walk_at "in"))
  | ((with_reducible refine' c_ge_f ?h); (case h => walk_at "in"))
  | ((with_reducible refine' c_str_t ?h); (case h => with_reducible exact rfl))
  | ((with_reducible refine' c_str_f ?h); (case h => first | assumption | decide))
  | ((with_reducible refine' c_strn_f ?h); (case h => with_reducible exact rfl))
  | ((with_reducible refine' c_strn_t ?h); (case h => first | assumption | decide))
  | ((with_reducible refine' c_in (t := true) ?h ?g ?f ?e); (case h => walk_at "lst"); (case g => exact rfl); (case f => exact rfl); (case e => first | assumption | decide))
  | ((with_reducible refine' c_in (t := false) ?h ?g ?f ?e); (case h => walk_at "lst"); (case g => exact rfl); (case f => exact rfl); (case e => first | assumption | decide))
  | ((with_reducible refine' c_inT (t := true) ?g ?f ?e); (case g => exact rfl); (case f => exact rfl); (case e => first | assumption | decide))
  | ((with_reducible refine' c_inT (t := false) ?g ?f ?e); (case g => exact rfl); (case f => exact rfl); (case e => first | assumption | decide))
  | ((with_reducible refine' c_ninT (t := true) ?g ?f ?e); (case g => exact rfl); (case f => exact rfl); (case e => first | assumption | decide))
  | ((with_reducible refine' c_ninT (t := false) ?g ?f ?e); (case g => exact rfl); (case f => exact rfl); (case e => first | assumption | decide))
  | ((with_reducible refine' c_nin (t := true) ?h ?g ?f ?e); (case h => walk_at "lst"); (case g => exact rfl); (case f => exact rfl); (case e => first | assumption | decide))
  | ((with_reducible refine' c_nin (t := false) ?h ?g ?f ?e); (case h => walk_at "lst"); (case g => exact rfl); (case f => exact rfl); (case e => first | assumption | decide)))
local macro_rules | `(tactic| walk_at "bi") => `(tactic| first | with_reducible assumption | ((with_reducible refine' b_tupL ?h); (case h => walk_at "lst")) | with_reducible exact b_int | with_reducible exact b_bool | with_reducible exact b_abs | with_reducible exact b_max | with_reducible exact b_min | with_reducible exact b_lenT | ((with_reducible refine' b_lenL ?h); (case h => walk_at "lst")) | with_reducible apply_assumption)
local macro_rules | `(tactic| walk_at "pick") => `(tactic| first | with_reducible exact pk1 | with_reducible exact pk2 | with_reducible exact pk3 | with_reducible exact pk4 | with_reducible exact pk5 | with_reducible exact pn1 | with_reducible exact pn2 | with_reducible exact pn3)
local macro_rules | `(tactic| walk_at "call") => `(tactic| first | with_reducible assumption | with_reducible apply_assumption)
local macro_rules | `(tactic| walk_at "ev") => `(tactic| first
  | (with_reducible assumption)
  | ((with_reducible refine' er_env ?he ?h); (case h => with_reducible assumption); (case he => exact rfl))
  | (with_reducible exact er_nil)
  | ((with_reducible refine' er_glob ?h); (case h => assumption))
  | ((with_reducible refine' er_lit ?h); (case h => exact rfl))
  | ((with_reducible refine' er_var ?h); (case h => exact rfl))
  | ((with_reducible refine' er_cons ?h1 ?h2); (case h1 => walk_at "ev"); (case h2 => walk_at "ev"))
  | ((with_reducible refine' er_tup ?h1 ?h2); (case h1 => walk_at "ev"); (case h2 => exact Nat.le_of_ble_eq_true rfl))
  | ((with_reducible refine' er_lst ?h1 ?h2); (case h1 => walk_at "ev"); (case h2 => exact Nat.le_of_ble_eq_true rfl))
  | ((with_reducible refine' er_neg ?h1); (case h1 => walk_at "ev"))
  | ((with_reducible refine' er_isty ?h1 ?h2); (case h1 => walk_at "ev"); (case h2 => first | exact rfl | exact ty_ref (by walk_at "lst")))
  | ((with_reducible refine' er_chain_t ?h1 ?h2 ?h3 ?h4 ?h5); (case h1 => walk_at "ev"); (case h2 => walk_at "ev"); (case h3 => walk_at "cmp"); (case h4 => walk_at "ev"); (case h5 => walk_at "cmp"))
  | ((with_reducible refine' er_slc_to ?h1 ?h2 ?h3 ?h4); (case h1 => walk_at "ev"); (case h2 => exact rfl); (case h3 => walk_at "ev"); (case h4 => first | assumption | omega))
  | ((with_reducible refine' er_slc_from ?h1 ?h2 ?h3 ?h4); (case h1 => walk_at "ev"); (case h2 => exact rfl); (case h3 => walk_at "ev"); (case h4 => first | assumption | omega))
  | ((with_reducible refine' er_app ?h1 ?h2 ?h3); (case h1 => walk_at "ev"); (case h2 => walk_at "ev"); (case h3 => exact push_at (by assumption) (by assumption)))
  | ((with_reducible refine' er_callv ?h1 ?h2 ?h3 ?h4); (case h1 => walk_at "ev"); (case h2 => walk_at "ev"); (case h3 => assumption); (case h4 => walk_at "call"))
  | ((with_reducible refine' er_bin ?h1 ?h2 ?h3); (case h1 => walk_at "ev"); (case h2 => walk_at "ev"); (case h3 => walk_at "op"))
  | ((with_reducible refine' er_idx ?h1 ?h2 ?h3); (case h1 => walk_at "ev"); (case h2 => walk_at "ev"); (case h3 => first | exact i_tup (by first | assumption | rfl) | exact i_lst (by walk_at "lst") (by first | assumption | rfl)))
  | ((with_reducible refine' er_call ?h1 ?h2 ?h3 ?h4); (case h1 => walk_at "ev"); (case h2 => walk_at "ev"); (case h3 => walk_at "pick"); (case h4 => walk_at "call"))
  | ((with_reducible refine' er_bi ?h1 ?h2); (case h1 => walk_at "ev"); (case h2 => walk_at "bi"))
  | ((with_reducible refine' er_cmp ?h1 ?h2 ?h3); (case h1 => walk_at "ev"); (case h2 => walk_at "ev"); (case h3 => walk_at "cmp"))
  | ((with_reducible refine' er_nots ?h1 ?h2); (case h1 => walk_at "ev"); (case h2 => first | exact Neg.t | exact Neg.f))
  | ((with_reducible refine' er_ors ?h1 ?h2); (case h1 => walk_at "ev"); (case h2 => first | exact ors_t | ((with_reducible refine' ors_f ?h3); (case h3 => walk_at "ev"))))
  | ((with_reducible refine' er_ands ?h1 ?h2); (case h1 => walk_at "ev"); (case h2 => first | exact ands_f | ((with_reducible refine' ands_t ?h3); (case h3 => walk_at "ev"))))
  | ((with_reducible refine' er_br ?h1 ?h2); (case h1 => walk_at "ev"); (case h2 => first | ((with_reducible refine' bre_t ?h3); (case h3 => walk_at "ev")) | ((with_reducible refine' bre_f ?h3); (case h3 => walk_at "ev")))))
local macro_rules | `(tactic| walk_at "ex") => `(tactic| first
  | ((with_reducible refine' es_skip2 ?h1 ?h2); (case h1 => exact rfl); (case h2 => exact rfl))
  | ((with_reducible refine' es_sq ?h1 ?h2); (case h1 => walk_at "ex"); (case h2 => first | exact nxt_rt | exact nxt_bk | exact nxt_ct | ((with_reducible refine' nxt_nx ?h3); (case h3 => walk_at "ex"))))
  | ((with_reducible refine' es_ret ?h1); (case h1 => walk_at "ev"))
  | ((with_reducible refine' es_asg ?h1 ?h2); (case h1 => walk_at "ev"); (case h2 => exact rfl))
  | ((with_reducible refine' es_seti ?h1 ?h2 ?h3 ?h4); (case h1 => walk_at "ev"); (case h2 => walk_at "ev"); (case h3 => walk_at "ev"); (case h4 => exact s_set (by first | assumption | exact set_get (by assumption)) rfl))
  | ((with_reducible refine' es_drop ?h1); (case h1 => walk_at "ev"))
  | ((with_reducible refine' es_br ?h1 ?h2); (case h1 => walk_at "ev"); (case h2 => first | ((with_reducible refine' brs_t ?h3); (case h3 => walk_at "ex")) | ((with_reducible refine' brs_f ?h3); (case h3 => walk_at "ex")))))


theorem o_mulL {n : Nat} {j : Int} {xs : List D} {S : Store} (h : S[n]? = some (.lst xs)) (h0 : 0 ≤ j) (h1 : j < 1000) (hl : xs.length * j.toNat ≤ 1000) : binop .mul (.ref n) (.int j) S = some (.ref S.length, S ++ [.lst (List.replicate j.toNat xs).flatten]) := by
  have e1 : decide (-(2 ^ 63) ≤ j) = true := decide_eq_true (by omega)
  have e2 : decide (j < 2 ^ 63) = true := decide_eq_true (by omega)
  have e3 : decide (xs.length * j.toNat ≤ sizeLine) = true := decide_eq_true (by rw [sizeLine_eq]; omega)
  simp only [binop, h, e1, e2, e3, Bool.and_self, if_true, new]
theorem Kp.push4 {A : List Nat} {S : Store} {xs : List O} : Kp A S (S ++ xs) := fun i u n e => by
  have := (List.getElem?_eq_some_iff.mp e).1
  rw [List.getElem?_append_left this]; exact e
def asN (n0 n : Nat) : List (Nat × Nat) := (List.range n).map fun j => (n0 + 4 + 4 * j, n0 + 2 + 4 * j)
theorem asN_mem {n0 n x : Nat} (h : x ∈ (asN n0 n).flatMap fun p => [p.1, p.2]) : ∃ j < n, x = n0 + 4 + 4 * j ∨ x = n0 + 2 + 4 * j := by
  obtain ⟨p, hp, hx⟩ := List.mem_flatMap.mp h
  obtain ⟨j, hj, rfl⟩ := List.mem_map.mp hp
  refine ⟨j, List.mem_range.mp hj, ?_⟩
  simpa using hx
theorem asN_nodup (n0 : Nat) : ∀ n, ((asN n0 n).flatMap fun p => [p.1, p.2]).Nodup
  | 0 => by simp [asN]
  | n + 1 => by
    have e : asN n0 (n + 1) = asN n0 n ++ [(n0 + 4 + 4 * n, n0 + 2 + 4 * n)] := by unfold asN; rw [List.range_succ, List.map_append]; rfl
    rw [e, List.flatMap_append, List.nodup_append]
    refine ⟨asN_nodup n0 n, by simp, fun x hx y hy => ?_⟩
    obtain ⟨j, hj, h⟩ := asN_mem hx
    simp at hy
    omega
def cr0 : Cr := ⟨0, [0, 0, 0, 0, 0, 0, 0, 0], []⟩
/-- what is laid for the cores so far -/
structure Laid (S : Store) (n0 i : Nat) : Prop where
  at_ : ∀ j < i, S[n0 + 4 + 4 * j]? = some (.lst [.int 0, .ref (n0 + 2 + 4 * j), .ref (n0 + 3 + 4 * j)]) ∧ S[n0 + 2 + 4 * j]? = some (.lst [.int 0, .int 0, .int 0, .int 0, .int 0, .int 0, .int 0, .int 0]) ∧ S[n0 + 3 + 4 * j]? = some (.lst [])
theorem Own.ext {Z Z' : List Nat} {S : Store} {o L M : Nat} {as : List (Nat × Nat)} {s : Sd} (h : Own Z S o L M as s) (hs : ∀ x ∈ Z, x ∈ Z') (hn : ∀ x ∈ Z', x ∈ Z ∨ S.length ≤ x) : Own Z' S o L M as s := by
  have key : ∀ x, x ∉ Z → (∃ u, S[x]? = some u) → x ∉ Z' := fun x hx ⟨u, hu⟩ hz => by
    rcases hn x hz with h1 | h1
    · exact hx h1
    · have := (List.getElem?_eq_some_iff.mp hu).1; omega
  refine ⟨h.ho, h.hL, h.hM, h.hn, fun j p c h1 h2 => ?_, key _ h.oZ ⟨_, h.ho⟩, key _ h.LZ ⟨_, h.hL⟩, h.nd, fun x hx => hs x (h.sub x hx)⟩
  obtain ⟨l, g1, g2, g3, g4⟩ := h.hc j p c h1 h2
  exact ⟨l, g1, g2, g3, key _ g4 ⟨_, g3⟩⟩
section
variable {q : Pr} (Q : HK q) {W : Nat}
include Q
theorem begun_p (k : Nat) (S : Store) (bk : List (List Ins)) (m : List Int) (hb : bk.length ≤ 4) :
    ∃ (o L M : Nat) (as : List (Nat × Nat)) (S' : Store), run q W (k + 1) 82 [dBk bk, .tup (m.map .int)] S = some (.ref o, S') ∧ Kp [] S S' ∧ (FP M as).Nodup ∧ (∀ x ∈ FP M as, S.length ≤ x ∧ x < S'.length) ∧
      ∀ Z : List Nat, (∀ x ∈ FP M as, x ∈ Z) → (∀ x ∈ Z, x ∈ FP M as ∨ x < S.length ∨ S'.length ≤ x) → Own Z S' o L M as ⟨bk.map fun _ => cr0, m⟩ := by
  have eb : dBk bk = .tup (bk.map dRows) := rfl
  let Inv : List D → List D → Store → Prop := fun ds acc S1 => ∃ i, i ≤ bk.length ∧ ds = (bk.drop i).map dRows ∧ acc = (List.range i).map (fun j => D.ref (S.length + 4 + 4 * j)) ∧ S1.length = S.length + 1 + 4 * i ∧ S1[S.length]? = some (.lst acc) ∧ Kp [] S S1 ∧ Laid S1 S.length i
  obtain ⟨acc', S1, c1, c2⟩ := lc_inv (cnd := ev (pm q W k) (.lit (.bl true))) (elt := ev (pm q W k) (.lst (.cons (.lit (.int 0)) (.cons (.bin .mul (.lst (.cons (.lit (.int 0)) .nil)) (.lit (.int 8))) (.cons (.lst .nil) .nil))))) (t := .nm 2) (w := [some (dBk bk), some (.tup (m.map .int)), none]) (n := S.length) (cks := []) Inv (fun _ _ _ _ => rfl)
    (fun d ds acc S1 hi => by
      obtain ⟨i, i1, i2, i3, i4, i5, i6, i7⟩ := hi
      have hlt : i < bk.length := by
        by_cases z : i < bk.length
        · exact z
        · rw [List.drop_of_length_le (by omega)] at i2; cases i2
      rw [List.drop_eq_getElem_cons hlt, List.map_cons] at i2
      injection i2 with j1 j2
      subst j1
      have e1 : ev (pm q W k) (.lst (.cons (.lit (.int 0)) (.cons (.bin .mul (.lst (.cons (.lit (.int 0)) .nil)) (.lit (.int 8))) (.cons (.lst .nil) .nil)))) [some (dBk bk), some (.tup (m.map .int)), some (dRows bk[i])] S1 = some (.ref (S1.length + 3), S1 ++ [.lst [.int 0], .lst [.int 0, .int 0, .int 0, .int 0, .int 0, .int 0, .int 0, .int 0], .lst [], .lst [.int 0, .ref (S1.length + 1), .ref (S1.length + 2)]]) := by
        have z1 : ev (pm q W k) (.lst (.cons (.lit (.int 0)) .nil)) [some (dBk bk), some (.tup (m.map .int)), some (dRows bk[i])] S1 = some (.ref S1.length, S1 ++ [.lst [.int 0]]) := er_lst (er_cons (er_lit rfl) er_nil) (Nat.le_of_ble_eq_true rfl)
        have z2 := o_mulL (j := 8) (g_last (S := S1) (o := .lst [.int 0])) (by decide) (by decide) (by decide)
        have this : ev (pm q W k) (.lst (.cons (.lit (.int 0)) (.cons (.bin .mul (.lst (.cons (.lit (.int 0)) .nil)) (.lit (.int 8))) (.cons (.lst .nil) .nil)))) [some (dBk bk), some (.tup (m.map .int)), some (dRows bk[i])] S1 = some _ := er_lst (er_cons (er_lit rfl) (er_cons (er_bin z1 (er_lit rfl) z2) (er_cons (er_lst er_nil (Nat.zero_le _)) er_nil))) (Nat.le_of_ble_eq_true rfl)
        rw [show (List.replicate (8 : Int).toNat [D.int 0]).flatten = [.int 0, .int 0, .int 0, .int 0, .int 0, .int 0, .int 0, .int 0] from rfl] at this
        simpa using this
      refine ⟨[some (dBk bk), some (.tup (m.map .int)), some (dRows bk[i])], S1, rfl, .inr ⟨_, _, er_lit rfl, e1, ?_, ?_, i + 1, by omega, j2, ?_, ?_, ?_, ?_, ⟨fun j hj => ?_⟩⟩⟩
      · rw [List.getElem?_append_left (by omega)]; exact i5
      · rw [i3, sizeLine_eq]; simp; omega
      · rw [i3, List.range_succ, List.map_append]
        simp only [List.map_cons, List.map_nil]
        congr 3
        omega
      · simp; omega
      · rw [List.getElem?_set_self (by simp; omega)]
      · exact (i6.trans (Kp.push4 (S := S1))).set_new (Nat.le_refl _)
      · have nn : ∀ x, S.length < x → ((S1 ++ [O.lst [.int 0], .lst [.int 0, .int 0, .int 0, .int 0, .int 0, .int 0, .int 0, .int 0], .lst [], .lst [.int 0, .ref (S1.length + 1), .ref (S1.length + 2)]]).set S.length (.lst (acc ++ [.ref (S1.length + 3)])))[x]? = (S1 ++ [O.lst [.int 0], .lst [.int 0, .int 0, .int 0, .int 0, .int 0, .int 0, .int 0, .int 0], .lst [], .lst [.int 0, .ref (S1.length + 1), .ref (S1.length + 2)]])[x]? := fun x hx => List.getElem?_set_ne (by omega)
        by_cases e : j < i
        · obtain ⟨a1, a2, a3⟩ := i7.at_ j e
          have l1 := (List.getElem?_eq_some_iff.mp a1).1
          have l2 := (List.getElem?_eq_some_iff.mp a2).1
          have l3 := (List.getElem?_eq_some_iff.mp a3).1
          exact ⟨by rw [nn _ (by omega), List.getElem?_append_left l1]; exact a1, by rw [nn _ (by omega), List.getElem?_append_left l2]; exact a2, by rw [nn _ (by omega), List.getElem?_append_left l3]; exact a3⟩
        · have e : j = i := by omega
          subst e
          refine ⟨?_, ?_, ?_⟩
          · rw [nn _ (by omega), List.getElem?_append_right (by omega), show S.length + 4 + 4 * j - S1.length = 3 by omega, show S.length + 2 + 4 * j = S1.length + 1 by omega, show S.length + 3 + 4 * j = S1.length + 2 by omega]; rfl
          · rw [nn _ (by omega), List.getElem?_append_right (by omega), show S.length + 2 + 4 * j - S1.length = 1 by omega]; rfl
          · rw [nn _ (by omega), List.getElem?_append_right (by omega), show S.length + 3 + 4 * j - S1.length = 2 by omega]; rfl)
    (bk.map dRows) [] (S ++ [.lst []]) ⟨0, by omega, by simp, rfl, by simp, g_last, Kp.push, ⟨fun j hj => by omega⟩⟩
  obtain ⟨i, i1, i2, i3, i4, i5, i6, i7⟩ := c2
  have hi : i = bk.length := by
    have := congrArg List.length i2
    simp at this; omega
  subst hi
  have V1 := g_last (S := S1) (o := .lst (m.map D.int))
  have run1 : run q W (k + 1) 82 [dBk bk, .tup (m.map .int)] S = some (.ref (S1.length + 1), (S1 ++ [.lst (m.map D.int)]) ++ [.lst [.ref S.length, .ref S1.length]]) := by
    have bl : biop .list [.tup (m.map D.int)] S1 = some (.ref S1.length, S1 ++ [.lst (m.map D.int)]) := rfl
    have el : (S1 ++ [O.lst (m.map D.int)]).length = S1.length + 1 := by simp
    rw [← el]
    refine' run_rt (e0 := [some _, some _, none]) Q.f82 rfl rfl ?h
    case h =>
      unfold b_82
      exact es_rt (es_ret (er_lst (er_cons (er_lc (er_itv (er_var rfl) rfl) c1) (er_cons (er_bi (er_cons (er_var rfl) er_nil) bl) er_nil)) (Nat.le_of_ble_eq_true rfl)))
  have Kf : Kp [] S ((S1 ++ [.lst (m.map D.int)]) ++ [.lst [.ref S.length, .ref S1.length]]) := (i6.trans Kp.push).trans Kp.push
  have K1 : Kp [] S1 ((S1 ++ [.lst (m.map D.int)]) ++ [.lst [.ref S.length, .ref S1.length]]) := Kp.push.trans Kp.push
  have fpm : ∀ x ∈ FP S1.length (asN S.length bk.length), S.length < x ∧ x ≤ S1.length ∧ (x = S1.length ∨ ∃ j < bk.length, x = S.length + 4 + 4 * j ∨ x = S.length + 2 + 4 * j) := by
    intro x hx
    unfold FP at hx
    rcases List.mem_cons.mp hx with rfl | hx
    · exact ⟨by omega, Nat.le_refl _, .inl rfl⟩
    · obtain ⟨j, hj, h⟩ := asN_mem hx
      exact ⟨by omega, by omega, .inr ⟨j, hj, h⟩⟩
  refine ⟨S1.length + 1, S.length, S1.length, asN S.length bk.length, _, run1, Kf, ?_, fun x hx => ?_, fun Z z1 z2 => ?_⟩
  · unfold FP
    rw [List.nodup_cons]
    refine ⟨fun z => ?_, asN_nodup _ _⟩
    obtain ⟨j, hj, h⟩ := asN_mem z
    omega
  · have := fpm x hx
    simp; omega
  · have nz : ∀ x, (x = S.length ∨ x = S1.length + 1 ∨ ∃ j < bk.length, x = S.length + 3 + 4 * j) → x ∉ Z := by
      intro x hx hz
      rcases z2 x hz with h | h | h
      · have h3 := (fpm x h)
        rcases hx with rfl | rfl | ⟨j, hj, rfl⟩
        · omega
        · omega
        · rcases h3.2.2 with e | ⟨j', hj', e⟩ <;> omega
      · rcases hx with rfl | rfl | ⟨j, hj, rfl⟩ <;> omega
      · simp at h
        rcases hx with rfl | rfl | ⟨j, hj, rfl⟩ <;> omega
    refine ⟨?_, ?_, ?_, ?_, fun j p c h1 h2 => ?_, nz _ (.inr (.inl rfl)), nz _ (.inl rfl), ?_, z1⟩
    · rw [List.getElem?_append_right (by simp)]; simp
    · refine K1 _ _ (by simp) ?_
      rw [i5, i3]
      unfold asN
      rw [List.map_map]; rfl
    · refine Kp.push (A := []) _ _ (by simp) ?_
      exact V1
    · simp [asN]
    · have hj : j < bk.length := by have := (List.getElem?_eq_some_iff.mp h1).1; simpa [asN] using this
      unfold asN at h1
      rw [List.getElem?_map, List.getElem?_range hj] at h1
      simp only [Option.map_some, Option.some.injEq] at h1
      subst h1
      have hc : c = cr0 := by
        simp only [List.getElem?_map, Option.map_eq_some_iff] at h2
        obtain ⟨_, _, rfl⟩ := h2
        rfl
      subst hc
      obtain ⟨a1, a2, a3⟩ := i7.at_ j hj
      exact ⟨S.length + 3 + 4 * j, K1 _ _ (by simp) a1, K1 _ _ (by simp) a2, K1 _ _ (by simp) a3, nz _ (.inr (.inr ⟨j, hj, rfl⟩))⟩
    · unfold FP
      rw [List.nodup_cons]
      refine ⟨fun z => ?_, asN_nodup _ _⟩
      obtain ⟨j, hj, h⟩ := asN_mem z
      omega
end
end Tm

set_option Elab.async false
set_option linter.all false
set_option maxRecDepth 100000
set_option maxHeartbeats 8000000
namespace Tm
open PySem L2
local macro_rules | `(tactic| walk_at "sm") => `(tactic| first | assumption | (unfold Sm; first | omega | decide))
local macro_rules | `(tactic| walk_at "in") => `(tactic| first | assumption | omega | decide)
local macro_rules | `(tactic| walk_at "lst") => `(tactic| first | assumption | exact l_last | exact l_lst (by assumption) | exact l_ro (by assumption) | exact l_lst (set_get (by assumption)))
local macro_rules | `(tactic| walk_at "op") => `(tactic| first
  | with_reducible exact o_add
  | with_reducible exact o_sub
  | ((with_reducible refine' o_addT ?h); (case h => first | assumption | exact Nat.le_of_ble_eq_true rfl))
  | with_reducible exact o_band
  | with_reducible exact o_bxor
  | with_reducible exact o_band
  | with_reducible exact o_bxor
  | ((with_reducible refine' o_mod ?h); (case h => walk_at "in"))
  | ((with_reducible refine' o_div ?h ?g); (case h => walk_at "in"); (case g => walk_at "sm"))
  | ((with_reducible refine' o_mul ?h ?g); (case h => walk_at "sm"); (case g => walk_at "sm"))
  | ((with_reducible refine' o_pow ?h ?g); (case h => walk_at "in"); (case g => decide)))
local macro_rules | `(tactic| walk_at "cmp") => `(tactic| first
  | with_reducible assumption
  | with_reducible exact c_isN
  | with_reducible exact c_isnN
  | with_reducible exact c_isT
  | with_reducible exact c_isnT
  | with_reducible exact c_isB
  | ((with_reducible refine' c_eq_t ?h); (case h => walk_at "in"))
  | ((with_reducible refine' c_lt_t ?h); (case h => walk_at "in"))
  | ((with_reducible refine' c_gt_t ?h); (case h => walk_at "in"))
  | ((with_reducible refine' c_ne_t ?h); (case h => walk_at "in"))
  | ((with_reducible refine' c_le_t ?h); (case h => walk_at "in"))
  | ((with_reducible refine' c_ge_t ?h); (case h => walk_at "in"))
  | ((with_reducible refine' c_eq_f ?h); (case h => walk_at "in"))
  | ((with_reducible refine' c_lt_f ?h); (case h => walk_at "in"))
  | ((with_reducible refine' c_gt_f ?h); (case h => walk_at "in"))
  | ((with_reducible refine' c_ne_f ?h); (case h => walk_at "in"))
  | ((with_reducible refine' c_le_f ?h); (case h => walk_at "in"))
  | ((with_reducible refine' c_ge_f ?h); (case h => walk_at "in"))
  | ((with_reducible refine' c_str_t ?h); (case h => with_reducible exact rfl))
  | ((with_reducible refine' c_str_f ?h); (case h => first | assumption | decide))
  | ((with_reducible refine' c_strn_f ?h); (case h => with_reducible exact rfl))
  | ((with_reducible refine' c_strn_t ?h); (case h => first | assumption | decide))
  | ((with_reducible refine' c_in (t := true) ?h ?g ?f ?e); (case h => walk_at "lst"); (case g => exact rfl); (case f => exact rfl); (case e => first | assumption | decide))
  | ((with_reducible refine' c_in (t := false) ?h ?g ?f ?e); (case h => walk_at "lst"); (case g => exact rfl); (case f => exact rfl); (case e => first | assumption | decide))
  | ((with_reducible refine' c_inT (t := true) ?g ?f ?e); (case g => exact rfl); (case f => exact rfl); (case e => first | assumption | decide))
  | ((with_reducible refine' c_inT (t := false) ?g ?f ?e); (case g => exact rfl); (case f => exact rfl); (case e => first | assumption | decide))
  | ((with_reducible refine' c_ninT (t := true) ?g ?f ?e); (case g => exact rfl); (case f => exact rfl); (case e => first | assumption | decide))
  | ((with_reducible refine' c_ninT (t := false) ?g ?f ?e); (case g => exact rfl); (case f => exact rfl); (case e => first | assumption | decide))
  | ((with_reducible refine' c_nin (t := true) ?h ?g ?f ?e); (case h => walk_at "lst"); (case g => exact rfl); (case f => exact rfl); (case e => first | assumption | decide))
  | ((with_reducible refine' c_nin (t := false) ?h ?g ?f ?e); (case h => walk_at "lst"); (case g => exact rfl); (case f => exact rfl); (case e => first | assumption | decide)))
local macro_rules | `(tactic| walk_at "bi") => `(tactic| first | with_reducible assumption | ((with_reducible refine' b_tupL ?h); (case h => walk_at "lst")) | with_reducible exact b_int | with_reducible exact b_bool | with_reducible exact b_abs | with_reducible exact b_max | with_reducible exact b_min | with_reducible exact b_lenT | ((with_reducible refine' b_lenL ?h); (case h => walk_at "lst")) | with_reducible apply_assumption)
local macro_rules | `(tactic| walk_at "pick") => `(tactic| first | with_reducible exact pk1 | with_reducible exact pk2 | with_reducible exact pk3 | with_reducible exact pk4 | with_reducible exact pk5 | with_reducible exact pn1 | with_reducible exact pn2 | with_reducible exact pn3)
local macro_rules | `(tactic| walk_at "call") => `(tactic| first | with_reducible assumption | with_reducible apply_assumption)
local macro_rules | `(tactic| walk_at "ev") => `(tactic| first
  | (with_reducible assumption)
  | ((with_reducible refine' er_env ?he ?h); (case h => with_reducible assumption); (case he => exact rfl))
  | (with_reducible exact er_nil)
  | ((with_reducible refine' er_glob ?h); (case h => assumption))
  | ((with_reducible refine' er_lit ?h); (case h => exact rfl))
  | ((with_reducible refine' er_var ?h); (case h => exact rfl))
  | ((with_reducible refine' er_cons ?h1 ?h2); (case h1 => walk_at "ev"); (case h2 => walk_at "ev"))
  | ((with_reducible refine' er_tup ?h1 ?h2); (case h1 => walk_at "ev"); (case h2 => exact Nat.le_of_ble_eq_true rfl))
  | ((with_reducible refine' er_lst ?h1 ?h2); (case h1 => walk_at "ev"); (case h2 => exact Nat.le_of_ble_eq_true rfl))
  | ((with_reducible refine' er_neg ?h1); (case h1 => walk_at "ev"))
  | ((with_reducible refine' er_isty ?h1 ?h2); (case h1 => walk_at "ev"); (case h2 => first | exact rfl | exact ty_ref (by walk_at "lst")))
  | ((with_reducible refine' er_chain_t ?h1 ?h2 ?h3 ?h4 ?h5); (case h1 => walk_at "ev"); (case h2 => walk_at "ev"); (case h3 => walk_at "cmp"); (case h4 => walk_at "ev"); (case h5 => walk_at "cmp"))
  | ((with_reducible refine' er_slc_to ?h1 ?h2 ?h3 ?h4); (case h1 => walk_at "ev"); (case h2 => exact rfl); (case h3 => walk_at "ev"); (case h4 => first | assumption | omega))
  | ((with_reducible refine' er_slc_from ?h1 ?h2 ?h3 ?h4); (case h1 => walk_at "ev"); (case h2 => exact rfl); (case h3 => walk_at "ev"); (case h4 => first | assumption | omega))
  | ((with_reducible refine' er_app ?h1 ?h2 ?h3); (case h1 => walk_at "ev"); (case h2 => walk_at "ev"); (case h3 => exact push_at (by assumption) (by assumption)))
  | ((with_reducible refine' er_callv ?h1 ?h2 ?h3 ?h4); (case h1 => walk_at "ev"); (case h2 => walk_at "ev"); (case h3 => assumption); (case h4 => walk_at "call"))
  | ((with_reducible refine' er_bin ?h1 ?h2 ?h3); (case h1 => walk_at "ev"); (case h2 => walk_at "ev"); (case h3 => walk_at "op"))
  | ((with_reducible refine' er_idx ?h1 ?h2 ?h3); (case h1 => walk_at "ev"); (case h2 => walk_at "ev"); (case h3 => first | exact i_tup (by first | assumption | rfl) | exact i_lst (by walk_at "lst") (by first | assumption | rfl)))
  | ((with_reducible refine' er_call ?h1 ?h2 ?h3 ?h4); (case h1 => walk_at "ev"); (case h2 => walk_at "ev"); (case h3 => walk_at "pick"); (case h4 => walk_at "call"))
  | ((with_reducible refine' er_bi ?h1 ?h2); (case h1 => walk_at "ev"); (case h2 => walk_at "bi"))
  | ((with_reducible refine' er_cmp ?h1 ?h2 ?h3); (case h1 => walk_at "ev"); (case h2 => walk_at "ev"); (case h3 => walk_at "cmp"))
  | ((with_reducible refine' er_nots ?h1 ?h2); (case h1 => walk_at "ev"); (case h2 => first | exact Neg.t | exact Neg.f))
  | ((with_reducible refine' er_ors ?h1 ?h2); (case h1 => walk_at "ev"); (case h2 => first | exact ors_t | ((with_reducible refine' ors_f ?h3); (case h3 => walk_at "ev"))))
  | ((with_reducible refine' er_ands ?h1 ?h2); (case h1 => walk_at "ev"); (case h2 => first | exact ands_f | ((with_reducible refine' ands_t ?h3); (case h3 => walk_at "ev"))))
  | ((with_reducible refine' er_br ?h1 ?h2); (case h1 => walk_at "ev"); (case h2 => first | ((with_reducible refine' bre_t ?h3); (case h3 => walk_at "ev")) | ((with_reducible refine' bre_f ?h3); (case h3 => walk_at "ev")))))
local macro_rules | `(tactic| walk_at "ex") => `(tactic| first
  | ((with_reducible refine' es_skip2 ?h1 ?h2); (case h1 => exact rfl); (case h2 => exact rfl))
  | ((with_reducible refine' es_sq ?h1 ?h2); (case h1 => walk_at "ex"); (case h2 => first | exact nxt_rt | exact nxt_bk | exact nxt_ct | ((with_reducible refine' nxt_nx ?h3); (case h3 => walk_at "ex"))))
  | ((with_reducible refine' es_ret ?h1); (case h1 => walk_at "ev"))
  | ((with_reducible refine' es_asg ?h1 ?h2); (case h1 => walk_at "ev"); (case h2 => exact rfl))
  | ((with_reducible refine' es_seti ?h1 ?h2 ?h3 ?h4); (case h1 => walk_at "ev"); (case h2 => walk_at "ev"); (case h3 => walk_at "ev"); (case h4 => exact s_set (by first | assumption | exact set_get (by assumption)) rfl))
  | ((with_reducible refine' es_drop ?h1); (case h1 => walk_at "ev"))
  | ((with_reducible refine' es_br ?h1 ?h2); (case h1 => walk_at "ev"); (case h2 => first | ((with_reducible refine' brs_t ?h3); (case h3 => walk_at "ex")) | ((with_reducible refine' brs_f ?h3); (case h3 => walk_at "ex")))))


theorem is_atR {rs : List Ins} {row : Nat} {S : Store} : cmpop .is_ (atR rs row) .non S = some (isStop rs row) := by
  unfold atR isStop
  cases rs[row]? with
  | none => rfl
  | some i =>
    simp only
    by_cases z : i.nm = "stop"
    · rw [if_pos z, decide_eq_true z]; rfl
    · rw [if_neg z, decide_eq_false z]; rfl
section
variable {q : Pr} (Q : HK q) {W : Nat}
include Q
theorem looked_p (k : Nat) {Z : List Nat} {S : Store} {o L M a t : Nat} {as : List (Nat × Nat)} {s : Sd} {bk : List (List Ins)} {c : Int} (hs : Spr S a c) (hc : c < 10 ^ 11) (h : Own Z S o L M as s) (hZ : ∀ x ∈ Z, x < S.length) (haZ : a ∈ Z) (haF : a ∉ FP M as) (hB : OkB bk) (ok : OkS bk t s) :
    ∃ S', run q W (k + 8) 90 [.ref a, dBk bk, dSd s, .ref o] S = some (.bl true, S') ∧ Spr S' a (c + 1) ∧ Kp [a] S S' := by
  have halt := hs.lt
  have hA : ∀ x ∈ [a], x ∈ Z ∧ x ∉ FP M as := fun x hx => by simp at hx; subst hx; exact ⟨haZ, haF⟩
  obtain ⟨S1, a1, d1, k1⟩ := llets_p Q (W := W) (k + 5) h hZ hB ok
  obtain ⟨f, S2, a2, f1, d2, k2⟩ := plainsteps_p Q (W := W) k S1 hB ok
  have hd1 : S1[S.length]? = some (.lst ((lets bk s).map dSt)) := d1
  have lS1 : S.length < S1.length := (List.getElem?_eq_some_iff.mp hd1).1
  have hd2 := k2 _ _ (by simp) hd1
  have hf : S.length ≠ f := by omega
  have a3 := likeL_p Q (W := W) (k + 6) S2 (s := s) hB.l1 (l_lst d2) (l_lst hd2)
  have ll := lets_le bk s
  have hb1 := hB.l1
  have hb0 := hB.l0
  -- the list that was told is spoilt
  have pu := push_at (d := .tup [.str "flush", .int 0]) d2 (by rw [sizeLine_eq]; simp; omega)
  have K3 : Kp [] S (S2.set f (.lst ((lets bk s).map dSt ++ [.tup [.str "flush", .int 0]]))) := Kp.from (k1.trans k2) Kp.set (by omega)
  have hd3 : (S2.set f (.lst ((lets bk s).map dSt ++ [.tup [.str "flush", .int 0]])))[S.length]? = some (.lst ((lets bk s).map dSt)) := by rw [List.getElem?_set_ne (Ne.symm hf)]; exact hd2
  obtain ⟨r, S4, p1, p2, p3, p4, p5⟩ := pick_spec Q.f5 (W := W) (k + 6) (many := (bk.length : Int)) (hs.kp0 K3) (by omega) (by omega) (by unfold Sm; omega)
  have hSa : S.length ≠ a := by omega
  have hd4 := p5 _ _ (by simp; exact hSa) hd3
  have K4 : Kp [a] S S4 := K3.nil.trans p5
  have en := eq_nil (S := S4 ++ [.lst []]) (m := S.length) (n := S4.length) (ds := (lets bk s).map dSt) ((Kp.push).at (l_lst hd4)) l_last (dp := 1) (w := 102) (nw_lets hb1) (by decide) (by simp; omega)
  have eem : ((lets bk s).map dSt).isEmpty = (lets bk s).isEmpty := by cases lets bk s <;> rfl
  rw [eem] at en
  have K5 : Kp [a] S (S4 ++ [.lst []]) := K4.trans Kp.push
  have O5 := h.kp K5 hA
  have hd5 : (S4 ++ [O.lst []])[S.length]? = some (.lst ((lets bk s).map dSt)) := Kp.push (A := []) _ _ (by simp) hd4
  obtain ⟨rs, cc, g1, g2, g3⟩ := ok.get (j := r.toNat) (by omega)
  have hr : r = (r.toNat : Int) := by omega
  have a4 := lat_p Q (W := W) (k + 6) O5 g1 g2 g3.row
  rw [← hr] at a4
  obtain ⟨S6, a5, k6⟩ := hasended_p Q (W := W) k (S4 ++ [.lst []]) hB ok
  obtain ⟨S7, a6, k7⟩ := hasended_p Q (W := W) k S6 hB ok
  rw [ended_lets ok] at a5 a6
  obtain ⟨S8, a7, k8⟩ := hasstopped_p Q (W := W) k S7 hB ok g1 g2
  obtain ⟨S9, a8, k9⟩ := hasstopped_p Q (W := W) k S8 hB ok g1 g2
  rw [← hr] at a7 a8
  obtain ⟨f', S10, a9, f1', d10, k10⟩ := plainsteps_p Q (W := W) k S9 hB ok
  have K69 : Kp [] (S4 ++ [.lst []]) S10 := (((k6.trans k7).trans k8).trans k9).trans k10
  have a10 := likeL_p Q (W := W) (k + 6) S10 (s := s) hb1 (l_lst d10) (l_lst (K69 _ _ (by simp) hd5))
  have t1 := tells_p Q (W := W) (k + 6) S6 (lets bk s).isEmpty
  have t2 := tells_p Q (W := W) (k + 6) S7 (lets bk s).isEmpty
  have t3 := tells_p Q (W := W) (k + 6) S8 (isStop rs cc.row)
  have t4 := tells_p Q (W := W) (k + 6) S9 (isStop rs cc.row)
  refine ⟨S10, ?_, (p4.push.kp0 K69), K5.trans K69.nil⟩
  refine' run_rt (e0 := [some _, some _, some _, some _, none, none, none, none, none]) Q.f90 rfl rfl ?h
  case h =>
    unfold b_90
    refine' es_nx (es_asg (er_call (er_cons (er_var rfl) (er_cons (er_var rfl) er_nil)) er_nil rfl a1) rfl) ?_
    refine' es_nx (es_asg (er_call (er_cons (er_var rfl) (er_cons (er_var rfl) er_nil)) er_nil rfl a2) rfl) ?_
    refine' es_nx (es_if_f (er_or_f (er_not_f (er_isty (er_var rfl) (ty_ref (l_lst d2)))) (er_not_f (er_call (er_cons (er_var rfl) (er_cons (er_var rfl) er_nil)) er_nil rfl a3))) es_skip) ?_
    refine' es_nx (es_drop (er_app (er_var rfl) (er_tup (er_cons (er_lit rfl) (er_cons (er_lit rfl) er_nil)) (Nat.le_of_ble_eq_true rfl)) pu)) ?_
    refine' es_nx (es_asg (er_tup (er_cons (er_call (er_cons (er_var rfl) (er_cons (er_bi (er_cons (er_var rfl) er_nil) len_tup) er_nil)) er_nil rfl p1) (er_cons (er_cmp (er_var rfl) (er_lst er_nil (Nat.zero_le _)) en) er_nil)) (Nat.le_of_ble_eq_true rfl)) rfl) ?_
    refine' es_nx (es_asg (er_cmp (er_call (er_cons (er_var rfl) (er_cons (er_var rfl) (er_cons (er_var rfl) er_nil))) er_nil rfl a4) (er_lit rfl) is_atR) rfl) ?_
    refine' es_nx (es_if_f (er_or_f (er_not_f (er_call (er_cons (er_call (er_cons (er_var rfl) (er_cons (er_var rfl) er_nil)) er_nil rfl a5) (er_cons (er_var rfl) er_nil)) er_nil rfl t1)) (er_not_f (er_call (er_cons (er_call er_nil (er_cons (er_var rfl) (er_cons (er_var rfl) er_nil)) rfl a6) (er_cons (er_var rfl) er_nil)) er_nil rfl t2))) es_skip) ?_
    refine' es_nx (es_if_f (er_not_f (er_call (er_cons (er_call (er_cons (er_var rfl) (er_cons (er_var rfl) (er_cons (er_var rfl) er_nil))) er_nil rfl a7) (er_cons (er_var rfl) er_nil)) er_nil rfl t3)) es_skip) ?_
    refine' es_nx (es_if_f (er_not_f (er_call (er_cons (er_call er_nil (er_cons (er_var rfl) (er_cons (er_var rfl) (er_cons (er_var rfl) er_nil))) rfl a8) (er_cons (er_var rfl) er_nil)) er_nil rfl t4)) es_skip) ?_
    exact es_rt (es_ret (er_call (er_cons (er_call er_nil (er_cons (er_var rfl) (er_cons (er_var rfl) er_nil)) rfl a9) (er_cons (er_var rfl) er_nil)) er_nil rfl a10))
end
/-- a machine of the law: the book, the stand, the law's own, and what was told so far -/
structure Mch (Z : List Nat) (S : Store) (mc o L M : Nat) (as : List (Nat × Nat)) (bk : List (List Ins)) (s : Sd) (t : Nat) : Prop where
  own : Own Z S o L M as s
  hB : OkB bk
  ok : OkS bk t s
  hist : ∃ (h : Nat) (ps : List Nat), S[mc]? = some (.lst [dBk bk, dSd s, .ref o, .ref h]) ∧ S[h]? = some (.lst (ps.map D.ref)) ∧ h ∉ Z ∧ ps.length ≤ t + 1 ∧ ∀ p ∈ ps, p ∉ Z ∧ ∃ d, Nice (.tup d) ∧ S[p]? = some (.lst [.tup d, .tup d])
  mZ : mc ∈ Z
  mF : mc ∉ FP M as
theorem OkS.mono {bk : List (List Ins)} {t : Nat} {s : Sd} (h : OkS bk t s) : OkS bk (t + 1) s := ⟨h.len, h.mem, fun p hp => (h.cs p hp).mono⟩
section
variable {Z : List Nat} {S S' : Store} {mc o L M t : Nat} {as : List (Nat × Nat)} {bk : List (List Ins)} {s : Sd}
theorem Mch.kp (h : Mch Z S mc o L M as bk s t) {A : List Nat} (k : Kp A S S') (hA : ∀ x ∈ A, x ∈ Z ∧ x ∉ mc :: FP M as) : Mch Z S' mc o L M as bk s t := by
  obtain ⟨g, ps, g1, g2, g3, g4, g5⟩ := h.hist
  have nz : ∀ x, x ∉ Z → x ∉ A := fun x hx hy => hx (hA x hy).1
  refine ⟨h.own.kp k fun x hx => ⟨(hA x hx).1, fun z => (hA x hx).2 (List.mem_cons_of_mem _ z)⟩, h.hB, h.ok, ⟨g, ps, k _ _ (fun z => (hA _ z).2 List.mem_cons_self) g1, k _ _ (nz _ g3) g2, g3, g4, fun p hp => ?_⟩, h.mZ, h.mF⟩
  obtain ⟨p1, d, p2, p3⟩ := g5 p hp
  exact ⟨p1, d, p2, k _ _ (nz _ p1) p3⟩
theorem Mch.ext {Z' : List Nat} (h : Mch Z S mc o L M as bk s t) (hs : ∀ x ∈ Z, x ∈ Z') (hn : ∀ x ∈ Z', x ∈ Z ∨ S.length ≤ x) : Mch Z' S mc o L M as bk s t := by
  have key : ∀ x, x ∉ Z → (∃ u, S[x]? = some u) → x ∉ Z' := fun x hx ⟨u, hu⟩ hz => by
    rcases hn x hz with h1 | h1
    · exact hx h1
    · have := (List.getElem?_eq_some_iff.mp hu).1; omega
  obtain ⟨g, ps, g1, g2, g3, g4, g5⟩ := h.hist
  refine ⟨h.own.ext hs hn, h.hB, h.ok, ⟨g, ps, g1, g2, key _ g3 ⟨_, g2⟩, g4, fun p hp => ?_⟩, hs _ h.mZ, h.mF⟩
  obtain ⟨p1, d, p2, p3⟩ := g5 p hp
  exact ⟨key _ p1 ⟨_, p3⟩, d, p2, p3⟩
theorem Mch.mono (h : Mch Z S mc o L M as bk s t) : Mch Z S mc o L M as bk s (t + 1) := by
  obtain ⟨g, ps, g1, g2, g3, g4, g5⟩ := h.hist
  exact ⟨h.own, h.hB, h.ok.mono, ⟨g, ps, g1, g2, g3, by omega, g5⟩, h.mZ, h.mF⟩
end
theorem dsd_tup (s : Sd) : dSd s = .tup [.tup (s.cs.map dCr), .tup (s.mem.map .int)] := rfl
theorem Own.lt {Z : List Nat} {S : Store} {o L M : Nat} {as : List (Nat × Nat)} {s : Sd} (h : Own Z S o L M as s) : ∀ x ∈ FP M as, x < S.length := by
  intro x hx
  unfold FP at hx
  rcases List.mem_cons.mp hx with rfl | hx
  · exact (List.getElem?_eq_some_iff.mp h.hM).1
  · obtain ⟨p, hp, hx⟩ := List.mem_flatMap.mp hx
    obtain ⟨j, hj⟩ := List.mem_iff_getElem?.mp hp
    have hjl : j < s.cs.length := by rw [← h.hn]; exact (List.getElem?_eq_some_iff.mp hj).1
    obtain ⟨l, g1, g2, g3, g4⟩ := h.hc j p _ hj (List.getElem?_eq_getElem hjl)
    simp at hx
    rcases hx with rfl | rfl
    · exact (List.getElem?_eq_some_iff.mp g1).1
    · exact (List.getElem?_eq_some_iff.mp g2).1
theorem Kp.le_of {A : List Nat} {S S' : Store} (k : Kp A S S') (h : ∀ x ∈ A, x < S'.length) : S.length ≤ S'.length := by
  by_cases e : S.length = 0
  · omega
  · by_cases e2 : S.length - 1 ∈ A
    · have := h _ e2; omega
    · have := k.len e2 (by omega); omega
section
variable {q : Pr} (Q : HK q) {W : Nat}
include Q
theorem moved_p (k : Nat) {Z : List Nat} {S : Store} {mc o L M a t : Nat} {as : List (Nat × Nat)} {s : Sd} {bk : List (List Ins)} {c : Int} {late : Bool} (hs : Spr S a c) (hc : c < 10 ^ 10) (m : Mch Z S mc o L M as bk s t) (hZ : ∀ x ∈ Z, x < S.length) (ht : t ≤ 40) (haZ : a ∈ Z) (haF : a ∉ mc :: FP M as) :
    ∃ s' S', run q W (k + 9) 93 [.ref a, .ref mc, .bl late] S = some (.bl true, S') ∧ Mch Z S' mc o L M as bk s' (t + 1) ∧ Spr S' a (c + 2) ∧ Kp (a :: mc :: FP M as) S S' := by
  have hA : ∀ x ∈ [a], x ∈ Z ∧ x ∉ mc :: FP M as := fun x hx => by simp at hx; subst hx; exact ⟨haZ, haF⟩
  have haF' : a ∉ FP M as := fun z => haF (List.mem_cons_of_mem _ z)
  have hB := m.hB
  have ok := m.ok
  obtain ⟨h0, ps, g1, g2, g3, g4, g5⟩ := m.hist
  obtain ⟨S1, a1, s1, k1⟩ := looked_p Q (W := W) k (t := t) hs (by omega) m.own hZ haZ haF' hB ok
  have m1 := m.kp k1 hA
  have l1 := s1.kle k1
  have hZ1 : ∀ x ∈ Z, x < S1.length := fun x hx => by have := hZ x hx; omega
  obtain ⟨S2, a2, d2, k2⟩ := llets_p Q (W := W) (k + 6) m1.own hZ1 hB ok
  have m2 := m1.kp k2.nil (by simp) (A := [])
  have s2 := s1.kp0 k2
  have lt2 : S1.length < S2.length := (List.getElem?_eq_some_iff.mp d2).1
  have hnn := ne_nil (S := S2 ++ [.lst []]) (m := S1.length) (n := S2.length) (ds := (lets bk s).map dSt) ((Kp.push).at (l_lst d2)) l_last (dp := 1) (w := 102) (nw_lets hB.l1) (by decide) (by have := lets_le bk s; have := hB.l1; simp; omega)
  have eem : ((lets bk s).map dSt).isEmpty = (lets bk s).isEmpty := by cases lets bk s <;> rfl
  rw [eem] at hnn
  have d3 : (S2 ++ [O.lst []])[S1.length]? = some (.lst ((lets bk s).map dSt)) := Kp.push (A := []) _ _ (by simp) d2
  have m3 := m2.kp (Kp.push (A := []) (o := .lst [])) (by simp)
  have s3 := s2.push (o := .lst [])
  have K3 : Kp [a] S (S2 ++ [.lst []]) := (k1.trans k2.nil).trans Kp.push
  have pre : ∀ w', ex (pm q W (k + 8)) (.seq (.ifs (.cmp .ne (.var 6) (.lst .nil)) (.seq (.asg (.nm 7) (.call 91 [0, 1, 2] (.cons (.var 0) (.cons (.var 6) (.cons (.var 2) .nil))) .nil))
        (.seq (.drop (.call 88 [0, 1, 2] (.cons (.var 3) (.cons (.var 5) (.cons (.var 7) .nil))) .nil))
        (.seq (.seti (.call 887 [0, 1, 2] (.cons (.var 3) (.cons (.var 4) (.cons (.var 7) .nil))) .nil) (.var 1) (.lit (.int 1)))
        (.seq (.ifs (.not_ (.call 12 [0, 1] (.cons (.call 887 [1, 2, 0] .nil (.cons (.var 7) (.cons (.var 3) (.cons (.var 4) .nil)))) (.cons (.call 89 [0] (.cons (.var 5) .nil) .nil) .nil)) .nil)) (.seq (.ret (.lit (.bl false))) .skip) .skip)
        (.seq (.seti (.bin .add (.idx (.var 1) (.lit (.int 3))) (.lst (.cons (.lst (.cons (.idx (.var 1) (.lit (.int 1))) (.cons (.call 89 [0] (.cons (.var 5) .nil) .nil) .nil))) .nil))) (.var 1) (.lit (.int 3)))
        .skip))))) .skip) (.seq (.ret (.lit (.bl true))) .skip)) [some (.ref a), some (.ref mc), some (.bl late), some (dBk bk), some (dSd s), some (.ref o), some (.ref S1.length), none] S2 = some w' →
      run q W (k + 9) 93 [.ref a, .ref mc, .bl late] S = fin (some w') := by
    intro w' hw
    rw [run_at q W (k + 8) 93 _ S Q.f93 rfl, show env0 3 8 [D.ref a, .ref mc, .bl late] = [some (.ref a), some (.ref mc), some (.bl late), none, none, none, none, none] from rfl]
    congr 1
    unfold b_93
    refine' es_nx (es_asg (er_tup (er_cons (er_idx (er_var rfl) (er_lit rfl) (i_lst (l_lst g1) (atN (n := 0) rfl))) (er_cons (er_idx (er_var rfl) (er_lit rfl) (i_lst (l_lst g1) (atN (n := 1) rfl))) (er_cons (er_idx (er_var rfl) (er_lit rfl) (i_lst (l_lst g1) (atN (n := 2) rfl))) er_nil))) (Nat.le_of_ble_eq_true rfl)) rfl) ?_
    refine' es_nx (es_if_f (er_not_f (er_call (er_cons (er_var rfl) (er_cons (er_var rfl) (er_cons (er_var rfl) (er_cons (er_var rfl) er_nil)))) er_nil rfl a1)) es_skip) ?_
    refine' es_nx (es_asg (er_call (er_cons (er_var rfl) (er_cons (er_var rfl) er_nil)) er_nil rfl a2) rfl) ?_
    exact hw
  have tst : ev (pm q W (k + 8)) (.cmp .ne (.var 6) (.lst .nil)) [some (.ref a), some (.ref mc), some (.bl late), some (dBk bk), some (dSd s), some (.ref o), some (.ref S1.length), none] S2 = some (.bl (!(lets bk s).isEmpty), S2 ++ [.lst []]) := er_cmp (er_var rfl) (er_lst er_nil (Nat.zero_le _)) hnn
  cases he : (lets bk s).isEmpty
  · rw [he] at tst
    rw [List.isEmpty_eq_false_iff] at he
    have hS1a : S1.length ≠ a := by have := s1.lt; omega
    obtain ⟨p, S4, hp, a4, s4, k4⟩ := chosen_p Q (W := W) (k + 6) (late := late) s3 (by omega) hB.l1 (l_lst d3) hS1a he
    have m4 := m3.kp k4 hA
    have l4 := s4.kle k4
    have hZ4 : ∀ x ∈ Z, x < S4.length := fun x hx => by have := hZ1 x hx; simp at l4; omega
    obtain ⟨S5, a5, o5, k5⟩ := lstep_p Q (W := W) (k + 4) m4.own hZ4 (by omega) hB ok hp
    have ok' := okS_aft hB ok hp
    have l5 : S4.length ≤ S5.length := k5.le_of o5.lt
    have s5 : Spr S5 a (c + 2) := (s4.kp k5 haF').le (by omega)
    have g1' := k5 _ _ m.mF (k4 _ _ (by simp; intro z; exact haF (z ▸ List.mem_cons_self)) (K3 _ _ (by simp; intro z; exact haF (z ▸ List.mem_cons_self)) g1))
    have K5 : Kp (a :: mc :: FP M as) S S5 := ((K3.trans k4).more (by simp)).trans (k5.more fun x hx => List.mem_cons_of_mem _ (List.mem_cons_of_mem _ hx))
    obtain ⟨S6, a6, k6⟩ := plainafter_p Q (W := W) (k + 1) S5 hB (by omega) ok hp
    have g6 := k6 _ _ (by simp) g1'
    have sv : setS (.ref mc) (.int 1) (dSd (aft bk s p)) S6 = some _ := s_set g6 (j := 1) rfl
    have g7 : (S6.set mc (.lst ([dBk bk, dSd s, .ref o, .ref h0].set 1 (dSd (aft bk s p)))))[mc]? = some (.lst [dBk bk, dSd (aft bk s p), .ref o, .ref h0]) := set_get g6
    have o6 := o5.kp k6.nil (by simp) (A := [])
    have hmc : ∀ x ∈ [mc], x ∈ Z ∧ x ∉ FP M as := fun x hx => by simp at hx; subst hx; exact ⟨m.mZ, m.mF⟩
    have o7 := o6.kp (Kp.set (o := .lst ([dBk bk, dSd s, .ref o, .ref h0].set 1 (dSd (aft bk s p))))) hmc
    obtain ⟨S8, a8, k8⟩ := plainafter_p Q (W := W) (k + 1) (S6.set mc (.lst ([dBk bk, dSd s, .ref o, .ref h0].set 1 (dSd (aft bk s p))))) hB (by omega) ok hp
    have o8 := o7.kp k8.nil (by simp) (A := [])
    have cl : (aft bk s p).cs.length ≤ 4 := by rw [ok'.len]; exact hB.l1
    obtain ⟨S9, a9, k9⟩ := ltold_p Q (W := W) (k + 7) o8 cl
    have ni := nw_sd hB ok' (by omega)
    have a10 := like_p Q (W := W) (k + 7) S9 ni
    have o9 := o8.kp k9.nil (by simp) (A := [])
    have K79 : Kp [] (S6.set mc (.lst ([dBk bk, dSd s, .ref o, .ref h0].set 1 (dSd (aft bk s p))))) S9 := k8.trans k9
    have g9 := K79 _ _ (by simp) g7
    obtain ⟨S10, a11, k10⟩ := ltold_p Q (W := W) (k + 7) o9 cl
    have o10 := o9.kp k10.nil (by simp) (A := [])
    have g10 := k10 _ _ (by simp) g9
    -- the history, made longer
    have hh : ∀ x, x ∉ Z → x ≠ a ∧ x ∉ FP M as ∧ x ≠ mc := fun x hx => ⟨fun z => hx (z ▸ haZ), fun z => hx (m.own.sub x z), fun z => hx (z ▸ m.mZ)⟩
    have K10 : ∀ x u, x ∉ Z → S[x]? = some u → S10[x]? = some u := fun x u hx e => by
      obtain ⟨q1, q2, q3⟩ := hh x hx
      refine k10 _ _ (by simp) (K79 _ _ (by simp) ?_)
      rw [List.getElem?_set_ne (Ne.symm q3)]
      exact k6 _ _ (by simp) (K5 _ _ (by simp [q1, q3, q2]) e)
    have h10 := K10 _ _ g3 g2
    have V12 : ((S10 ++ [O.lst [dSd (aft bk s p), dSd (aft bk s p)]]) ++ [O.lst [.ref S10.length]])[(S10 ++ [O.lst [dSd (aft bk s p), dSd (aft bk s p)]]).length]? = some (.lst [.ref S10.length]) := g_last
    have h12 : ((S10 ++ [O.lst [dSd (aft bk s p), dSd (aft bk s p)]]) ++ [O.lst [.ref S10.length]])[h0]? = some (.lst (ps.map D.ref)) := (Kp.push.trans Kp.push : Kp [] S10 _) _ _ (by simp) h10
    have addH := o_addL h12 V12 (by rw [sizeLine_eq]; simp; omega)
    have Kl : Kp [] S10 (((S10 ++ [O.lst [dSd (aft bk s p), dSd (aft bk s p)]]) ++ [O.lst [.ref S10.length]]) ++ [O.lst (ps.map D.ref ++ [.ref S10.length])]) := (Kp.push.trans Kp.push).trans Kp.push
    have g13 := Kl _ _ (by simp) g10
    have sv2 : setS (.ref mc) (.int 3) (.ref ((S10 ++ [O.lst [dSd (aft bk s p), dSd (aft bk s p)]]) ++ [O.lst [.ref S10.length]]).length) (((S10 ++ [O.lst [dSd (aft bk s p), dSd (aft bk s p)]]) ++ [O.lst [.ref S10.length]]) ++ [O.lst (ps.map D.ref ++ [.ref S10.length])]) = some _ := s_set g13 (j := 3) rfl
    have o13 := (o10.kp Kl.nil (by simp) (A := [])).kp (Kp.set (o := .lst ([dBk bk, dSd (aft bk s p), .ref o, .ref h0].set 3 (.ref ((S10 ++ [O.lst [dSd (aft bk s p), dSd (aft bk s p)]]) ++ [O.lst [.ref S10.length]]).length)))) hmc
    have l6 := k6.le
    have l8 := k8.le
    have l9 := k9.le
    have l10 := k10.le
    simp only [List.length_set] at l8
    have hZ10 : ∀ x ∈ Z, x < S10.length := fun x hx => by have := hZ4 x hx; omega
    have nmc : ∀ x, x ∉ Z → mc ≠ x := fun x hx z => hx (z ▸ m.mZ)
    refine ⟨aft bk s p, _, ?_, ⟨o13, hB, ok', ⟨((S10 ++ [O.lst [dSd (aft bk s p), dSd (aft bk s p)]]) ++ [O.lst [.ref S10.length]]).length, ps ++ [S10.length], set_get g13, ?_, fun z => by have := hZ10 _ z; simp at this; omega, by simp; omega, fun p' hp' => ?_⟩, m.mZ, m.mF⟩, ?_, ?_⟩
    · refine' (pre (.rt (.bl true), _, _) ?hx).trans rfl
      case hx =>
        refine' es_nx (es_if_t tst ?_) (es_rt (es_ret (er_lit rfl)))
        refine' es_nx (es_asg (er_call (er_cons (er_var rfl) (er_cons (er_var rfl) (er_cons (er_var rfl) er_nil))) er_nil rfl a4) rfl) ?_
        refine' es_nx (es_drop (er_call (er_cons (er_var rfl) (er_cons (er_var rfl) (er_cons (er_var rfl) er_nil))) er_nil rfl a5)) ?_
        refine' es_nx (es_seti (er_call (er_cons (er_var rfl) (er_cons (er_var rfl) (er_cons (er_var rfl) er_nil))) er_nil rfl a6) (er_var rfl) (er_lit rfl) sv) ?_
        refine' es_nx (es_if_f (er_not_f (er_call (er_cons (er_call er_nil (er_cons (er_var rfl) (er_cons (er_var rfl) (er_cons (er_var rfl) er_nil))) rfl a8) (er_cons (er_call (er_cons (er_var rfl) er_nil) er_nil rfl a9) er_nil)) er_nil rfl a10)) es_skip) ?_
        exact es_nx (es_seti (er_bin (er_idx (er_var rfl) (er_lit rfl) (i_lst (l_lst g9) (atN (n := 3) rfl))) (er_lst (er_cons (er_lst (er_cons (er_idx (er_var rfl) (er_lit rfl) (i_lst (l_lst g9) (atN (n := 1) rfl))) (er_cons (er_call (er_cons (er_var rfl) er_nil) er_nil rfl a11) er_nil)) (Nat.le_of_ble_eq_true rfl)) er_nil) (Nat.le_of_ble_eq_true rfl)) addH) (er_var rfl) (er_lit rfl) sv2) es_skip
    · rw [List.getElem?_set_ne (fun z => by have := hZ10 _ m.mZ; simp at z; omega), g_last, List.map_append]; rfl
    · rcases List.mem_append.mp hp' with hp' | hp'
      · obtain ⟨p1, d, p2, p3⟩ := g5 p' hp'
        refine ⟨p1, d, p2, ?_⟩
        rw [List.getElem?_set_ne (nmc _ p1)]
        exact Kl _ _ (by simp) (K10 _ _ p1 p3)
      · simp at hp'
        subst hp'
        refine ⟨fun z => by have := hZ10 _ z; omega, _, ni, ?_⟩
        rw [List.getElem?_set_ne (fun z => by have := hZ10 _ m.mZ; omega)]
        refine (Kp.push.trans Kp.push : Kp [] (S10 ++ [O.lst [dSd (aft bk s p), dSd (aft bk s p)]]) _) _ _ (by simp) ?_
        exact g_last
    · have amc : mc ≠ a := fun z => haF (z ▸ List.mem_cons_self)
      exact (((((s5.kp0 k6).setN amc).kp0 K79).kp0 k10).kp0 Kl).setN amc
    · exact ((((K5.trans k6.nil).trans (Kp.setIn (by simp))).trans (K79.trans k10).nil).trans Kl.nil).trans (Kp.setIn (by simp))
  · rw [he] at tst
    refine ⟨s, S2 ++ [.lst []], ?_, m3.mono, s3.le (by omega), K3.more (by simp)⟩
    exact (pre (.rt (.bl true), _, _) (es_nx (es_if_f tst es_skip) (es_rt (es_ret (er_lit rfl))))).trans rfl
end
end Tm

set_option Elab.async false
set_option linter.all false
set_option maxRecDepth 100000
set_option maxHeartbeats 8000000
namespace Tm
open PySem L2
local macro_rules | `(tactic| walk_at "sm") => `(tactic| first | assumption | (unfold Sm; first | omega | decide))
local macro_rules | `(tactic| walk_at "in") => `(tactic| first | assumption | omega | decide)
local macro_rules | `(tactic| walk_at "lst") => `(tactic| first | assumption | exact l_last | exact l_lst (by assumption) | exact l_ro (by assumption) | exact l_lst (set_get (by assumption)))
local macro_rules | `(tactic| walk_at "op") => `(tactic| first
  | with_reducible exact o_add
  | with_reducible exact o_sub
  | ((with_reducible refine' o_addT ?h); (case h => first | assumption | exact Nat.le_of_ble_eq_true rfl))
  | with_reducible exact o_band
  | with_reducible exact o_bxor
  | with_reducible exact o_band
  | with_reducible exact o_bxor
  | ((with_reducible refine' o_mod ?h); (case h => walk_at "in"))
  | ((with_reducible refine' o_div ?h ?g); (case h => walk_at "in"); (case g => walk_at "sm"))
  | ((with_reducible refine' o_mul ?h ?g); (case h => walk_at "sm"); (case g => walk_at "sm"))
  | ((with_reducible refine' o_pow ?h ?g); (case h => walk_at "in"); (case g => decide)))
local macro_rules | `(tactic| walk_at "cmp") => `(tactic| first
  | with_reducible assumption
  | with_reducible exact c_isN
  | with_reducible exact c_isnN
  | with_reducible exact c_isT
  | with_reducible exact c_isnT
  | with_reducible exact c_isB
  | ((with_reducible refine' c_eq_t ?h); (case h => walk_at "in"))
  | ((with_reducible refine' c_lt_t ?h); (case h => walk_at "in"))
  | ((with_reducible refine' c_gt_t ?h); (case h => walk_at "in"))
  | ((with_reducible refine' c_ne_t ?h); (case h => walk_at "in"))
  | ((with_reducible refine' c_le_t ?h); (case h => walk_at "in"))
  | ((with_reducible refine' c_ge_t ?h); (case h => walk_at "in"))
  | ((with_reducible refine' c_eq_f ?h); (case h => walk_at "in"))
  | ((with_reducible refine' c_lt_f ?h); (case h => walk_at "in"))
  | ((with_reducible refine' c_gt_f ?h); (case h => walk_at "in"))
  | ((with_reducible refine' c_ne_f ?h); (case h => walk_at "in"))
  | ((with_reducible refine' c_le_f ?h); (case h => walk_at "in"))
  | ((with_reducible refine' c_ge_f ?h); (case h => walk_at "in"))
  | ((with_reducible refine' c_str_t ?h); (case h => with_reducible exact rfl))
  | ((with_reducible refine' c_str_f ?h); (case h => first | assumption | decide))
  | ((with_reducible refine' c_strn_f ?h); (case h => with_reducible exact rfl))
  | ((with_reducible refine' c_strn_t ?h); (case h => first | assumption | decide))
  | ((with_reducible refine' c_in (t := true) ?h ?g ?f ?e); (case h => walk_at "lst"); (case g => exact rfl); (case f => exact rfl); (case e => first | assumption | decide))
  | ((with_reducible refine' c_in (t := false) ?h ?g ?f ?e); (case h => walk_at "lst"); (case g => exact rfl); (case f => exact rfl); (case e => first | assumption | decide))
  | ((with_reducible refine' c_inT (t := true) ?g ?f ?e); (case g => exact rfl); (case f => exact rfl); (case e => first | assumption | decide))
  | ((with_reducible refine' c_inT (t := false) ?g ?f ?e); (case g => exact rfl); (case f => exact rfl); (case e => first | assumption | decide))
  | ((with_reducible refine' c_ninT (t := true) ?g ?f ?e); (case g => exact rfl); (case f => exact rfl); (case e => first | assumption | decide))
  | ((with_reducible refine' c_ninT (t := false) ?g ?f ?e); (case g => exact rfl); (case f => exact rfl); (case e => first | assumption | decide))
  | ((with_reducible refine' c_nin (t := true) ?h ?g ?f ?e); (case h => walk_at "lst"); (case g => exact rfl); (case f => exact rfl); (case e => first | assumption | decide))
  | ((with_reducible refine' c_nin (t := false) ?h ?g ?f ?e); (case h => walk_at "lst"); (case g => exact rfl); (case f => exact rfl); (case e => first | assumption | decide)))
local macro_rules | `(tactic| walk_at "bi") => `(tactic| first | with_reducible assumption | ((with_reducible refine' b_tupL ?h); (case h => walk_at "lst")) | with_reducible exact b_int | with_reducible exact b_bool | with_reducible exact b_abs | with_reducible exact b_max | with_reducible exact b_min | with_reducible exact b_lenT | ((with_reducible refine' b_lenL ?h); (case h => walk_at "lst")) | with_reducible apply_assumption)
local macro_rules | `(tactic| walk_at "pick") => `(tactic| first | with_reducible exact pk1 | with_reducible exact pk2 | with_reducible exact pk3 | with_reducible exact pk4 | with_reducible exact pk5 | with_reducible exact pn1 | with_reducible exact pn2 | with_reducible exact pn3)
local macro_rules | `(tactic| walk_at "call") => `(tactic| first | with_reducible assumption | with_reducible apply_assumption)
local macro_rules | `(tactic| walk_at "ev") => `(tactic| first
  | (with_reducible assumption)
  | ((with_reducible refine' er_env ?he ?h); (case h => with_reducible assumption); (case he => exact rfl))
  | (with_reducible exact er_nil)
  | ((with_reducible refine' er_glob ?h); (case h => assumption))
  | ((with_reducible refine' er_lit ?h); (case h => exact rfl))
  | ((with_reducible refine' er_var ?h); (case h => exact rfl))
  | ((with_reducible refine' er_cons ?h1 ?h2); (case h1 => walk_at "ev"); (case h2 => walk_at "ev"))
  | ((with_reducible refine' er_tup ?h1 ?h2); (case h1 => walk_at "ev"); (case h2 => exact Nat.le_of_ble_eq_true rfl))
  | ((with_reducible refine' er_lst ?h1 ?h2); (case h1 => walk_at "ev"); (case h2 => exact Nat.le_of_ble_eq_true rfl))
  | ((with_reducible refine' er_neg ?h1); (case h1 => walk_at "ev"))
  | ((with_reducible refine' er_isty ?h1 ?h2); (case h1 => walk_at "ev"); (case h2 => first | exact rfl | exact ty_ref (by walk_at "lst")))
  | ((with_reducible refine' er_chain_t ?h1 ?h2 ?h3 ?h4 ?h5); (case h1 => walk_at "ev"); (case h2 => walk_at "ev"); (case h3 => walk_at "cmp"); (case h4 => walk_at "ev"); (case h5 => walk_at "cmp"))
  | ((with_reducible refine' er_slc_to ?h1 ?h2 ?h3 ?h4); (case h1 => walk_at "ev"); (case h2 => exact rfl); (case h3 => walk_at "ev"); (case h4 => first | assumption | omega))
  | ((with_reducible refine' er_slc_from ?h1 ?h2 ?h3 ?h4); (case h1 => walk_at "ev"); (case h2 => exact rfl); (case h3 => walk_at "ev"); (case h4 => first | assumption | omega))
  | ((with_reducible refine' er_app ?h1 ?h2 ?h3); (case h1 => walk_at "ev"); (case h2 => walk_at "ev"); (case h3 => exact push_at (by assumption) (by assumption)))
  | ((with_reducible refine' er_callv ?h1 ?h2 ?h3 ?h4); (case h1 => walk_at "ev"); (case h2 => walk_at "ev"); (case h3 => assumption); (case h4 => walk_at "call"))
  | ((with_reducible refine' er_bin ?h1 ?h2 ?h3); (case h1 => walk_at "ev"); (case h2 => walk_at "ev"); (case h3 => walk_at "op"))
  | ((with_reducible refine' er_idx ?h1 ?h2 ?h3); (case h1 => walk_at "ev"); (case h2 => walk_at "ev"); (case h3 => first | exact i_tup (by first | assumption | rfl) | exact i_lst (by walk_at "lst") (by first | assumption | rfl)))
  | ((with_reducible refine' er_call ?h1 ?h2 ?h3 ?h4); (case h1 => walk_at "ev"); (case h2 => walk_at "ev"); (case h3 => walk_at "pick"); (case h4 => walk_at "call"))
  | ((with_reducible refine' er_bi ?h1 ?h2); (case h1 => walk_at "ev"); (case h2 => walk_at "bi"))
  | ((with_reducible refine' er_cmp ?h1 ?h2 ?h3); (case h1 => walk_at "ev"); (case h2 => walk_at "ev"); (case h3 => walk_at "cmp"))
  | ((with_reducible refine' er_nots ?h1 ?h2); (case h1 => walk_at "ev"); (case h2 => first | exact Neg.t | exact Neg.f))
  | ((with_reducible refine' er_ors ?h1 ?h2); (case h1 => walk_at "ev"); (case h2 => first | exact ors_t | ((with_reducible refine' ors_f ?h3); (case h3 => walk_at "ev"))))
  | ((with_reducible refine' er_ands ?h1 ?h2); (case h1 => walk_at "ev"); (case h2 => first | exact ands_f | ((with_reducible refine' ands_t ?h3); (case h3 => walk_at "ev"))))
  | ((with_reducible refine' er_br ?h1 ?h2); (case h1 => walk_at "ev"); (case h2 => first | ((with_reducible refine' bre_t ?h3); (case h3 => walk_at "ev")) | ((with_reducible refine' bre_f ?h3); (case h3 => walk_at "ev")))))
local macro_rules | `(tactic| walk_at "ex") => `(tactic| first
  | ((with_reducible refine' es_skip2 ?h1 ?h2); (case h1 => exact rfl); (case h2 => exact rfl))
  | ((with_reducible refine' es_sq ?h1 ?h2); (case h1 => walk_at "ex"); (case h2 => first | exact nxt_rt | exact nxt_bk | exact nxt_ct | ((with_reducible refine' nxt_nx ?h3); (case h3 => walk_at "ex"))))
  | ((with_reducible refine' es_ret ?h1); (case h1 => walk_at "ev"))
  | ((with_reducible refine' es_asg ?h1 ?h2); (case h1 => walk_at "ev"); (case h2 => exact rfl))
  | ((with_reducible refine' es_seti ?h1 ?h2 ?h3 ?h4); (case h1 => walk_at "ev"); (case h2 => walk_at "ev"); (case h3 => walk_at "ev"); (case h4 => exact s_set (by first | assumption | exact set_get (by assumption)) rfl))
  | ((with_reducible refine' es_drop ?h1); (case h1 => walk_at "ev"))
  | ((with_reducible refine' es_br ?h1 ?h2); (case h1 => walk_at "ev"); (case h2 => first | ((with_reducible refine' brs_t ?h3); (case h3 => walk_at "ex")) | ((with_reducible refine' brs_f ?h3); (case h3 => walk_at "ex")))))


theorem Kp.chain {S S1 S2 : Store} {a : Nat} {A : List Nat} (h : Kp [a] S S1) (k : Kp A S1 S2) (hA : ∀ x ∈ A, x = a ∨ S.length ≤ x) : Kp [a] S S2 := fun i o n e => by
  refine k i o (fun z => ?_) (h i o n e)
  have := (List.getElem?_eq_some_iff.mp e).1
  rcases hA i z with h1 | h1
  · exact n (by simp [h1])
  · omega
section
variable {q : Pr} (Q : HK q) {W : Nat}
include Q
theorem machine_p (k : Nat) {S : Store} {a most great : Nat} {c : Int} (hs : Spr S a c) (hc : c < 10 ^ 9) (hm : most ≤ 40) (hg : great ≤ 40) :
    ∃ (mc o L M : Nat) (as : List (Nat × Nat)) (bk : List (List Ins)) (s : Sd) (S' : Store), run q W (k + 8) 92 [.ref a, .int most, .int great] S = some (.ref mc, S') ∧ Spr S' a (c + 3000) ∧ Kp [a] S S' ∧ (mc :: FP M as).Nodup ∧ (∀ x ∈ mc :: FP M as, S.length ≤ x ∧ x < S'.length) ∧
      ∀ Z : List Nat, a ∈ Z → (∀ x ∈ mc :: FP M as, x ∈ Z) → (∀ x ∈ Z, x ∈ mc :: FP M as ∨ x < S.length ∨ S'.length ≤ x) → Mch Z S' mc o L M as bk s 0 := by
  have halt := hs.lt
  obtain ⟨bk, S1, hB, b1, s1, k1⟩ := dbook_p Q (W := W) (k + 2) hs (by omega) hm hg
  obtain ⟨m, S2, hM, b2, s2, k2⟩ := dmem_p Q (W := W) (k + 4) s1 (by omega)
  obtain ⟨o, L, M, as, S3, b3, k3, nd, fr, own⟩ := begun_p Q (W := W) (k + 6) S2 bk m hB.l1
  have s3 := s2.kp0 k3
  obtain ⟨S4, b4, k4⟩ := plainfirst_p Q (W := W) k S3 hB hM
  obtain ⟨S5, b5, k5⟩ := plainfirst_p Q (W := W) k S4 hB hM
  have e0 : (bk.map fun _ => (⟨0, [0, 0, 0, 0, 0, 0, 0, 0], []⟩ : Cr)) = bk.map fun _ => cr0 := rfl
  rw [e0] at b4 b5
  have s5 := (s3.kp0 (k4.trans k5)).push (o := .lst [dSd ⟨bk.map fun _ => cr0, m⟩, dSd ⟨bk.map fun _ => cr0, m⟩])
  obtain ⟨r, S6, p1, p2, p3, p4, p5⟩ := pick_spec Q.f5 (W := W) (k + 6) (many := 2) s5 (by omega) (by decide) (by unfold Sm; decide)
  have l1 := s1.kle k1
  have l2 := s2.kle k2
  have l3 := k3.le
  have l4 := k4.le
  have l5 := k5.le
  have l6 := p4.kle p5
  simp only [List.length_append, List.length_cons, List.length_nil] at l6
  have hL6 : listAt S6 S5.length = some [dSd ⟨bk.map fun _ => cr0, m⟩, dSd ⟨bk.map fun _ => cr0, m⟩] := lst_keep p5 l_last (by omega)
  have hat : atI [dSd ⟨bk.map fun _ => cr0, m⟩, dSd ⟨bk.map fun _ => cr0, m⟩] r = some (dSd ⟨bk.map fun _ => cr0, m⟩) := by
    have : r = 0 ∨ r = 1 := by omega
    rcases this with rfl | rfl <;> rfl
  have K36 : Kp [a] S3 S6 := ((k4.trans k5).nil.trans Kp.push).trans p5
  have K06 : Kp [a] S S6 := ((k1.trans k2).trans k3.nil).trans K36
  -- what the own machine is, for any set of the changed ones
  have own6 : ∀ Z : List Nat, a ∈ Z → (∀ x ∈ FP M as, x ∈ Z) → (∀ x ∈ Z, x ∈ FP M as ∨ x < S2.length ∨ S3.length ≤ x) → Own Z S6 o L M as ⟨bk.map fun _ => cr0, m⟩ := fun Z z0 z1 z2 =>
    (own Z z1 z2).kp K36 fun x hx => by
      simp at hx; subst hx
      exact ⟨z0, fun z => by have := (fr _ z).1; omega⟩
  obtain ⟨S7, b7, k7⟩ := ltold_p Q (W := W) (k + 6) (own6 (a :: FP M as) (by simp) (fun x hx => List.mem_cons_of_mem _ hx) (fun x hx => by
    rcases List.mem_cons.mp hx with rfl | hx
    · exact .inr (.inl (by omega))
    · exact .inl hx)) (by simp; exact hB.l1)
  have l7 := k7.le
  have okS0 : OkS bk 0 ⟨bk.map fun _ => cr0, m⟩ := by
    refine ⟨by simp, hM, fun p hp => ?_⟩
    obtain ⟨j, hj⟩ := List.mem_iff_getElem?.mp hp
    rw [List.getElem?_zip_eq_some] at hj
    have : p.2 = cr0 := by
      have := hj.2
      simp only [List.getElem?_map, Option.map_eq_some_iff] at this
      obtain ⟨_, _, e⟩ := this
      exact e.symm
    rw [this]
    refine ⟨Nat.zero_le _, rfl, fun v hv => ?_, (fun x hx => absurd hx (by simp [cr0])), Nat.zero_le _⟩
    have : v = 0 := by simp [cr0] at hv; exact hv
    subst this
    exact ⟨by decide, by decide⟩
  have ni := nw_sd hB okS0 (by omega)
  have fin : run q W (k + 8) 92 [.ref a, .int most, .int great] S = some (.ref (S7.length + 2), S7 ++ [.lst [dSd ⟨bk.map fun _ => cr0, m⟩, dSd ⟨bk.map fun _ => cr0, m⟩], .lst [.ref S7.length], .lst [dBk bk, dSd ⟨bk.map fun _ => cr0, m⟩, .ref o, .ref (S7.length + 1)]]) := by
    have x1 : ev (pm q W (k + 7)) (.lst (.cons (.var 3) (.cons (.var 6) (.cons (.var 5) (.cons (.lst (.cons (.lst (.cons (.var 6) (.cons (.call 89 [0] (.cons (.var 5) .nil) .nil) .nil))) .nil)) .nil))))) [some (.ref a), some (.int most), some (.int great), some (dBk bk), some (.tup (m.map .int)), some (.ref o), some (dSd ⟨bk.map fun _ => cr0, m⟩)] S6 = some _ :=
      er_lst (er_cons (er_var rfl) (er_cons (er_var rfl) (er_cons (er_var rfl) (er_cons (er_lst (er_cons (er_lst (er_cons (er_var rfl) (er_cons (er_call (er_cons (er_var rfl) er_nil) er_nil rfl b7) er_nil)) (Nat.le_of_ble_eq_true rfl)) er_nil) (Nat.le_of_ble_eq_true rfl)) er_nil)))) (Nat.le_of_ble_eq_true rfl)
    simp only [List.append_assoc, List.cons_append, List.nil_append, List.length_append, List.length_cons, List.length_nil, Nat.zero_add, Nat.reduceAdd] at x1
    refine' run_rt (e0 := [some _, some _, some _, none, none, none, none]) Q.f92 rfl rfl ?h
    case h =>
      unfold b_92
      refine' es_nx (es_asg (er_tup (er_cons (er_call (er_cons (er_var rfl) (er_cons (er_var rfl) (er_cons (er_var rfl) er_nil))) er_nil rfl b1) (er_cons (er_call (er_cons (er_var rfl) er_nil) er_nil rfl b2) er_nil)) (Nat.le_of_ble_eq_true rfl)) rfl) ?_
      refine' es_nx (es_asg (er_call (er_cons (er_var rfl) (er_cons (er_var rfl) er_nil)) er_nil rfl b3) rfl) ?_
      refine' es_nx (es_asg (er_idx (er_lst (er_cons (er_call (er_cons (er_var rfl) (er_cons (er_var rfl) er_nil)) er_nil rfl b4) (er_cons (er_call er_nil (er_cons (er_var rfl) (er_cons (er_var rfl) er_nil)) rfl b5) er_nil)) (Nat.le_of_ble_eq_true rfl)) (er_call (er_cons (er_var rfl) (er_cons (er_lit rfl) er_nil)) er_nil rfl p1) (i_lst hL6 hat)) rfl) ?_
      exact es_rt (es_ret x1)
  refine ⟨S7.length + 2, o, L, M, as, bk, ⟨bk.map fun _ => cr0, m⟩, _, fin, ((p4.kp0 k7).kp (A := []) Kp.push4 (by simp)).le (by omega), (K06.trans k7.nil).trans Kp.push4, ?_, fun x hx => ?_, fun Z z0 z1 z2 => ?_⟩
  · rw [List.nodup_cons]
    exact ⟨fun z => by have := (fr _ z).2; omega, nd⟩
  · rcases List.mem_cons.mp hx with rfl | hx
    · simp; omega
    · have := fr x hx
      simp; omega
  · have g0 : ∀ (x : Nat) u, (S7 ++ [O.lst [dSd ⟨bk.map fun _ => cr0, m⟩, dSd ⟨bk.map fun _ => cr0, m⟩], .lst [.ref S7.length], .lst [dBk bk, dSd ⟨bk.map fun _ => cr0, m⟩, .ref o, .ref (S7.length + 1)]])[x]? = some u → x = S7.length ∨ x = S7.length + 1 → x ∉ Z := fun x u _ hx hz => by
      rcases z2 x hz with h1 | h1 | h1
      · rcases List.mem_cons.mp h1 with h1 | h1
        · omega
        · have := (fr _ h1).2; omega
      · omega
      · simp at h1; omega
    have o6 := own6 Z z0 (fun x hx => z1 x (List.mem_cons_of_mem _ hx)) (fun x hx => by
      rcases z2 x hx with h1 | h1 | h1
      · rcases List.mem_cons.mp h1 with h1 | h1
        · exact .inr (.inr (by omega))
        · exact .inl h1
      · exact .inr (.inl (by omega))
      · exact .inr (.inr (by simp at h1; omega)))
    have a0 : (S7 ++ [O.lst [dSd ⟨bk.map fun _ => cr0, m⟩, dSd ⟨bk.map fun _ => cr0, m⟩], .lst [.ref S7.length], .lst [dBk bk, dSd ⟨bk.map fun _ => cr0, m⟩, .ref o, .ref (S7.length + 1)]])[S7.length]? = some (.lst [dSd ⟨bk.map fun _ => cr0, m⟩, dSd ⟨bk.map fun _ => cr0, m⟩]) := by rw [List.getElem?_append_right (Nat.le_refl _), Nat.sub_self]; rfl
    have a1 : (S7 ++ [O.lst [dSd ⟨bk.map fun _ => cr0, m⟩, dSd ⟨bk.map fun _ => cr0, m⟩], .lst [.ref S7.length], .lst [dBk bk, dSd ⟨bk.map fun _ => cr0, m⟩, .ref o, .ref (S7.length + 1)]])[S7.length + 1]? = some (.lst [.ref S7.length]) := by rw [List.getElem?_append_right (by omega), Nat.add_sub_cancel_left]; rfl
    have a2 : (S7 ++ [O.lst [dSd ⟨bk.map fun _ => cr0, m⟩, dSd ⟨bk.map fun _ => cr0, m⟩], .lst [.ref S7.length], .lst [dBk bk, dSd ⟨bk.map fun _ => cr0, m⟩, .ref o, .ref (S7.length + 1)]])[S7.length + 2]? = some (.lst [dBk bk, dSd ⟨bk.map fun _ => cr0, m⟩, .ref o, .ref (S7.length + 1)]) := by rw [List.getElem?_append_right (by omega), Nat.add_sub_cancel_left]; rfl
    refine ⟨(o6.kp k7.nil (by simp) (A := [])).kp (Kp.push4 (A := [])) (by simp), hB, okS0, ⟨S7.length + 1, [S7.length], a2, a1, g0 _ _ a1 (.inr rfl), by simp, fun p hp => ?_⟩, z1 _ List.mem_cons_self, fun z => by have := (fr _ z).2; omega⟩
    simp at hp
    subst hp
    exact ⟨g0 _ _ a0 (.inl rfl), _, ni, a0⟩
end
end Tm

set_option Elab.async false
set_option linter.all false
set_option maxRecDepth 100000
set_option maxHeartbeats 8000000
namespace Tm
open PySem L2
local macro_rules | `(tactic| walk_at "sm") => `(tactic| first | assumption | (unfold Sm; first | omega | decide))
local macro_rules | `(tactic| walk_at "in") => `(tactic| first | assumption | omega | decide)
local macro_rules | `(tactic| walk_at "lst") => `(tactic| first | assumption | exact l_last | exact l_lst (by assumption) | exact l_ro (by assumption) | exact l_lst (set_get (by assumption)))
local macro_rules | `(tactic| walk_at "op") => `(tactic| first
  | with_reducible exact o_add
  | with_reducible exact o_sub
  | ((with_reducible refine' o_addT ?h); (case h => first | assumption | exact Nat.le_of_ble_eq_true rfl))
  | with_reducible exact o_band
  | with_reducible exact o_bxor
  | with_reducible exact o_band
  | with_reducible exact o_bxor
  | ((with_reducible refine' o_mod ?h); (case h => walk_at "in"))
  | ((with_reducible refine' o_div ?h ?g); (case h => walk_at "in"); (case g => walk_at "sm"))
  | ((with_reducible refine' o_mul ?h ?g); (case h => walk_at "sm"); (case g => walk_at "sm"))
  | ((with_reducible refine' o_pow ?h ?g); (case h => walk_at "in"); (case g => decide)))
local macro_rules | `(tactic| walk_at "cmp") => `(tactic| first
  | with_reducible assumption
  | with_reducible exact c_isN
  | with_reducible exact c_isnN
  | with_reducible exact c_isT
  | with_reducible exact c_isnT
  | with_reducible exact c_isB
  | ((with_reducible refine' c_eq_t ?h); (case h => walk_at "in"))
  | ((with_reducible refine' c_lt_t ?h); (case h => walk_at "in"))
  | ((with_reducible refine' c_gt_t ?h); (case h => walk_at "in"))
  | ((with_reducible refine' c_ne_t ?h); (case h => walk_at "in"))
  | ((with_reducible refine' c_le_t ?h); (case h => walk_at "in"))
  | ((with_reducible refine' c_ge_t ?h); (case h => walk_at "in"))
  | ((with_reducible refine' c_eq_f ?h); (case h => walk_at "in"))
  | ((with_reducible refine' c_lt_f ?h); (case h => walk_at "in"))
  | ((with_reducible refine' c_gt_f ?h); (case h => walk_at "in"))
  | ((with_reducible refine' c_ne_f ?h); (case h => walk_at "in"))
  | ((with_reducible refine' c_le_f ?h); (case h => walk_at "in"))
  | ((with_reducible refine' c_ge_f ?h); (case h => walk_at "in"))
  | ((with_reducible refine' c_str_t ?h); (case h => with_reducible exact rfl))
  | ((with_reducible refine' c_str_f ?h); (case h => first | assumption | decide))
  | ((with_reducible refine' c_strn_f ?h); (case h => with_reducible exact rfl))
  | ((with_reducible refine' c_strn_t ?h); (case h => first | assumption | decide))
  | ((with_reducible refine' c_in (t := true) ?h ?g ?f ?e); (case h => walk_at "lst"); (case g => exact rfl); (case f => exact rfl); (case e => first | assumption | decide))
  | ((with_reducible refine' c_in (t := false) ?h ?g ?f ?e); (case h => walk_at "lst"); (case g => exact rfl); (case f => exact rfl); (case e => first | assumption | decide))
  | ((with_reducible refine' c_inT (t := true) ?g ?f ?e); (case g => exact rfl); (case f => exact rfl); (case e => first | assumption | decide))
  | ((with_reducible refine' c_inT (t := false) ?g ?f ?e); (case g => exact rfl); (case f => exact rfl); (case e => first | assumption | decide))
  | ((with_reducible refine' c_ninT (t := true) ?g ?f ?e); (case g => exact rfl); (case f => exact rfl); (case e => first | assumption | decide))
  | ((with_reducible refine' c_ninT (t := false) ?g ?f ?e); (case g => exact rfl); (case f => exact rfl); (case e => first | assumption | decide))
  | ((with_reducible refine' c_nin (t := true) ?h ?g ?f ?e); (case h => walk_at "lst"); (case g => exact rfl); (case f => exact rfl); (case e => first | assumption | decide))
  | ((with_reducible refine' c_nin (t := false) ?h ?g ?f ?e); (case h => walk_at "lst"); (case g => exact rfl); (case f => exact rfl); (case e => first | assumption | decide)))
local macro_rules | `(tactic| walk_at "bi") => `(tactic| first | with_reducible assumption | ((with_reducible refine' b_tupL ?h); (case h => walk_at "lst")) | with_reducible exact b_int | with_reducible exact b_bool | with_reducible exact b_abs | with_reducible exact b_max | with_reducible exact b_min | with_reducible exact b_lenT | ((with_reducible refine' b_lenL ?h); (case h => walk_at "lst")) | with_reducible apply_assumption)
local macro_rules | `(tactic| walk_at "pick") => `(tactic| first | with_reducible exact pk1 | with_reducible exact pk2 | with_reducible exact pk3 | with_reducible exact pk4 | with_reducible exact pk5 | with_reducible exact pn1 | with_reducible exact pn2 | with_reducible exact pn3)
local macro_rules | `(tactic| walk_at "call") => `(tactic| first | with_reducible assumption | with_reducible apply_assumption)
local macro_rules | `(tactic| walk_at "ev") => `(tactic| first
  | (with_reducible assumption)
  | ((with_reducible refine' er_env ?he ?h); (case h => with_reducible assumption); (case he => exact rfl))
  | (with_reducible exact er_nil)
  | ((with_reducible refine' er_glob ?h); (case h => assumption))
  | ((with_reducible refine' er_lit ?h); (case h => exact rfl))
  | ((with_reducible refine' er_var ?h); (case h => exact rfl))
  | ((with_reducible refine' er_cons ?h1 ?h2); (case h1 => walk_at "ev"); (case h2 => walk_at "ev"))
  | ((with_reducible refine' er_tup ?h1 ?h2); (case h1 => walk_at "ev"); (case h2 => exact Nat.le_of_ble_eq_true rfl))
  | ((with_reducible refine' er_lst ?h1 ?h2); (case h1 => walk_at "ev"); (case h2 => exact Nat.le_of_ble_eq_true rfl))
  | ((with_reducible refine' er_neg ?h1); (case h1 => walk_at "ev"))
  | ((with_reducible refine' er_isty ?h1 ?h2); (case h1 => walk_at "ev"); (case h2 => first | exact rfl | exact ty_ref (by walk_at "lst")))
  | ((with_reducible refine' er_chain_t ?h1 ?h2 ?h3 ?h4 ?h5); (case h1 => walk_at "ev"); (case h2 => walk_at "ev"); (case h3 => walk_at "cmp"); (case h4 => walk_at "ev"); (case h5 => walk_at "cmp"))
  | ((with_reducible refine' er_slc_to ?h1 ?h2 ?h3 ?h4); (case h1 => walk_at "ev"); (case h2 => exact rfl); (case h3 => walk_at "ev"); (case h4 => first | assumption | omega))
  | ((with_reducible refine' er_slc_from ?h1 ?h2 ?h3 ?h4); (case h1 => walk_at "ev"); (case h2 => exact rfl); (case h3 => walk_at "ev"); (case h4 => first | assumption | omega))
  | ((with_reducible refine' er_app ?h1 ?h2 ?h3); (case h1 => walk_at "ev"); (case h2 => walk_at "ev"); (case h3 => exact push_at (by assumption) (by assumption)))
  | ((with_reducible refine' er_callv ?h1 ?h2 ?h3 ?h4); (case h1 => walk_at "ev"); (case h2 => walk_at "ev"); (case h3 => assumption); (case h4 => walk_at "call"))
  | ((with_reducible refine' er_bin ?h1 ?h2 ?h3); (case h1 => walk_at "ev"); (case h2 => walk_at "ev"); (case h3 => walk_at "op"))
  | ((with_reducible refine' er_idx ?h1 ?h2 ?h3); (case h1 => walk_at "ev"); (case h2 => walk_at "ev"); (case h3 => first | exact i_tup (by first | assumption | rfl) | exact i_lst (by walk_at "lst") (by first | assumption | rfl)))
  | ((with_reducible refine' er_call ?h1 ?h2 ?h3 ?h4); (case h1 => walk_at "ev"); (case h2 => walk_at "ev"); (case h3 => walk_at "pick"); (case h4 => walk_at "call"))
  | ((with_reducible refine' er_bi ?h1 ?h2); (case h1 => walk_at "ev"); (case h2 => walk_at "bi"))
  | ((with_reducible refine' er_cmp ?h1 ?h2 ?h3); (case h1 => walk_at "ev"); (case h2 => walk_at "ev"); (case h3 => walk_at "cmp"))
  | ((with_reducible refine' er_nots ?h1 ?h2); (case h1 => walk_at "ev"); (case h2 => first | exact Neg.t | exact Neg.f))
  | ((with_reducible refine' er_ors ?h1 ?h2); (case h1 => walk_at "ev"); (case h2 => first | exact ors_t | ((with_reducible refine' ors_f ?h3); (case h3 => walk_at "ev"))))
  | ((with_reducible refine' er_ands ?h1 ?h2); (case h1 => walk_at "ev"); (case h2 => first | exact ands_f | ((with_reducible refine' ands_t ?h3); (case h3 => walk_at "ev"))))
  | ((with_reducible refine' er_br ?h1 ?h2); (case h1 => walk_at "ev"); (case h2 => first | ((with_reducible refine' bre_t ?h3); (case h3 => walk_at "ev")) | ((with_reducible refine' bre_f ?h3); (case h3 => walk_at "ev")))))
local macro_rules | `(tactic| walk_at "ex") => `(tactic| first
  | ((with_reducible refine' es_skip2 ?h1 ?h2); (case h1 => exact rfl); (case h2 => exact rfl))
  | ((with_reducible refine' es_sq ?h1 ?h2); (case h1 => walk_at "ex"); (case h2 => first | exact nxt_rt | exact nxt_bk | exact nxt_ct | ((with_reducible refine' nxt_nx ?h3); (case h3 => walk_at "ex"))))
  | ((with_reducible refine' es_ret ?h1); (case h1 => walk_at "ev"))
  | ((with_reducible refine' es_asg ?h1 ?h2); (case h1 => walk_at "ev"); (case h2 => exact rfl))
  | ((with_reducible refine' es_seti ?h1 ?h2 ?h3 ?h4); (case h1 => walk_at "ev"); (case h2 => walk_at "ev"); (case h3 => walk_at "ev"); (case h4 => exact s_set (by first | assumption | exact set_get (by assumption)) rfl))
  | ((with_reducible refine' es_drop ?h1); (case h1 => walk_at "ev"))
  | ((with_reducible refine' es_br ?h1 ?h2); (case h1 => walk_at "ev"); (case h2 => first | ((with_reducible refine' brs_t ?h3); (case h3 => walk_at "ex")) | ((with_reducible refine' brs_f ?h3); (case h3 => walk_at "ex")))))


def b_94l : St := (.seq (.asg (.nm 5) (.idx (.var 3) (.bi .int (.cons (.cmp .eq (.call 5 [0, 1] (.cons (.var 0) (.cons (.lit (.int 4)) .nil)) .nil) (.lit (.int 0))) .nil))))
  (.seq (.ifs (.not_ (.call 93 [0, 1, 2] (.cons (.var 0) (.cons (.var 5) (.cons (.var 1) .nil))) .nil)) (.seq (.ret (.lit (.bl false)))
  .skip) .skip)
  .skip))
/-- two machines and a spring, apart -/
structure Two (a mc1 mc2 : Nat) (F1 F2 : List Nat) : Prop where
  n1 : (mc1 :: F1).Nodup
  n2 : (mc2 :: F2).Nodup
  d : ∀ x ∈ mc1 :: F1, x ∉ mc2 :: F2
  a1 : a ∉ mc1 :: F1
  a2 : a ∉ mc2 :: F2
section
variable {q : Pr} (Q : HK q) {W : Nat}
include Q
theorem right_p (k : Nat) {S : Store} {a : Nat} {c : Int} (hs : Spr S a c) (hc : c < 10 ^ 8) : ∃ S', run q W (k + 10) 94 [.ref a] S = some (.bl true, S') ∧ Kp [a] S S' := by
  have halt := hs.lt
  obtain ⟨r, S1, p1, p2, p3, p4, p5⟩ := pick_spec Q.f5 (W := W) (k + 8) (many := 3) hs (by omega) (by decide) (by unfold Sm; decide)
  have t0 : ∃ late : Bool, cmpop .eq (.int r) (.int 0) S1 = some late := ⟨decide (r = 0), rfl⟩
  obtain ⟨late, t0⟩ := t0
  have s1 := p4.push (o := .lst [])
  have kp1 : Kp [a] S (S1 ++ [.lst []]) := p5.trans Kp.push
  obtain ⟨mc1, o1, L1, M1, as1, bk1, st1, S2, m1, s2, k2, nd1, fr1, mk1⟩ := machine_p Q (W := W) (k + 1) (most := 8) (great := 40) s1 (by omega) (by decide) (by decide)
  obtain ⟨mc2, o2, L2, M2, as2, bk2, st2, S3, m2, s3, k3, nd2, fr2, mk2⟩ := machine_p Q (W := W) (k + 1) (most := 3) (great := 5) s2 (by omega) (by decide) (by decide)
  have l1 := p4.kle p5
  have l2 := s2.kle k2
  have l3 := s3.kle k3
  simp only [List.length_append, List.length_cons, List.length_nil] at l2
  have a2lt : a < S2.length := s2.lt
  have na1 : a ∉ mc1 :: FP M1 as1 := fun z => by have := (fr1 _ z).1; simp at this; omega
  have na2 : a ∉ mc2 :: FP M2 as2 := fun z => by have := (fr2 _ z).1; omega
  have dj : ∀ x ∈ mc1 :: FP M1 as1, x ∉ mc2 :: FP M2 as2 := fun x h1 h2 => by have := (fr1 _ h1).2; have := (fr2 _ h2).1; omega
  -- all that is changed
  let Z : List Nat := a :: ((mc1 :: FP M1 as1) ++ (mc2 :: FP M2 as2))
  have zin : ∀ x, x ∈ Z ↔ x = a ∨ x ∈ mc1 :: FP M1 as1 ∨ x ∈ mc2 :: FP M2 as2 := fun x => by
    show x ∈ a :: ((mc1 :: FP M1 as1) ++ (mc2 :: FP M2 as2)) ↔ _
    rw [List.mem_cons, List.mem_append]
  have M1' : Mch Z S2 mc1 o1 L1 M1 as1 bk1 st1 0 := mk1 Z ((zin a).mpr (.inl rfl)) (fun x hx => (zin x).mpr (.inr (.inl hx))) (fun x hx => by
    rcases (zin x).mp hx with rfl | h | h
    · exact .inr (.inl (by simp; omega))
    · exact .inl h
    · exact .inr (.inr (fr2 x h).1))
  have M2' : Mch Z S3 mc2 o2 L2 M2 as2 bk2 st2 0 := mk2 Z ((zin a).mpr (.inl rfl)) (fun x hx => (zin x).mpr (.inr (.inr hx))) (fun x hx => by
    rcases (zin x).mp hx with rfl | h | h
    · exact .inr (.inl a2lt)
    · exact .inr (.inl (fr1 x h).2)
    · exact .inl h)
  have M1'' := M1'.kp k3 fun x hx => by simp at hx; subst hx; exact ⟨(zin x).mpr (.inl rfl), na1⟩
  have M14 := M1''.kp (Kp.push (A := []) (o := .lst [.ref mc1, .ref mc2])) (by simp)
  have M24 := M2'.kp (Kp.push (A := []) (o := .lst [.ref mc1, .ref mc2])) (by simp)
  have s4 := s3.push (o := .lst [.ref mc1, .ref mc2])
  have ms4 : (S3 ++ [O.lst [.ref mc1, .ref mc2]])[S3.length]? = some (.lst [.ref mc1, .ref mc2]) := g_last
  have msZ : S3.length ∉ Z := fun h => by
    rcases (zin _).mp h with h | h | h
    · omega
    · have := (fr1 _ h).2; omega
    · have := (fr2 _ h).2; omega
  have kpZ : S1.length ∉ Z := fun h => by
    rcases (zin _).mp h with h | h | h
    · have := p4.lt; omega
    · have := (fr1 _ h).1; simp at this; omega
    · have := (fr2 _ h).1; omega
  have kept4 : (S3 ++ [O.lst [.ref mc1, .ref mc2]])[S1.length]? = some (.lst []) := by
    have hne : S1.length ≠ a := by have := p4.lt; omega
    exact Kp.push (A := []) _ _ (by simp) (k3 _ _ (by simp; exact hne) (k2 _ _ (by simp; exact hne) g_last))
  have K4 : Kp [a] S (S3 ++ [.lst [.ref mc1, .ref mc2]]) := ((kp1.trans k2).trans k3).trans Kp.push
  have hZ4 : ∀ x ∈ Z, x < (S3 ++ [O.lst [.ref mc1, .ref mc2]]).length := fun x hx => by
    simp only [List.length_append, List.length_cons, List.length_nil]
    rcases (zin _).mp hx with rfl | h | h
    · omega
    · have := (fr1 _ h).2; omega
    · have := (fr2 _ h).2; omega
  -- the turns
  let Inv : List D → Env' → Store → Prop := fun ds e T => ∃ (i : Nat) (x4 x5 : Option D) (u1 u2 : Sd), ds.length + i = 24 ∧ e = [some (.ref a), some (.bl late), some (.ref S1.length), some (.ref S3.length), x4, x5, none, none] ∧ Spr T a (c + 7000 + 3 * i) ∧
    Mch Z T mc1 o1 L1 M1 as1 bk1 u1 i ∧ Mch Z T mc2 o2 L2 M2 as2 bk2 u2 i ∧ T[S3.length]? = some (.lst [.ref mc1, .ref mc2]) ∧ T[S1.length]? = some (.lst []) ∧ (∀ x ∈ Z, x < T.length) ∧ Kp [a] S T
  obtain ⟨e', T, f1, f2⟩ := forL_inv (bod := ex (pm q W (k + 9)) b_94l) (t := .nm 4) (cks := []) Inv (fun _ _ _ _ => rfl)
    (fun d ds e T hI => by
      obtain ⟨i, x4, x5, u1, u2, i1, rfl, i3, i4, i5, i6, i7, i8, i9⟩ := hI
      simp only [List.length_cons] at i1
      obtain ⟨r, T1, q1, q2, q3, q4, q5⟩ := pick_spec Q.f5 (W := W) (k + 8) (many := 4) i3 (by omega) (by decide) (by unfold Sm; decide)
      have hA : ∀ x ∈ [a], x ∈ Z ∧ x ∉ mc1 :: FP M1 as1 := fun x hx => by simp at hx; subst hx; exact ⟨(zin x).mpr (.inl rfl), na1⟩
      have hA2 : ∀ x ∈ [a], x ∈ Z ∧ x ∉ mc2 :: FP M2 as2 := fun x hx => by simp at hx; subst hx; exact ⟨(zin x).mpr (.inl rfl), na2⟩
      have j4 := i4.kp q5 hA
      have j5 := i5.kp q5 hA2
      have za : ∀ x, x ∉ Z → x ∉ [a] := fun x hx hy => hx (by simp at hy; subst hy; exact (zin x).mpr (.inl rfl))
      have j6 := q5 _ _ (za _ msZ) i6
      have j7 := q5 _ _ (za _ kpZ) i7
      have lT := q4.kle q5
      have j8 : ∀ x ∈ Z, x < T1.length := fun x hx => by have := i8 x hx; omega
      have j9 := i9.trans q5
      have aZ : a ∈ Z := (zin a).mpr (.inl rfl)
      by_cases z : r = 0
      · obtain ⟨u2', T2, v1, v2, v3, v4⟩ := moved_p Q (W := W) k (late := late) q4 (by omega) j5 j8 (by omega) aZ na2
        have nA : ∀ x, x ∉ Z → x ∉ a :: mc2 :: FP M2 as2 := fun x hx hy => hx ((zin x).mpr (by rcases List.mem_cons.mp hy with h | h; exact .inl h; exact .inr (.inr h)))
        have lT2 : T1.length ≤ T2.length := v4.le_of fun x hx => by
          rcases List.mem_cons.mp hx with rfl | hx
          · exact v3.lt
          · rcases List.mem_cons.mp hx with rfl | hx
            · obtain ⟨g, ps, g1, _⟩ := v2.hist; exact (List.getElem?_eq_some_iff.mp g1).1
            · exact v2.own.lt x hx
        refine ⟨[some (.ref a), some (.bl late), some (.ref S1.length), some (.ref S3.length), some d, x5, none, none], [some (.ref a), some (.bl late), some (.ref S1.length), some (.ref S3.length), some d, some (.ref mc2), none, none], T2, rfl, .inl ?_, i + 1, some d, some (.ref mc2), u1, u2', by omega, rfl, v3.le (by push_cast; omega), (j4.kp v4 fun x hx => ?_).mono, v2, v4 _ _ (nA _ msZ) j6, v4 _ _ (nA _ kpZ) j7, fun x hx => by have := j8 x hx; omega, j9.chain v4 fun x hx => ?_⟩
        · unfold b_94l
          refine es_nx (es_asg (er_idx (er_var rfl) (er_bi (er_cons (er_cmp (er_call (er_cons (er_var rfl) (er_cons (er_lit rfl) er_nil)) er_nil rfl q1) (er_lit rfl) (c_eq_t z)) er_nil) b_bool) (i_lst (l_lst j6) (atN (n := 1) rfl))) rfl) ?_
          exact es_nx (es_if_f (er_not_f (er_call (er_cons (er_var rfl) (er_cons (er_var rfl) (er_cons (er_var rfl) er_nil))) er_nil rfl v1)) es_skip) es_skip
        · rcases List.mem_cons.mp hx with rfl | hx
          · exact hA x (by simp)
          · exact ⟨(zin x).mpr (.inr (.inr hx)), fun w => dj x w hx⟩
        · rcases List.mem_cons.mp hx with rfl | hx
          · exact .inl rfl
          · have := (fr2 x hx).1; exact .inr (by omega)
      · obtain ⟨u1', T2, v1, v2, v3, v4⟩ := moved_p Q (W := W) k (late := late) q4 (by omega) j4 j8 (by omega) aZ na1
        have nA : ∀ x, x ∉ Z → x ∉ a :: mc1 :: FP M1 as1 := fun x hx hy => hx ((zin x).mpr (by rcases List.mem_cons.mp hy with h | h; exact .inl h; exact .inr (.inl h)))
        have lT2 : T1.length ≤ T2.length := v4.le_of fun x hx => by
          rcases List.mem_cons.mp hx with rfl | hx
          · exact v3.lt
          · rcases List.mem_cons.mp hx with rfl | hx
            · obtain ⟨g, ps, g1, _⟩ := v2.hist; exact (List.getElem?_eq_some_iff.mp g1).1
            · exact v2.own.lt x hx
        refine ⟨[some (.ref a), some (.bl late), some (.ref S1.length), some (.ref S3.length), some d, x5, none, none], [some (.ref a), some (.bl late), some (.ref S1.length), some (.ref S3.length), some d, some (.ref mc1), none, none], T2, rfl, .inl ?_, i + 1, some d, some (.ref mc1), u1', u2, by omega, rfl, v3.le (by push_cast; omega), v2, (j5.kp v4 fun x hx => ?_).mono, v4 _ _ (nA _ msZ) j6, v4 _ _ (nA _ kpZ) j7, fun x hx => by have := j8 x hx; omega, j9.chain v4 fun x hx => ?_⟩
        · unfold b_94l
          refine es_nx (es_asg (er_idx (er_var rfl) (er_bi (er_cons (er_cmp (er_call (er_cons (er_var rfl) (er_cons (er_lit rfl) er_nil)) er_nil rfl q1) (er_lit rfl) (c_eq_f z)) er_nil) b_bool) (i_lst (l_lst j6) (atN (n := 0) rfl))) rfl) ?_
          exact es_nx (es_if_f (er_not_f (er_call (er_cons (er_var rfl) (er_cons (er_var rfl) (er_cons (er_var rfl) er_nil))) er_nil rfl v1)) es_skip) es_skip
        · rcases List.mem_cons.mp hx with rfl | hx
          · exact hA2 x (by simp)
          · exact ⟨(zin x).mpr (.inr (.inl hx)), fun w => dj x hx w⟩
        · rcases List.mem_cons.mp hx with rfl | hx
          · exact .inl rfl
          · have := (fr1 x hx).1; simp at this; exact .inr (by omega))
    ((List.range 24).map fun j : Nat => D.int j) [some (.ref a), some (.bl late), some (.ref S1.length), some (.ref S3.length), none, none, none, none] (S3 ++ [.lst [.ref mc1, .ref mc2]])
    ⟨0, none, none, st1, st2, by simp, rfl, s4.le (by omega), M14, M24, ms4, kept4, hZ4, K4⟩
  obtain ⟨i, x4, x5, u1, u2, i1, rfl, i3, i4, i5, i6, i7, i8, i9⟩ := f2
  -- all that was told, once more
  obtain ⟨g1, ps1, g11, g12, g13, g14, g15⟩ := i4.hist
  obtain ⟨g2, ps2, g21, g22, g23, g24, g25⟩ := i5.hist
  have hi : i = 24 := by simpa using i1
  subst hi
  have ad1 := o_addL i7 g12 (by rw [sizeLine_eq]; simp; omega)
  have E1 : (T ++ [O.lst ([] ++ ps1.map D.ref)])[T.length]? = some (.lst ([] ++ ps1.map D.ref)) := g_last
  have g22' : (T ++ [O.lst ([] ++ ps1.map D.ref)])[g2]? = some (.lst (ps2.map D.ref)) := Kp.push (A := []) _ _ (by simp) g22
  have g21' : (T ++ [O.lst ([] ++ ps1.map D.ref)])[mc2]? = some (.lst [dBk bk2, dSd u2, .ref o2, .ref g2]) := Kp.push (A := []) _ _ (by simp) g21
  have ad2 := o_addL E1 g22' (by rw [sizeLine_eq]; simp; omega)
  have i6a : listAt (T ++ [O.lst ([] ++ ps1.map D.ref)]) S3.length = some [.ref mc1, .ref mc2] := (Kp.push).at (l_lst i6)
  have i6b : listAt ((T ++ [O.lst ([] ++ ps1.map D.ref)]) ++ [.lst ([] ++ ps1.map D.ref ++ ps2.map D.ref)]) S3.length = some [.ref mc1, .ref mc2] := (Kp.push).at i6a
  have ck0 := chk_lst (l_lst i6) (Kp.refl [] T)
  have ck1 : chks (T ++ [O.lst ([] ++ ps1.map D.ref)]) [.tup [.ref S3.length, .tup [.ref mc1, .ref mc2]]] = true := chk_lst (l_lst i6) Kp.push
  have ck2 : chks ((T ++ [O.lst ([] ++ ps1.map D.ref)]) ++ [.lst ([] ++ ps1.map D.ref ++ ps2.map D.ref)]) [.tup [.ref S3.length, .tup [.ref mc1, .ref mc2]]] = true := chk_lst (l_lst i6) (Kp.push.trans Kp.push)
  have loop2 : forL (ex (pm q W (k + 9)) (.seq (.asg (.nm 2) (.bin .add (.var 2) (.idx (.var 5) (.lit (.int 3))))) .skip)) (.nm 5) [.tup [.ref S3.length, .tup [.ref mc1, .ref mc2]]] [.ref mc1, .ref mc2] [some (.ref a), some (.bl late), some (.ref S1.length), some (.ref S3.length), x4, x5, none, none] T =
      some (.nx, [some (.ref a), some (.bl late), some (.ref (T ++ [O.lst ([] ++ ps1.map D.ref)]).length), some (.ref S3.length), x4, some (.ref mc2), none, none], (T ++ [O.lst ([] ++ ps1.map D.ref)]) ++ [.lst ([] ++ ps1.map D.ref ++ ps2.map D.ref)]) :=
    forL_nx ck0 rfl (es_nx (es_asg (er_bin (er_var rfl) (er_idx (er_var rfl) (er_lit rfl) (i_lst (l_lst g11) (atN (n := 3) rfl))) ad1) rfl) es_skip)
      (forL_nx ck1 rfl (es_nx (es_asg (er_bin (er_var rfl) (er_idx (er_var rfl) (er_lit rfl) (i_lst (l_lst g21') (atN (n := 3) rfl))) ad2) rfl) es_skip) (forL_nil ck2))
  have E2 : listAt ((T ++ [O.lst ([] ++ ps1.map D.ref)]) ++ [.lst ([] ++ ps1.map D.ref ++ ps2.map D.ref)]) (T ++ [O.lst ([] ++ ps1.map D.ref)]).length = some ((ps1 ++ ps2).map D.ref) := by
    rw [List.map_append]; exact l_last
  obtain ⟨S9, c1, c2, c3⟩ := er_lcG (q := q) (W := W) (k := k + 9) (i := .itv (.var 2)) (a := .and_ (.isty (.var 6) .tuple) (.call 12 [0, 1] (.cons (.var 6) (.cons (.var 7) .nil)) .nil)) (t := .tp 2 (.cons (.nm 6) (.cons (.nm 7) .nil))) (own := [6, 7]) (e := [some (.ref a), some (.bl late), some (.ref (T ++ [O.lst ([] ++ ps1.map D.ref)]).length), some (.ref S3.length), x4, some (.ref mc2), none, none]) (ds := ps1 ++ ps2) D.ref (fun _ => .bl true)
    (itv_lst (er_var rfl) E2) (fun S' hS => chk_lst E2 hS) (by rw [sizeLine_eq]; simp; omega) (fun p hp S' hS => by
      have hp' : ∃ d, Nice (.tup d) ∧ T[p]? = some (.lst [.tup d, .tup d]) := by
        rcases List.mem_append.mp hp with hp | hp
        · exact (g15 p hp).2
        · exact (g25 p hp).2
      obtain ⟨d, d1, d2⟩ := hp'
      have d3 := hS _ _ (by simp) ((Kp.push.trans Kp.push : Kp [] T _) _ _ (by simp) d2)
      refine ⟨[some (.ref a), some (.bl late), some (.ref (T ++ [O.lst ([] ++ ps1.map D.ref)]).length), some (.ref S3.length), x4, some (.ref mc2), some (.tup d), some (.tup d)], S', ?_, er_and_t (er_isty (er_var rfl) rfl) (er_call (er_cons (er_var rfl) (er_cons (er_var rfl) er_nil)) er_nil rfl (like_p Q (W := W) (k + 8) S' d1)), Kp.refl _ _⟩
      show (listAt S' p).bind _ = _
      rw [l_lst d3]; rfl)
  have c4 := b_all (l_lst c3) (fun d hd => by obtain ⟨_, _, rfl⟩ := List.mem_map.mp hd; rfl)
  refine ⟨S9, ?_, (i9.trans (Kp.push.trans Kp.push)).trans c2.nil⟩
  refine' run_rt (e0 := [some _, none, none, none, none, none, none, none]) Q.f94 rfl rfl ?h
  case h =>
    unfold b_94
    refine' es_nx (es_asg (er_tup (er_cons (er_cmp (er_call (er_cons (er_var rfl) (er_cons (er_lit rfl) er_nil)) er_nil rfl p1) (er_lit rfl) t0) (er_cons (er_lst er_nil (Nat.zero_le _)) er_nil)) (Nat.le_of_ble_eq_true rfl)) rfl) ?_
    refine' es_nx (es_asg (er_lst (er_cons (er_call (er_cons (er_var rfl) (er_cons (er_lit rfl) (er_cons (er_lit rfl) er_nil))) er_nil rfl m1) (er_cons (er_call (er_cons (er_var rfl) (er_cons (er_lit rfl) (er_cons (er_lit rfl) er_nil))) er_nil rfl m2) er_nil)) (Nat.le_of_ble_eq_true rfl)) rfl) ?_
    refine' es_nx (es_for (er_rng (n := 24) (er_cons (er_lit rfl) er_nil) (by decide)) f1) ?_
    refine' es_nx (es_for (itv_lst (er_var rfl) (l_lst i6)) loop2) ?_
    exact es_rt (es_ret (er_bi (er_cons c1 er_nil) c4))
theorem law_p (ns : List Int) (hn : ns.length ≤ 63) : Says q 95 ns := by
  have hn' : listAt [O.ro (ns.map D.int)] 0 = some (ns.map D.int) := rfl
  have key : ∀ (l : List Nat), (∀ j ∈ l, j < 3) → ∀ (x1 : Option D) (S : Store), S[0]? = some (.ro (ns.map D.int)) → ∃ x1' S', forL (ex (pm q 0 12) (.seq (.ifs (.not_ (.call 94 [0] (.cons (.call 4 [0, 1] (.cons (.var 0) (.cons (.var 1) .nil)) .nil) .nil) .nil)) (.seq (.ret (.lit (.bl false))) .skip) .skip) .skip)) (.nm 1) [] (l.map fun i : Nat => D.int i) [some (.ref 0), x1] S = some (.nx, [some (.ref 0), x1'], S') := by
    intro l
    induction l with
    | nil => intro _ x1 S _; exact ⟨x1, S, forL_nil rfl⟩
    | cons j l ih =>
      intro hl x1 S hS
      have hj := hl j List.mem_cons_self
      obtain ⟨u, m, s1, s2, s3⟩ := spring_spec Q.f4 (W := 0) (k := 11) (i := j) hS (by omega)
      have h0 : 0 < S.length := (List.getElem?_eq_some_iff.mp hS).1
      have sp : Spr (S ++ [.lst [.int u, .int m, .int 0]]) S.length 0 := ⟨u, m, 0, g_last, s2, s3, by decide, by decide⟩
      obtain ⟨S2, r1, r2⟩ := right_p Q (W := 0) 2 sp (by decide)
      have hS2 := r2 _ _ (by simp; omega) (Kp.push (A := []) _ _ (by simp) hS)
      obtain ⟨x1', S', g⟩ := ih (fun i hi => hl i (List.mem_cons_of_mem _ hi)) (some (.int j)) S2 hS2
      exact ⟨x1', S', forL_nx rfl rfl (es_nx (es_if_f (er_not_f (er_call (er_cons (er_call (er_cons (er_var rfl) (er_cons (er_var rfl) er_nil)) er_nil rfl s1) er_nil) er_nil rfl r1)) es_skip) es_skip) g⟩
  have hlen : biop .len [.ref 0] [O.ro (ns.map D.int)] = some (.int ns.length, [O.ro (ns.map D.int)]) := by rw [b_lenL hn']; simp
  obtain ⟨n, hn1, hn2⟩ : ∃ n : Nat, n ≤ 3 ∧ (if (if (ns.length : Int) < 3 then (ns.length : Int) else 3) > 1 then (if (ns.length : Int) < 3 then (ns.length : Int) else 3) else 1) = (n : Int) := by
    refine ⟨(if (if (ns.length : Int) < 3 then (ns.length : Int) else 3) > 1 then (if (ns.length : Int) < 3 then (ns.length : Int) else 3) else 1).toNat, ?_, ?_⟩ <;> split <;> split <;> omega
  obtain ⟨x1', S', g⟩ := key (List.range n) (fun j hj => by have := List.mem_range.mp hj; omega) none [O.ro (ns.map D.int)] rfl
  refine ⟨0, 13, S', by decide, ?_⟩
  refine' run_rt (e0 := [some _, none]) Q.f95 rfl rfl ?h
  case h =>
    unfold b_95
    refine' es_nx (es_for (er_rng (n := n) (er_cons (er_bi (er_cons (er_lit rfl) (er_cons (er_bi (er_cons (er_lit rfl) (er_cons (er_bi (er_cons (er_var rfl) er_nil) hlen) er_nil)) b_min) er_nil)) ?hm) er_nil) (by omega)) g) ?_
    case hm => rw [← hn2]; exact b_max
    exact es_rt (es_ret (er_lit rfl))
end
theorem law_run (ns : List Int) (hn : ns.length ≤ 63) : Says prK05 95 ns := law_p hk5 ns hn
end Tm

set_option Elab.async false
set_option linter.all false
set_option maxRecDepth 100000
set_option maxHeartbeats 4000000
namespace Tm
open PySem PySem.Spec PyProof.Rows L2
/-! ## what the top has written, in the machine's words -/
def FnHere (K : PySem.W.Frag) (mg : Str → Option Value) (q : Pr) (G : Gx) (n : Nat) (e : Str × Nat × List Str) : Prop :=
  ∃ (a : Addr) (fd : FuncData) (qual : Str) (st : Stmt) (N : List Str), mg e.1 = some (.ref a) ∧ Fun K e.1 qual st a fd ∧ FnScope N e.2.2 (defScope st) ∧ Binds K fd e.2.2 [] ∧
    (∀ r ∈ G.kws, r.1 = e.1 → ∀ (t : Shared) (us ws : List Value), us.length = r.2.1 → ws.length = r.2.2.1.length → BindsTo t fd ⟨us, r.2.2.1.zip ws⟩ (e.2.2.zip (pick r.2.2.2 (us ++ ws)))) ∧
    q.fs e.2.1 = some (e.2.2.length, N.length, cSs n ⟨N, (defScope st).names, none, G⟩ (defBody st))
theorem mem_of_lookup {α : Type} : ∀ {l : List (Str × α)} {x : Str} {y : α}, l.lookup x = some y → (x, y) ∈ l
  | (x', y') :: r, x, y, h => by
    rw [List.lookup_cons] at h
    cases e : x == x' with
    | true =>
      rw [e] at h
      have := eq_of_beq e
      subst this
      simp only [Option.some.injEq] at h
      subst h
      exact List.mem_cons_self
    | false =>
      rw [e] at h
      exact List.mem_cons_of_mem _ (mem_of_lookup h)
theorem here_mk {K : PySem.W.Frag} {h : Heap} {mg : Str → Option Value} {q : Pr} {G : Gx} {n : Nat} {x qual : Str} {f : Nat} {ps N : List Str} {st : Stmt} {a : Addr} {oc : Value} {od an : Option Addr} {osl : Array (Option Value)} {kV doc pm cdv ct : Value}
    (X : K.In h) (Gm : h.Ns mainGlobals mg) (h1 : PySem.W.nsIn K mainGlobals x = some (some (.ref a)))
    (l : List.lookup a K = some ⟨oc, od, .func (PySem.W.fnOf x qual (defArgs st) (defBody st) (defScope st) .none kV doc pm an cdv ct), osl⟩) (c : PySem.W.codeIn K cdv qual = true) (k : PySem.W.keepIn K (.ref a) = true)
    (S : FnScope N ps (defScope st))
    (b : ∀ (kV doc pm : Value) (an : Option Addr) (cdv ct : Value) (us : List Value), us.length = ps.length → bindArgs (PySem.W.fnOf x qual (defArgs st) (defBody st) (defScope st) .none kV doc pm an cdv ct) ⟨us, []⟩ = pure (ps.zip us))
    (kw : ∀ (kV doc pm : Value) (an : Option Addr) (cdv ct : Value), ∀ r ∈ G.kws, r.1 = x → ∀ (us ws : List Value), us.length = r.2.1 → ws.length = r.2.2.1.length → bindArgs (PySem.W.fnOf x qual (defArgs st) (defBody st) (defScope st) .none kV doc pm an cdv ct) ⟨us, r.2.2.1.zip ws⟩ = pure (ps.zip (pick r.2.2.2 (us ++ ws))))
    (hq : q.fs f = some (ps.length, N.length, cSs n ⟨N, (defScope st).names, none, G⟩ (defBody st))) : FnHere K mg q G n (x, f, ps) := by
  have F := fun_mk (st := st) l c k
  exact ⟨a, _, qual, st, N, PySem.W.mg_of X Gm h1, F, S, F.binds b, fun r hr e t us ws h2 h3 => .of_eq (kw kV doc pm an cdv ct r hr e us ws h2 h3), hq⟩
/-- no call by names of x -/
theorem no_kw {K : Prop} {x : Str} {l : List (Str × Nat × List Str × List Nat)} (h : (l.all fun r => !decide (r.1 = x)) = true) {r : Str × Nat × List Str × List Nat} (hr : r ∈ l) (e : r.1 = x) : K := by
  have := List.all_eq_true.mp h r hr
  rw [decide_eq_true e] at this
  cases this
inductive DMatch (K : PySem.W.Frag) : List DictEntry → List (Str × D) → Prop
  | nil : DMatch K [] []
  | cons {e : DictEntry} {x : Str} {tok : Option Nat} {d : D} {v : V} {es : List DictEntry} {l : List (Str × D)} (hk : ∃ t, e.key = .str x t) (hv : RelV v e.val) (hr : ∀ ρ H, Rep K ρ H v d) (r : DMatch K es l) : DMatch K (e :: es) ((x, d) :: l)
theorem dmatch_find {K : PySem.W.Frag} {es : List DictEntry} {l : List (Str × D)} (m : DMatch K es l) (z : Str) : (es.any fun e => e.refKey) = false ∧
    match lookK l z with
    | none => es.find? (fun e => e.key.isStr z) = none
    | some d => ∃ (e : DictEntry) (v : V), es.find? (fun e => e.key.isStr z) = some e ∧ RelV v e.val ∧ ∀ ρ H, Rep K ρ H v d := by
  induction m with
  | nil => exact ⟨rfl, rfl⟩
  | cons hk hv hr r ih =>
    rename_i e x tok d v es l
    obtain ⟨t, hk⟩ := hk
    have e1 : e.refKey = false := by unfold DictEntry.refKey; rw [hk]
    have e2 : e.key.isStr z = (x == z) := by rw [hk]; rfl
    refine ⟨by simp [e1, ih.1], ?_⟩
    unfold lookK
    rw [List.lookup_cons]
    by_cases hz : z = x
    · subst hz
      simp only [beq_self_eq_true]
      exact ⟨e, v, by rw [List.find?_cons, e2]; simp, hv, hr⟩
    · have b1 : (z == x) = false := by simpa using hz
      have b2 : (x == z) = false := by simpa using fun h => hz h.symm
      simp only [b1]
      have := ih.2
      unfold lookK at this
      rw [List.find?_cons, e2, b2]
      exact this
theorem dict_here {K : PySem.W.Frag} {h : Heap} {w : World} {mg : Str → Option Value} {x : Str} {l : List (Str × D)} {a : Addr} {es : Array DictEntry} {ep : Nat}
    (X : K.In h) (Gm : h.Ns mainGlobals mg) (h1 : PySem.W.nsIn K mainGlobals x = some (some (.ref a))) (hl : List.lookup a K = some { cls := .type "dict", data := .dict es ep }) (lit : PySem.W.KeysLit w.params es.toList) (low : (a == sysModules) = false)
    (m : DMatch K es.toList l) : ∃ (a : Addr) (es : Array DictEntry) (n : Nat), mg x = some (.ref a) ∧ KDict K w a es n ∧
    ∀ z : Str, match lookK l z with
      | none => PySem.W.nsIn K a z = some none
      | some d => ∃ (u : Value) (v : V), PySem.W.nsIn K a z = some (some u) ∧ RelV v u ∧ ∀ ρ H, Rep K ρ H v d := by
  refine ⟨a, es, ep, PySem.W.mg_of X Gm h1, ⟨hl, lit, low⟩, fun z => ?_⟩
  have f := dmatch_find m z
  have e : PySem.W.nsIn K a z = (match es.toList.find? (fun x => x.key.isStr z) with
    | some e => some (some e.val)
    | none => if (es.toList.any fun x => x.refKey) = true then none else some none) := by
    unfold PySem.W.nsIn; rw [hl]; rfl
  cases c : lookK l z with
  | none =>
    rw [c] at f
    show PySem.W.nsIn K a z = some none
    rw [e, f.2, f.1]; rfl
  | some d =>
    rw [c] at f
    obtain ⟨g1, e', v, g2, g3, g4⟩ := f
    exact ⟨e'.val, v, by rw [e, g2], g3, g4⟩
theorem tup_here {K : PySem.W.Frag} {t : Addr} {oc : Value} {od : Option Addr} {its : Array Value} {n : Nat} {osl : Array (Option Value)} {xs : List V} {ds : List D} (l : List.lookup t K = some ⟨oc, od, .seq its n, osl⟩) (hc : oc = .type "tuple") (hs : its.size ≤ sizeLine) (hv : Vals xs its.toList)
    (hr : ∀ ρ H, Reps K ρ H xs ds) : ∀ ρ H, Rep K ρ H (.ref t) (.tup ds) := fun ρ H => .tup (.inr ⟨_, its, n, l, hc, rfl, hs, hv⟩) (hr ρ H)
/-- the law's own def -/
theorem law_fng {P : Program} {w : World} {K : PySem.W.Frag} {mg : Str → Option Value} {base : Heap} {q : Pr} {G : Gx} {n : Nat} (T : Stands K mg w q G n) {x qual : Str} {st : Stmt} {a : Addr} {fd : FuncData} {N ps : List Str} {f : Nat}
    (F : Fun K x qual st a fd) (S : FnScope N ps (defScope st)) (hq : q.fs f = some (ps.length, N.length, cSs n ⟨N, (defScope st).names, none, G⟩ (defBody st))) (W : Nat) : ∀ k : Nat, FnG P w K mg base k a fd ps (spR K ps.length (run q W k f)) := by
  intro k
  cases k with
  | zero =>
    refine ⟨fun vs H Q h => h.1, fun B out t H as us vs Q _ _ _ _ _ h => ?_⟩
    obtain ⟨_, ρ, S, ds, d, S', _, _, e, _⟩ := h
    cases e
  | succ k =>
    have ih := gmat_all (P := P) (base := base) T W k
    refine fnG_of F S (fun vs H Q h => h.1) fun cdv B out t H vs Q room gd h => ?_
    have M : Mat (cxOf CX0 P w K mg base N qual (defScope st) a cdv B out t H E0).nox (pm q W k) ⟨N, (defScope st).names, none, G⟩ k :=
      ⟨rfl, S.nd, rfl, S.kind, rfl, gd, room, rfl, fun x _ => .inl rfl, ih⟩
    refine ⟨_, (snds_all (pm q W k) k n).ss _ _ M (defBody st), ?_⟩
    obtain ⟨hl, ρ, S0, ds, d, S', sm, rs, e, kq⟩ := h
    simp only [run, hq] at e
    split at e
    · rename_i hn
      unfold fin at e
      split at e
      · rename_i d' e' S'' he
        cases e
        exact ⟨ρ, S0, _, _, sm, start_env rs hn, he, fun ρ' H' p1 g1 s1 v rv => kq ρ' H' v p1 g1 s1 rv⟩
      · rename_i e' S'' he
        cases e
        exact ⟨ρ, S0, _, _, sm, start_env rs hn, he, fun ρ' H' p1 g1 s1 σ' en => kq ρ' H' .non p1 g1 s1 .non⟩
      · cases e
    · cases e
end Tm

set_option Elab.async false
set_option linter.all false
set_option maxRecDepth 100000
set_option maxHeartbeats 8000000
namespace K05
open PySem L2 Tm
def top (i : Nat) : Stmt := PySem.Challenge.pw_touchroad_k05_plain_steps_one_by_one.main.body.getD i (.Pass ⟨0, 0, 0, 0⟩)
def G : Gx := ⟨("is_integer", 15, ["value"]) :: ("is_between", 16, ["value", "low", "high"]) :: ("is_word", 17, ["value"]) :: ("is_tuple_of", 18, ["value", "length"]) :: ("are_words", 19, ["value", "length"]) :: ("rebuilt", 40, ["value"]) :: ("replaced", 56, ["items", "index", "item"]) :: ("is_instruction", 20, ["value", "rows"]) :: ("are_rows", 21, ["value"]) :: ("is_book", 22, ["value"]) :: ("is_memory", 24, ["value"]) :: ("reads", 0, ["instruction"]) :: ("cell_of", 2, ["cells", "base", "offset"]) :: ("result", 3, ["instruction", "words"]) :: ("check_book", 57, ["book"]) :: ("check_memory", 58, ["memory"]) :: ("check_number", 59, ["number", "low", "high"]) :: ("first_stand", 60, ["book", "memory"]) :: ("is_stopped", 61, ["rows", "row"]) :: ("is_ended", 62, ["book", "stand"]) :: ("access_cell", 63, ["instruction", "registers", "cells"]) :: ("changed_word", 64, ["instruction", "old", "given"]) :: ("row_after", 65, ["instruction", "row", "registers"]) :: ("loaded_word", 884, ["stores", "memory", "cell"]) :: ("can_do", 67, ["book", "stand", "core"]) :: ("can_flush", 68, ["stand", "core"]) :: ("after_do", 69, ["book", "stand", "core"]) :: ("after_flush", 70, ["stand", "core"]) :: ("let_steps", 71, ["book", "stand"]) :: ("is_plain_let", 885, ["book", "stand", "step"]) :: ("after_step", 73, ["book", "stand", "step"]) :: ("stand_by_let", 886, ["given", "stand", "steps", "is_let", "after"]) :: ("plain_first", 74, ["book", "memory"]) :: ("plain_steps", 75, ["book", "stand"]) :: ("plain_after", 887, ["book", "stand", "step"]) :: ("has_stopped", 77, ["book", "stand", "core"]) :: ("has_ended", 78, ["book", "stand"]) :: ("_law_spring", 4, ["script", "k"]) :: ("_law_pick", 5, ["spring", "many"]) :: ("_law_word", 6, ["spring"]) :: ("_law_instruction", 7, ["spring", "name", "few", "most"]) :: ("_law_rows", 79, ["spring", "size", "few"]) :: ("_law_book", 80, ["spring", "most", "great"]) :: ("_law_memory", 81, ["spring"]) :: ("_law_begun", 82, ["book", "memory"]) :: ("_law_at", 83, ["book", "stand", "core"]) :: ("_law_lets", 84, ["book", "stand"]) :: ("_law_sum", 85, ["one", "words"]) :: ("_law_do", 86, ["book", "stand", "at"]) :: ("_law_flush", 87, ["stand", "at"]) :: ("_law_step", 88, ["book", "stand", "step"]) :: ("_law_told", 89, ["stand"]) :: ("_law_like", 12, ["found", "due"]) :: ("_law_tells", 30, ["found", "due"]) :: ("_law_looked", 90, ["spring", "book", "stand", "own"]) :: ("_law_chosen", 91, ["spring", "lets", "late"]) :: ("_law_machine", 92, ["spring", "most", "great"]) :: ("_law_moved", 93, ["spring", "machine", "late"]) :: ("_law_right", 94, ["spring"]) :: ("law", 95, ["script"]) :: [],
  [("SUMS", 3), ("ZEROS", 4), ("ALONE", 5), ("is_plain_let", 13), ("after_step", 14)],
  [("PARTS", 1), ("READ_AT", 0), ("LARGEST", 2)],
  ["isinstance", "int", "bool", "tuple", "len", "all", "list", "str", "zip", "reversed", "range", "max", "abs", "repr", "min"],
  [("plain_steps", 0, ["stand", "book"], [1, 0]), ("has_stopped", 0, ["core", "book", "stand"], [1, 2, 0]), ("has_ended", 0, ["stand", "book"], [1, 0]), ("plain_first", 0, ["memory", "book"], [1, 0]), ("plain_after", 0, ["step", "book", "stand"], [1, 2, 0])]⟩
abbrev s15 : Stmt := top 1
def n15 : List Str := ["value"]
abbrev s16 : Stmt := top 2
def n16 : List Str := ["value", "low", "high"]
abbrev s17 : Stmt := top 3
def n17 : List Str := ["value"]
abbrev s18 : Stmt := top 4
def n18 : List Str := ["value", "length"]
abbrev s19 : Stmt := top 5
def n19 : List Str := ["value", "length", "word"]
abbrev s40 : Stmt := top 6
def n40 : List Str := ["value", "item"]
abbrev s56 : Stmt := top 7
def n56 : List Str := ["items", "index", "item"]
abbrev s20 : Stmt := top 13
def n20 : List Str := ["value", "rows", "kinds", "part", "kind"]
abbrev s21 : Stmt := top 14
def n21 : List Str := ["value", "instruction"]
abbrev s22 : Stmt := top 15
def n22 : List Str := ["value", "rows"]
abbrev s24 : Stmt := top 16
def n24 : List Str := ["value"]
abbrev s0 : Stmt := top 17
def n0 : List Str := ["instruction", "at"]
abbrev s2 : Stmt := top 18
def n2 : List Str := ["cells", "base", "offset"]
abbrev s3 : Stmt := top 19
def n3 : List Str := ["instruction", "words", "name", "one", "other"]
abbrev s57 : Stmt := top 27
def n57 : List Str := ["book"]
abbrev s58 : Stmt := top 28
def n58 : List Str := ["memory"]
abbrev s59 : Stmt := top 29
def n59 : List Str := ["number", "low", "high"]
abbrev s60 : Stmt := top 33
def n60 : List Str := ["book", "memory", "_"]
abbrev s61 : Stmt := top 34
def n61 : List Str := ["rows", "row"]
abbrev s62 : Stmt := top 35
def n62 : List Str := ["book", "stand", "rows", "core"]
abbrev s63 : Stmt := top 36
def n63 : List Str := ["instruction", "registers", "cells"]
abbrev s64 : Stmt := top 37
def n64 : List Str := ["instruction", "old", "given"]
abbrev s65 : Stmt := top 38
def n65 : List Str := ["instruction", "row", "registers"]
abbrev s884 : Stmt := top 39
def n884 : List Str := ["stores", "memory", "cell", "store"]
abbrev s67 : Stmt := top 40
def n67 : List Str := ["book", "stand", "core", "row", "_", "stores"]
abbrev s68 : Stmt := top 41
def n68 : List Str := ["stand", "core"]
abbrev s69 : Stmt := top 42
def n69 : List Str := ["book", "stand", "core", "cores", "memory", "row", "registers", "stores", "instruction", "name", "following", "word", "cell", "old", "number"]
abbrev s70 : Stmt := top 43
def n70 : List Str := ["stand", "core", "cores", "memory", "row", "registers", "stores", "cell", "word"]
abbrev s71 : Stmt := top 44
def n71 : List Str := ["book", "stand", "steps", "core"]
abbrev s885 : Stmt := top 45
def n885 : List Str := ["book", "stand", "step"]
abbrev s73 : Stmt := top 46
def n73 : List Str := ["book", "stand", "step"]
abbrev s886 : Stmt := top 48
def n886 : List Str := ["given", "stand", "steps", "is_let", "after", "step"]
abbrev s74 : Stmt := top 50
def n74 : List Str := ["book", "memory"]
abbrev s75 : Stmt := top 51
def n75 : List Str := ["book", "stand"]
abbrev s887 : Stmt := top 52
def n887 : List Str := ["book", "stand", "step"]
abbrev s77 : Stmt := top 53
def n77 : List Str := ["book", "stand", "core"]
abbrev s78 : Stmt := top 54
def n78 : List Str := ["book", "stand"]
abbrev s4 : Stmt := top 56
def n4 : List Str := ["script", "k", "cell", "mixed", "one"]
abbrev s5 : Stmt := top 57
def n5 : List Str := ["spring", "many", "found", "mixed"]
abbrev s6 : Stmt := top 58
def n6 : List Str := ["spring", "way"]
abbrev s7 : Stmt := top 59
def n7 : List Str := ["spring", "name", "few", "most", "one", "two", "three", "word", "row"]
abbrev s79 : Stmt := top 60
def n79 : List Str := ["spring", "size", "few", "names", "found", "turn"]
abbrev s80 : Stmt := top 61
def n80 : List Str := ["spring", "most", "great", "sizes", "core", "size"]
abbrev s81 : Stmt := top 62
def n81 : List Str := ["spring", "size", "cell"]
abbrev s82 : Stmt := top 63
def n82 : List Str := ["book", "memory", "rows"]
abbrev s83 : Stmt := top 64
def n83 : List Str := ["book", "stand", "core", "row"]
abbrev s84 : Stmt := top 65
def n84 : List Str := ["book", "stand", "found", "core", "one", "late"]
abbrev s85 : Stmt := top 66
def n85 : List Str := ["one", "words", "first", "second"]
abbrev s86 : Stmt := top 67
def n86 : List Str := ["book", "stand", "at", "core", "memory", "one", "words", "name", "cell", "ahead", "more", "late", "word"]
abbrev s87 : Stmt := top 68
def n87 : List Str := ["stand", "at", "core", "memory", "cell", "word"]
abbrev s88 : Stmt := top 69
def n88 : List Str := ["book", "stand", "step"]
abbrev s89 : Stmt := top 70
def n89 : List Str := ["stand", "row", "words", "late"]
abbrev s12 : Stmt := top 71
def n12 : List Str := ["found", "due"]
abbrev s30 : Stmt := top 72
def n30 : List Str := ["found", "due"]
abbrev s90 : Stmt := top 73
def n90 : List Str := ["spring", "book", "stand", "own", "due", "found", "core", "ended", "stopped"]
abbrev s91 : Stmt := top 74
def n91 : List Str := ["spring", "lets", "late", "does", "step"]
abbrev s92 : Stmt := top 75
def n92 : List Str := ["spring", "most", "great", "book", "memory", "own", "stand"]
abbrev s93 : Stmt := top 76
def n93 : List Str := ["spring", "machine", "late", "book", "stand", "own", "lets", "step"]
abbrev s94 : Stmt := top 77
def n94 : List Str := ["spring", "late", "kept", "machines", "turn", "machine", "stand", "due"]
abbrev s95 : Stmt := top 78
def n95 : List Str := ["script", "k"]
theorem bq15 : cSs 60 ⟨n15, (defScope s15).names, none, G⟩ (defBody s15) = b_15 := by rfl
theorem bq16 : cSs 60 ⟨n16, (defScope s16).names, none, G⟩ (defBody s16) = b_16 := by rfl
theorem bq17 : cSs 60 ⟨n17, (defScope s17).names, none, G⟩ (defBody s17) = b_17 := by rfl
theorem bq18 : cSs 60 ⟨n18, (defScope s18).names, none, G⟩ (defBody s18) = b_18 := by rfl
theorem bq19 : cSs 60 ⟨n19, (defScope s19).names, none, G⟩ (defBody s19) = b_19 := by rfl
theorem bq40 : cSs 60 ⟨n40, (defScope s40).names, none, G⟩ (defBody s40) = b_40 := by rfl
theorem bq56 : cSs 60 ⟨n56, (defScope s56).names, none, G⟩ (defBody s56) = b_56 := by rfl
theorem bq20 : cSs 60 ⟨n20, (defScope s20).names, none, G⟩ (defBody s20) = b_20 := by rfl
theorem bq21 : cSs 60 ⟨n21, (defScope s21).names, none, G⟩ (defBody s21) = b_21 := by rfl
theorem bq22 : cSs 60 ⟨n22, (defScope s22).names, none, G⟩ (defBody s22) = b_22 := by rfl
theorem bq24 : cSs 60 ⟨n24, (defScope s24).names, none, G⟩ (defBody s24) = b_24 := by rfl
theorem bq0 : cSs 60 ⟨n0, (defScope s0).names, none, G⟩ (defBody s0) = b_0 := by rfl
theorem bq2 : cSs 60 ⟨n2, (defScope s2).names, none, G⟩ (defBody s2) = b_2 := by rfl
theorem bq3 : cSs 60 ⟨n3, (defScope s3).names, none, G⟩ (defBody s3) = b_3 := by rfl
theorem bq57 : cSs 60 ⟨n57, (defScope s57).names, none, G⟩ (defBody s57) = b_57 := by rfl
theorem bq58 : cSs 60 ⟨n58, (defScope s58).names, none, G⟩ (defBody s58) = b_58 := by rfl
theorem bq59 : cSs 60 ⟨n59, (defScope s59).names, none, G⟩ (defBody s59) = b_59 := by rfl
theorem bq60 : cSs 60 ⟨n60, (defScope s60).names, none, G⟩ (defBody s60) = b_60 := by rfl
theorem bq61 : cSs 60 ⟨n61, (defScope s61).names, none, G⟩ (defBody s61) = b_61 := by rfl
theorem bq62 : cSs 60 ⟨n62, (defScope s62).names, none, G⟩ (defBody s62) = b_62 := by rfl
theorem bq63 : cSs 60 ⟨n63, (defScope s63).names, none, G⟩ (defBody s63) = b_63 := by rfl
theorem bq64 : cSs 60 ⟨n64, (defScope s64).names, none, G⟩ (defBody s64) = b_64 := by rfl
theorem bq65 : cSs 60 ⟨n65, (defScope s65).names, none, G⟩ (defBody s65) = b_65 := by rfl
theorem bq884 : cSs 60 ⟨n884, (defScope s884).names, none, G⟩ (defBody s884) = b_884 := by rfl
theorem bq67 : cSs 60 ⟨n67, (defScope s67).names, none, G⟩ (defBody s67) = b_67 := by rfl
theorem bq68 : cSs 60 ⟨n68, (defScope s68).names, none, G⟩ (defBody s68) = b_68 := by rfl
theorem bq69 : cSs 60 ⟨n69, (defScope s69).names, none, G⟩ (defBody s69) = b_69 := by rfl
theorem bq70 : cSs 60 ⟨n70, (defScope s70).names, none, G⟩ (defBody s70) = b_70 := by rfl
theorem bq71 : cSs 60 ⟨n71, (defScope s71).names, none, G⟩ (defBody s71) = b_71 := by rfl
theorem bq885 : cSs 60 ⟨n885, (defScope s885).names, none, G⟩ (defBody s885) = b_885 := by rfl
theorem bq73 : cSs 60 ⟨n73, (defScope s73).names, none, G⟩ (defBody s73) = b_73 := by rfl
theorem bq886 : cSs 60 ⟨n886, (defScope s886).names, none, G⟩ (defBody s886) = b_886 := by rfl
theorem bq74 : cSs 60 ⟨n74, (defScope s74).names, none, G⟩ (defBody s74) = b_74 := by rfl
theorem bq75 : cSs 60 ⟨n75, (defScope s75).names, none, G⟩ (defBody s75) = b_75 := by rfl
theorem bq887 : cSs 60 ⟨n887, (defScope s887).names, none, G⟩ (defBody s887) = b_887 := by rfl
theorem bq77 : cSs 60 ⟨n77, (defScope s77).names, none, G⟩ (defBody s77) = b_77 := by rfl
theorem bq78 : cSs 60 ⟨n78, (defScope s78).names, none, G⟩ (defBody s78) = b_78 := by rfl
theorem bq4 : cSs 60 ⟨n4, (defScope s4).names, none, G⟩ (defBody s4) = b_4 := by rfl
theorem bq5 : cSs 60 ⟨n5, (defScope s5).names, none, G⟩ (defBody s5) = b_5 := by rfl
theorem bq6 : cSs 60 ⟨n6, (defScope s6).names, none, G⟩ (defBody s6) = b_6 := by rfl
theorem bq7 : cSs 60 ⟨n7, (defScope s7).names, none, G⟩ (defBody s7) = b_7 := by rfl
theorem bq79 : cSs 60 ⟨n79, (defScope s79).names, none, G⟩ (defBody s79) = b_79 := by rfl
theorem bq80 : cSs 60 ⟨n80, (defScope s80).names, none, G⟩ (defBody s80) = b_80 := by rfl
theorem bq81 : cSs 60 ⟨n81, (defScope s81).names, none, G⟩ (defBody s81) = b_81 := by rfl
theorem bq82 : cSs 60 ⟨n82, (defScope s82).names, none, G⟩ (defBody s82) = b_82 := by rfl
theorem bq83 : cSs 60 ⟨n83, (defScope s83).names, none, G⟩ (defBody s83) = b_83 := by rfl
theorem bq84 : cSs 60 ⟨n84, (defScope s84).names, none, G⟩ (defBody s84) = b_84 := by rfl
theorem bq85 : cSs 60 ⟨n85, (defScope s85).names, none, G⟩ (defBody s85) = b_85 := by rfl
theorem bq86 : cSs 60 ⟨n86, (defScope s86).names, none, G⟩ (defBody s86) = b_86 := by rfl
theorem bq87 : cSs 60 ⟨n87, (defScope s87).names, none, G⟩ (defBody s87) = b_87 := by rfl
theorem bq88 : cSs 60 ⟨n88, (defScope s88).names, none, G⟩ (defBody s88) = b_88 := by rfl
theorem bq89 : cSs 60 ⟨n89, (defScope s89).names, none, G⟩ (defBody s89) = b_89 := by rfl
theorem bq12 : cSs 60 ⟨n12, (defScope s12).names, none, G⟩ (defBody s12) = b_12 := by rfl
theorem bq30 : cSs 60 ⟨n30, (defScope s30).names, none, G⟩ (defBody s30) = b_30 := by rfl
theorem bq90 : cSs 60 ⟨n90, (defScope s90).names, none, G⟩ (defBody s90) = b_90 := by rfl
theorem bq91 : cSs 60 ⟨n91, (defScope s91).names, none, G⟩ (defBody s91) = b_91 := by rfl
theorem bq92 : cSs 60 ⟨n92, (defScope s92).names, none, G⟩ (defBody s92) = b_92 := by rfl
theorem bq93 : cSs 60 ⟨n93, (defScope s93).names, none, G⟩ (defBody s93) = b_93 := by rfl
theorem bq94 : cSs 60 ⟨n94, (defScope s94).names, none, G⟩ (defBody s94) = b_94 := by rfl
theorem bq95 : cSs 60 ⟨n95, (defScope s95).names, none, G⟩ (defBody s95) = b_95 := by rfl
end K05

set_option Elab.async false
set_option linter.all false
set_option maxRecDepth 100000
set_option maxHeartbeats 8000000
namespace K05
open PySem L2 Tm
theorem sc15 : FnScope n15 ["value"] (defScope s15) := ⟨rfl, rfl, rfl, by decide +kernel, rfl, by decide +kernel, by decide +kernel⟩
theorem here15 {K : PySem.W.Frag} {h : Heap} {mg : Str → Option Value} {a : Addr} {oc : Value} {od an : Option Addr} {osl : Array (Option Value)} {kV doc pm cdv ct : Value}
    (X : K.In h) (Gm : h.Ns mainGlobals mg) (h1 : PySem.W.nsIn K mainGlobals "is_integer" = some (some (.ref a)))
    (l : List.lookup a K = some ⟨oc, od, .func (PySem.W.fnOf "is_integer" "is_integer" (defArgs s15) (defBody s15) (defScope s15) .none kV doc pm an cdv ct), osl⟩) (c : PySem.W.codeIn K cdv "is_integer" = true) (k : PySem.W.keepIn K (.ref a) = true) : FnHere K mg prK05 G 60 ("is_integer", 15, ["value"]) := by
  refine here_mk X Gm h1 l c k sc15 (fun _ _ _ _ _ _ us hl => match us, hl with | [_], _ => rfl) ?_ (by rw [bq15]; rfl)
  exact fun _ _ _ _ _ _ r hr e => no_kw (by decide +kernel) hr e
theorem sc16 : FnScope n16 ["value", "low", "high"] (defScope s16) := ⟨rfl, rfl, rfl, by decide +kernel, rfl, by decide +kernel, by decide +kernel⟩
theorem here16 {K : PySem.W.Frag} {h : Heap} {mg : Str → Option Value} {a : Addr} {oc : Value} {od an : Option Addr} {osl : Array (Option Value)} {kV doc pm cdv ct : Value}
    (X : K.In h) (Gm : h.Ns mainGlobals mg) (h1 : PySem.W.nsIn K mainGlobals "is_between" = some (some (.ref a)))
    (l : List.lookup a K = some ⟨oc, od, .func (PySem.W.fnOf "is_between" "is_between" (defArgs s16) (defBody s16) (defScope s16) .none kV doc pm an cdv ct), osl⟩) (c : PySem.W.codeIn K cdv "is_between" = true) (k : PySem.W.keepIn K (.ref a) = true) : FnHere K mg prK05 G 60 ("is_between", 16, ["value", "low", "high"]) := by
  refine here_mk X Gm h1 l c k sc16 (fun _ _ _ _ _ _ us hl => match us, hl with | [_, _, _], _ => rfl) ?_ (by rw [bq16]; rfl)
  exact fun _ _ _ _ _ _ r hr e => no_kw (by decide +kernel) hr e
theorem sc17 : FnScope n17 ["value"] (defScope s17) := ⟨rfl, rfl, rfl, by decide +kernel, rfl, by decide +kernel, by decide +kernel⟩
theorem here17 {K : PySem.W.Frag} {h : Heap} {mg : Str → Option Value} {a : Addr} {oc : Value} {od an : Option Addr} {osl : Array (Option Value)} {kV doc pm cdv ct : Value}
    (X : K.In h) (Gm : h.Ns mainGlobals mg) (h1 : PySem.W.nsIn K mainGlobals "is_word" = some (some (.ref a)))
    (l : List.lookup a K = some ⟨oc, od, .func (PySem.W.fnOf "is_word" "is_word" (defArgs s17) (defBody s17) (defScope s17) .none kV doc pm an cdv ct), osl⟩) (c : PySem.W.codeIn K cdv "is_word" = true) (k : PySem.W.keepIn K (.ref a) = true) : FnHere K mg prK05 G 60 ("is_word", 17, ["value"]) := by
  refine here_mk X Gm h1 l c k sc17 (fun _ _ _ _ _ _ us hl => match us, hl with | [_], _ => rfl) ?_ (by rw [bq17]; rfl)
  exact fun _ _ _ _ _ _ r hr e => no_kw (by decide +kernel) hr e
theorem sc18 : FnScope n18 ["value", "length"] (defScope s18) := ⟨rfl, rfl, rfl, by decide +kernel, rfl, by decide +kernel, by decide +kernel⟩
theorem here18 {K : PySem.W.Frag} {h : Heap} {mg : Str → Option Value} {a : Addr} {oc : Value} {od an : Option Addr} {osl : Array (Option Value)} {kV doc pm cdv ct : Value}
    (X : K.In h) (Gm : h.Ns mainGlobals mg) (h1 : PySem.W.nsIn K mainGlobals "is_tuple_of" = some (some (.ref a)))
    (l : List.lookup a K = some ⟨oc, od, .func (PySem.W.fnOf "is_tuple_of" "is_tuple_of" (defArgs s18) (defBody s18) (defScope s18) .none kV doc pm an cdv ct), osl⟩) (c : PySem.W.codeIn K cdv "is_tuple_of" = true) (k : PySem.W.keepIn K (.ref a) = true) : FnHere K mg prK05 G 60 ("is_tuple_of", 18, ["value", "length"]) := by
  refine here_mk X Gm h1 l c k sc18 (fun _ _ _ _ _ _ us hl => match us, hl with | [_, _], _ => rfl) ?_ (by rw [bq18]; rfl)
  exact fun _ _ _ _ _ _ r hr e => no_kw (by decide +kernel) hr e
theorem sc19 : FnScope n19 ["value", "length"] (defScope s19) := ⟨rfl, rfl, rfl, by decide +kernel, rfl, by decide +kernel, by decide +kernel⟩
theorem here19 {K : PySem.W.Frag} {h : Heap} {mg : Str → Option Value} {a : Addr} {oc : Value} {od an : Option Addr} {osl : Array (Option Value)} {kV doc pm cdv ct : Value}
    (X : K.In h) (Gm : h.Ns mainGlobals mg) (h1 : PySem.W.nsIn K mainGlobals "are_words" = some (some (.ref a)))
    (l : List.lookup a K = some ⟨oc, od, .func (PySem.W.fnOf "are_words" "are_words" (defArgs s19) (defBody s19) (defScope s19) .none kV doc pm an cdv ct), osl⟩) (c : PySem.W.codeIn K cdv "are_words" = true) (k : PySem.W.keepIn K (.ref a) = true) : FnHere K mg prK05 G 60 ("are_words", 19, ["value", "length"]) := by
  refine here_mk X Gm h1 l c k sc19 (fun _ _ _ _ _ _ us hl => match us, hl with | [_, _], _ => rfl) ?_ (by rw [bq19]; rfl)
  exact fun _ _ _ _ _ _ r hr e => no_kw (by decide +kernel) hr e
theorem sc40 : FnScope n40 ["value"] (defScope s40) := ⟨rfl, rfl, rfl, by decide +kernel, rfl, by decide +kernel, by decide +kernel⟩
theorem here40 {K : PySem.W.Frag} {h : Heap} {mg : Str → Option Value} {a : Addr} {oc : Value} {od an : Option Addr} {osl : Array (Option Value)} {kV doc pm cdv ct : Value}
    (X : K.In h) (Gm : h.Ns mainGlobals mg) (h1 : PySem.W.nsIn K mainGlobals "rebuilt" = some (some (.ref a)))
    (l : List.lookup a K = some ⟨oc, od, .func (PySem.W.fnOf "rebuilt" "rebuilt" (defArgs s40) (defBody s40) (defScope s40) .none kV doc pm an cdv ct), osl⟩) (c : PySem.W.codeIn K cdv "rebuilt" = true) (k : PySem.W.keepIn K (.ref a) = true) : FnHere K mg prK05 G 60 ("rebuilt", 40, ["value"]) := by
  refine here_mk X Gm h1 l c k sc40 (fun _ _ _ _ _ _ us hl => match us, hl with | [_], _ => rfl) ?_ (by rw [bq40]; rfl)
  exact fun _ _ _ _ _ _ r hr e => no_kw (by decide +kernel) hr e
theorem sc56 : FnScope n56 ["items", "index", "item"] (defScope s56) := ⟨rfl, rfl, rfl, by decide +kernel, rfl, by decide +kernel, by decide +kernel⟩
theorem here56 {K : PySem.W.Frag} {h : Heap} {mg : Str → Option Value} {a : Addr} {oc : Value} {od an : Option Addr} {osl : Array (Option Value)} {kV doc pm cdv ct : Value}
    (X : K.In h) (Gm : h.Ns mainGlobals mg) (h1 : PySem.W.nsIn K mainGlobals "replaced" = some (some (.ref a)))
    (l : List.lookup a K = some ⟨oc, od, .func (PySem.W.fnOf "replaced" "replaced" (defArgs s56) (defBody s56) (defScope s56) .none kV doc pm an cdv ct), osl⟩) (c : PySem.W.codeIn K cdv "replaced" = true) (k : PySem.W.keepIn K (.ref a) = true) : FnHere K mg prK05 G 60 ("replaced", 56, ["items", "index", "item"]) := by
  refine here_mk X Gm h1 l c k sc56 (fun _ _ _ _ _ _ us hl => match us, hl with | [_, _, _], _ => rfl) ?_ (by rw [bq56]; rfl)
  exact fun _ _ _ _ _ _ r hr e => no_kw (by decide +kernel) hr e
theorem sc20 : FnScope n20 ["value", "rows"] (defScope s20) := ⟨rfl, rfl, rfl, by decide +kernel, rfl, by decide +kernel, by decide +kernel⟩
theorem here20 {K : PySem.W.Frag} {h : Heap} {mg : Str → Option Value} {a : Addr} {oc : Value} {od an : Option Addr} {osl : Array (Option Value)} {kV doc pm cdv ct : Value}
    (X : K.In h) (Gm : h.Ns mainGlobals mg) (h1 : PySem.W.nsIn K mainGlobals "is_instruction" = some (some (.ref a)))
    (l : List.lookup a K = some ⟨oc, od, .func (PySem.W.fnOf "is_instruction" "is_instruction" (defArgs s20) (defBody s20) (defScope s20) .none kV doc pm an cdv ct), osl⟩) (c : PySem.W.codeIn K cdv "is_instruction" = true) (k : PySem.W.keepIn K (.ref a) = true) : FnHere K mg prK05 G 60 ("is_instruction", 20, ["value", "rows"]) := by
  refine here_mk X Gm h1 l c k sc20 (fun _ _ _ _ _ _ us hl => match us, hl with | [_, _], _ => rfl) ?_ (by rw [bq20]; rfl)
  exact fun _ _ _ _ _ _ r hr e => no_kw (by decide +kernel) hr e
theorem sc21 : FnScope n21 ["value"] (defScope s21) := ⟨rfl, rfl, rfl, by decide +kernel, rfl, by decide +kernel, by decide +kernel⟩
theorem here21 {K : PySem.W.Frag} {h : Heap} {mg : Str → Option Value} {a : Addr} {oc : Value} {od an : Option Addr} {osl : Array (Option Value)} {kV doc pm cdv ct : Value}
    (X : K.In h) (Gm : h.Ns mainGlobals mg) (h1 : PySem.W.nsIn K mainGlobals "are_rows" = some (some (.ref a)))
    (l : List.lookup a K = some ⟨oc, od, .func (PySem.W.fnOf "are_rows" "are_rows" (defArgs s21) (defBody s21) (defScope s21) .none kV doc pm an cdv ct), osl⟩) (c : PySem.W.codeIn K cdv "are_rows" = true) (k : PySem.W.keepIn K (.ref a) = true) : FnHere K mg prK05 G 60 ("are_rows", 21, ["value"]) := by
  refine here_mk X Gm h1 l c k sc21 (fun _ _ _ _ _ _ us hl => match us, hl with | [_], _ => rfl) ?_ (by rw [bq21]; rfl)
  exact fun _ _ _ _ _ _ r hr e => no_kw (by decide +kernel) hr e
theorem sc22 : FnScope n22 ["value"] (defScope s22) := ⟨rfl, rfl, rfl, by decide +kernel, rfl, by decide +kernel, by decide +kernel⟩
theorem here22 {K : PySem.W.Frag} {h : Heap} {mg : Str → Option Value} {a : Addr} {oc : Value} {od an : Option Addr} {osl : Array (Option Value)} {kV doc pm cdv ct : Value}
    (X : K.In h) (Gm : h.Ns mainGlobals mg) (h1 : PySem.W.nsIn K mainGlobals "is_book" = some (some (.ref a)))
    (l : List.lookup a K = some ⟨oc, od, .func (PySem.W.fnOf "is_book" "is_book" (defArgs s22) (defBody s22) (defScope s22) .none kV doc pm an cdv ct), osl⟩) (c : PySem.W.codeIn K cdv "is_book" = true) (k : PySem.W.keepIn K (.ref a) = true) : FnHere K mg prK05 G 60 ("is_book", 22, ["value"]) := by
  refine here_mk X Gm h1 l c k sc22 (fun _ _ _ _ _ _ us hl => match us, hl with | [_], _ => rfl) ?_ (by rw [bq22]; rfl)
  exact fun _ _ _ _ _ _ r hr e => no_kw (by decide +kernel) hr e
theorem sc24 : FnScope n24 ["value"] (defScope s24) := ⟨rfl, rfl, rfl, by decide +kernel, rfl, by decide +kernel, by decide +kernel⟩
theorem here24 {K : PySem.W.Frag} {h : Heap} {mg : Str → Option Value} {a : Addr} {oc : Value} {od an : Option Addr} {osl : Array (Option Value)} {kV doc pm cdv ct : Value}
    (X : K.In h) (Gm : h.Ns mainGlobals mg) (h1 : PySem.W.nsIn K mainGlobals "is_memory" = some (some (.ref a)))
    (l : List.lookup a K = some ⟨oc, od, .func (PySem.W.fnOf "is_memory" "is_memory" (defArgs s24) (defBody s24) (defScope s24) .none kV doc pm an cdv ct), osl⟩) (c : PySem.W.codeIn K cdv "is_memory" = true) (k : PySem.W.keepIn K (.ref a) = true) : FnHere K mg prK05 G 60 ("is_memory", 24, ["value"]) := by
  refine here_mk X Gm h1 l c k sc24 (fun _ _ _ _ _ _ us hl => match us, hl with | [_], _ => rfl) ?_ (by rw [bq24]; rfl)
  exact fun _ _ _ _ _ _ r hr e => no_kw (by decide +kernel) hr e
theorem sc0 : FnScope n0 ["instruction"] (defScope s0) := ⟨rfl, rfl, rfl, by decide +kernel, rfl, by decide +kernel, by decide +kernel⟩
theorem here0 {K : PySem.W.Frag} {h : Heap} {mg : Str → Option Value} {a : Addr} {oc : Value} {od an : Option Addr} {osl : Array (Option Value)} {kV doc pm cdv ct : Value}
    (X : K.In h) (Gm : h.Ns mainGlobals mg) (h1 : PySem.W.nsIn K mainGlobals "reads" = some (some (.ref a)))
    (l : List.lookup a K = some ⟨oc, od, .func (PySem.W.fnOf "reads" "reads" (defArgs s0) (defBody s0) (defScope s0) .none kV doc pm an cdv ct), osl⟩) (c : PySem.W.codeIn K cdv "reads" = true) (k : PySem.W.keepIn K (.ref a) = true) : FnHere K mg prK05 G 60 ("reads", 0, ["instruction"]) := by
  refine here_mk X Gm h1 l c k sc0 (fun _ _ _ _ _ _ us hl => match us, hl with | [_], _ => rfl) ?_ (by rw [bq0]; rfl)
  exact fun _ _ _ _ _ _ r hr e => no_kw (by decide +kernel) hr e
theorem sc2 : FnScope n2 ["cells", "base", "offset"] (defScope s2) := ⟨rfl, rfl, rfl, by decide +kernel, rfl, by decide +kernel, by decide +kernel⟩
theorem here2 {K : PySem.W.Frag} {h : Heap} {mg : Str → Option Value} {a : Addr} {oc : Value} {od an : Option Addr} {osl : Array (Option Value)} {kV doc pm cdv ct : Value}
    (X : K.In h) (Gm : h.Ns mainGlobals mg) (h1 : PySem.W.nsIn K mainGlobals "cell_of" = some (some (.ref a)))
    (l : List.lookup a K = some ⟨oc, od, .func (PySem.W.fnOf "cell_of" "cell_of" (defArgs s2) (defBody s2) (defScope s2) .none kV doc pm an cdv ct), osl⟩) (c : PySem.W.codeIn K cdv "cell_of" = true) (k : PySem.W.keepIn K (.ref a) = true) : FnHere K mg prK05 G 60 ("cell_of", 2, ["cells", "base", "offset"]) := by
  refine here_mk X Gm h1 l c k sc2 (fun _ _ _ _ _ _ us hl => match us, hl with | [_, _, _], _ => rfl) ?_ (by rw [bq2]; rfl)
  exact fun _ _ _ _ _ _ r hr e => no_kw (by decide +kernel) hr e
theorem sc3 : FnScope n3 ["instruction", "words"] (defScope s3) := ⟨rfl, rfl, rfl, by decide +kernel, rfl, by decide +kernel, by decide +kernel⟩
theorem here3 {K : PySem.W.Frag} {h : Heap} {mg : Str → Option Value} {a : Addr} {oc : Value} {od an : Option Addr} {osl : Array (Option Value)} {kV doc pm cdv ct : Value}
    (X : K.In h) (Gm : h.Ns mainGlobals mg) (h1 : PySem.W.nsIn K mainGlobals "result" = some (some (.ref a)))
    (l : List.lookup a K = some ⟨oc, od, .func (PySem.W.fnOf "result" "result" (defArgs s3) (defBody s3) (defScope s3) .none kV doc pm an cdv ct), osl⟩) (c : PySem.W.codeIn K cdv "result" = true) (k : PySem.W.keepIn K (.ref a) = true) : FnHere K mg prK05 G 60 ("result", 3, ["instruction", "words"]) := by
  refine here_mk X Gm h1 l c k sc3 (fun _ _ _ _ _ _ us hl => match us, hl with | [_, _], _ => rfl) ?_ (by rw [bq3]; rfl)
  exact fun _ _ _ _ _ _ r hr e => no_kw (by decide +kernel) hr e
theorem sc57 : FnScope n57 ["book"] (defScope s57) := ⟨rfl, rfl, rfl, by decide +kernel, rfl, by decide +kernel, by decide +kernel⟩
theorem here57 {K : PySem.W.Frag} {h : Heap} {mg : Str → Option Value} {a : Addr} {oc : Value} {od an : Option Addr} {osl : Array (Option Value)} {kV doc pm cdv ct : Value}
    (X : K.In h) (Gm : h.Ns mainGlobals mg) (h1 : PySem.W.nsIn K mainGlobals "check_book" = some (some (.ref a)))
    (l : List.lookup a K = some ⟨oc, od, .func (PySem.W.fnOf "check_book" "check_book" (defArgs s57) (defBody s57) (defScope s57) .none kV doc pm an cdv ct), osl⟩) (c : PySem.W.codeIn K cdv "check_book" = true) (k : PySem.W.keepIn K (.ref a) = true) : FnHere K mg prK05 G 60 ("check_book", 57, ["book"]) := by
  refine here_mk X Gm h1 l c k sc57 (fun _ _ _ _ _ _ us hl => match us, hl with | [_], _ => rfl) ?_ (by rw [bq57]; rfl)
  exact fun _ _ _ _ _ _ r hr e => no_kw (by decide +kernel) hr e
theorem sc58 : FnScope n58 ["memory"] (defScope s58) := ⟨rfl, rfl, rfl, by decide +kernel, rfl, by decide +kernel, by decide +kernel⟩
theorem here58 {K : PySem.W.Frag} {h : Heap} {mg : Str → Option Value} {a : Addr} {oc : Value} {od an : Option Addr} {osl : Array (Option Value)} {kV doc pm cdv ct : Value}
    (X : K.In h) (Gm : h.Ns mainGlobals mg) (h1 : PySem.W.nsIn K mainGlobals "check_memory" = some (some (.ref a)))
    (l : List.lookup a K = some ⟨oc, od, .func (PySem.W.fnOf "check_memory" "check_memory" (defArgs s58) (defBody s58) (defScope s58) .none kV doc pm an cdv ct), osl⟩) (c : PySem.W.codeIn K cdv "check_memory" = true) (k : PySem.W.keepIn K (.ref a) = true) : FnHere K mg prK05 G 60 ("check_memory", 58, ["memory"]) := by
  refine here_mk X Gm h1 l c k sc58 (fun _ _ _ _ _ _ us hl => match us, hl with | [_], _ => rfl) ?_ (by rw [bq58]; rfl)
  exact fun _ _ _ _ _ _ r hr e => no_kw (by decide +kernel) hr e
theorem sc59 : FnScope n59 ["number", "low", "high"] (defScope s59) := ⟨rfl, rfl, rfl, by decide +kernel, rfl, by decide +kernel, by decide +kernel⟩
theorem here59 {K : PySem.W.Frag} {h : Heap} {mg : Str → Option Value} {a : Addr} {oc : Value} {od an : Option Addr} {osl : Array (Option Value)} {kV doc pm cdv ct : Value}
    (X : K.In h) (Gm : h.Ns mainGlobals mg) (h1 : PySem.W.nsIn K mainGlobals "check_number" = some (some (.ref a)))
    (l : List.lookup a K = some ⟨oc, od, .func (PySem.W.fnOf "check_number" "check_number" (defArgs s59) (defBody s59) (defScope s59) .none kV doc pm an cdv ct), osl⟩) (c : PySem.W.codeIn K cdv "check_number" = true) (k : PySem.W.keepIn K (.ref a) = true) : FnHere K mg prK05 G 60 ("check_number", 59, ["number", "low", "high"]) := by
  refine here_mk X Gm h1 l c k sc59 (fun _ _ _ _ _ _ us hl => match us, hl with | [_, _, _], _ => rfl) ?_ (by rw [bq59]; rfl)
  exact fun _ _ _ _ _ _ r hr e => no_kw (by decide +kernel) hr e
theorem sc60 : FnScope n60 ["book", "memory"] (defScope s60) := ⟨rfl, rfl, rfl, by decide +kernel, rfl, by decide +kernel, by decide +kernel⟩
theorem here60 {K : PySem.W.Frag} {h : Heap} {mg : Str → Option Value} {a : Addr} {oc : Value} {od an : Option Addr} {osl : Array (Option Value)} {kV doc pm cdv ct : Value}
    (X : K.In h) (Gm : h.Ns mainGlobals mg) (h1 : PySem.W.nsIn K mainGlobals "first_stand" = some (some (.ref a)))
    (l : List.lookup a K = some ⟨oc, od, .func (PySem.W.fnOf "first_stand" "first_stand" (defArgs s60) (defBody s60) (defScope s60) .none kV doc pm an cdv ct), osl⟩) (c : PySem.W.codeIn K cdv "first_stand" = true) (k : PySem.W.keepIn K (.ref a) = true) : FnHere K mg prK05 G 60 ("first_stand", 60, ["book", "memory"]) := by
  refine here_mk X Gm h1 l c k sc60 (fun _ _ _ _ _ _ us hl => match us, hl with | [_, _], _ => rfl) ?_ (by rw [bq60]; rfl)
  exact fun _ _ _ _ _ _ r hr e => no_kw (by decide +kernel) hr e
theorem sc61 : FnScope n61 ["rows", "row"] (defScope s61) := ⟨rfl, rfl, rfl, by decide +kernel, rfl, by decide +kernel, by decide +kernel⟩
theorem here61 {K : PySem.W.Frag} {h : Heap} {mg : Str → Option Value} {a : Addr} {oc : Value} {od an : Option Addr} {osl : Array (Option Value)} {kV doc pm cdv ct : Value}
    (X : K.In h) (Gm : h.Ns mainGlobals mg) (h1 : PySem.W.nsIn K mainGlobals "is_stopped" = some (some (.ref a)))
    (l : List.lookup a K = some ⟨oc, od, .func (PySem.W.fnOf "is_stopped" "is_stopped" (defArgs s61) (defBody s61) (defScope s61) .none kV doc pm an cdv ct), osl⟩) (c : PySem.W.codeIn K cdv "is_stopped" = true) (k : PySem.W.keepIn K (.ref a) = true) : FnHere K mg prK05 G 60 ("is_stopped", 61, ["rows", "row"]) := by
  refine here_mk X Gm h1 l c k sc61 (fun _ _ _ _ _ _ us hl => match us, hl with | [_, _], _ => rfl) ?_ (by rw [bq61]; rfl)
  exact fun _ _ _ _ _ _ r hr e => no_kw (by decide +kernel) hr e
theorem sc62 : FnScope n62 ["book", "stand"] (defScope s62) := ⟨rfl, rfl, rfl, by decide +kernel, rfl, by decide +kernel, by decide +kernel⟩
theorem here62 {K : PySem.W.Frag} {h : Heap} {mg : Str → Option Value} {a : Addr} {oc : Value} {od an : Option Addr} {osl : Array (Option Value)} {kV doc pm cdv ct : Value}
    (X : K.In h) (Gm : h.Ns mainGlobals mg) (h1 : PySem.W.nsIn K mainGlobals "is_ended" = some (some (.ref a)))
    (l : List.lookup a K = some ⟨oc, od, .func (PySem.W.fnOf "is_ended" "is_ended" (defArgs s62) (defBody s62) (defScope s62) .none kV doc pm an cdv ct), osl⟩) (c : PySem.W.codeIn K cdv "is_ended" = true) (k : PySem.W.keepIn K (.ref a) = true) : FnHere K mg prK05 G 60 ("is_ended", 62, ["book", "stand"]) := by
  refine here_mk X Gm h1 l c k sc62 (fun _ _ _ _ _ _ us hl => match us, hl with | [_, _], _ => rfl) ?_ (by rw [bq62]; rfl)
  exact fun _ _ _ _ _ _ r hr e => no_kw (by decide +kernel) hr e
theorem sc63 : FnScope n63 ["instruction", "registers", "cells"] (defScope s63) := ⟨rfl, rfl, rfl, by decide +kernel, rfl, by decide +kernel, by decide +kernel⟩
theorem here63 {K : PySem.W.Frag} {h : Heap} {mg : Str → Option Value} {a : Addr} {oc : Value} {od an : Option Addr} {osl : Array (Option Value)} {kV doc pm cdv ct : Value}
    (X : K.In h) (Gm : h.Ns mainGlobals mg) (h1 : PySem.W.nsIn K mainGlobals "access_cell" = some (some (.ref a)))
    (l : List.lookup a K = some ⟨oc, od, .func (PySem.W.fnOf "access_cell" "access_cell" (defArgs s63) (defBody s63) (defScope s63) .none kV doc pm an cdv ct), osl⟩) (c : PySem.W.codeIn K cdv "access_cell" = true) (k : PySem.W.keepIn K (.ref a) = true) : FnHere K mg prK05 G 60 ("access_cell", 63, ["instruction", "registers", "cells"]) := by
  refine here_mk X Gm h1 l c k sc63 (fun _ _ _ _ _ _ us hl => match us, hl with | [_, _, _], _ => rfl) ?_ (by rw [bq63]; rfl)
  exact fun _ _ _ _ _ _ r hr e => no_kw (by decide +kernel) hr e
theorem sc64 : FnScope n64 ["instruction", "old", "given"] (defScope s64) := ⟨rfl, rfl, rfl, by decide +kernel, rfl, by decide +kernel, by decide +kernel⟩
theorem here64 {K : PySem.W.Frag} {h : Heap} {mg : Str → Option Value} {a : Addr} {oc : Value} {od an : Option Addr} {osl : Array (Option Value)} {kV doc pm cdv ct : Value}
    (X : K.In h) (Gm : h.Ns mainGlobals mg) (h1 : PySem.W.nsIn K mainGlobals "changed_word" = some (some (.ref a)))
    (l : List.lookup a K = some ⟨oc, od, .func (PySem.W.fnOf "changed_word" "changed_word" (defArgs s64) (defBody s64) (defScope s64) .none kV doc pm an cdv ct), osl⟩) (c : PySem.W.codeIn K cdv "changed_word" = true) (k : PySem.W.keepIn K (.ref a) = true) : FnHere K mg prK05 G 60 ("changed_word", 64, ["instruction", "old", "given"]) := by
  refine here_mk X Gm h1 l c k sc64 (fun _ _ _ _ _ _ us hl => match us, hl with | [_, _, _], _ => rfl) ?_ (by rw [bq64]; rfl)
  exact fun _ _ _ _ _ _ r hr e => no_kw (by decide +kernel) hr e
theorem sc65 : FnScope n65 ["instruction", "row", "registers"] (defScope s65) := ⟨rfl, rfl, rfl, by decide +kernel, rfl, by decide +kernel, by decide +kernel⟩
theorem here65 {K : PySem.W.Frag} {h : Heap} {mg : Str → Option Value} {a : Addr} {oc : Value} {od an : Option Addr} {osl : Array (Option Value)} {kV doc pm cdv ct : Value}
    (X : K.In h) (Gm : h.Ns mainGlobals mg) (h1 : PySem.W.nsIn K mainGlobals "row_after" = some (some (.ref a)))
    (l : List.lookup a K = some ⟨oc, od, .func (PySem.W.fnOf "row_after" "row_after" (defArgs s65) (defBody s65) (defScope s65) .none kV doc pm an cdv ct), osl⟩) (c : PySem.W.codeIn K cdv "row_after" = true) (k : PySem.W.keepIn K (.ref a) = true) : FnHere K mg prK05 G 60 ("row_after", 65, ["instruction", "row", "registers"]) := by
  refine here_mk X Gm h1 l c k sc65 (fun _ _ _ _ _ _ us hl => match us, hl with | [_, _, _], _ => rfl) ?_ (by rw [bq65]; rfl)
  exact fun _ _ _ _ _ _ r hr e => no_kw (by decide +kernel) hr e
theorem sc884 : FnScope n884 ["stores", "memory", "cell"] (defScope s884) := ⟨rfl, rfl, rfl, by decide +kernel, rfl, by decide +kernel, by decide +kernel⟩
theorem here884 {K : PySem.W.Frag} {h : Heap} {mg : Str → Option Value} {a : Addr} {oc : Value} {od an : Option Addr} {osl : Array (Option Value)} {kV doc pm cdv ct : Value}
    (X : K.In h) (Gm : h.Ns mainGlobals mg) (h1 : PySem.W.nsIn K mainGlobals "loaded_word" = some (some (.ref a)))
    (l : List.lookup a K = some ⟨oc, od, .func (PySem.W.fnOf "loaded_word" "loaded_word" (defArgs s884) (defBody s884) (defScope s884) .none kV doc pm an cdv ct), osl⟩) (c : PySem.W.codeIn K cdv "loaded_word" = true) (k : PySem.W.keepIn K (.ref a) = true) : FnHere K mg prK05 G 60 ("loaded_word", 884, ["stores", "memory", "cell"]) := by
  refine here_mk X Gm h1 l c k sc884 (fun _ _ _ _ _ _ us hl => match us, hl with | [_, _, _], _ => rfl) ?_ (by rw [bq884]; rfl)
  exact fun _ _ _ _ _ _ r hr e => no_kw (by decide +kernel) hr e
theorem sc67 : FnScope n67 ["book", "stand", "core"] (defScope s67) := ⟨rfl, rfl, rfl, by decide +kernel, rfl, by decide +kernel, by decide +kernel⟩
theorem here67 {K : PySem.W.Frag} {h : Heap} {mg : Str → Option Value} {a : Addr} {oc : Value} {od an : Option Addr} {osl : Array (Option Value)} {kV doc pm cdv ct : Value}
    (X : K.In h) (Gm : h.Ns mainGlobals mg) (h1 : PySem.W.nsIn K mainGlobals "can_do" = some (some (.ref a)))
    (l : List.lookup a K = some ⟨oc, od, .func (PySem.W.fnOf "can_do" "can_do" (defArgs s67) (defBody s67) (defScope s67) .none kV doc pm an cdv ct), osl⟩) (c : PySem.W.codeIn K cdv "can_do" = true) (k : PySem.W.keepIn K (.ref a) = true) : FnHere K mg prK05 G 60 ("can_do", 67, ["book", "stand", "core"]) := by
  refine here_mk X Gm h1 l c k sc67 (fun _ _ _ _ _ _ us hl => match us, hl with | [_, _, _], _ => rfl) ?_ (by rw [bq67]; rfl)
  exact fun _ _ _ _ _ _ r hr e => no_kw (by decide +kernel) hr e
theorem sc68 : FnScope n68 ["stand", "core"] (defScope s68) := ⟨rfl, rfl, rfl, by decide +kernel, rfl, by decide +kernel, by decide +kernel⟩
theorem here68 {K : PySem.W.Frag} {h : Heap} {mg : Str → Option Value} {a : Addr} {oc : Value} {od an : Option Addr} {osl : Array (Option Value)} {kV doc pm cdv ct : Value}
    (X : K.In h) (Gm : h.Ns mainGlobals mg) (h1 : PySem.W.nsIn K mainGlobals "can_flush" = some (some (.ref a)))
    (l : List.lookup a K = some ⟨oc, od, .func (PySem.W.fnOf "can_flush" "can_flush" (defArgs s68) (defBody s68) (defScope s68) .none kV doc pm an cdv ct), osl⟩) (c : PySem.W.codeIn K cdv "can_flush" = true) (k : PySem.W.keepIn K (.ref a) = true) : FnHere K mg prK05 G 60 ("can_flush", 68, ["stand", "core"]) := by
  refine here_mk X Gm h1 l c k sc68 (fun _ _ _ _ _ _ us hl => match us, hl with | [_, _], _ => rfl) ?_ (by rw [bq68]; rfl)
  exact fun _ _ _ _ _ _ r hr e => no_kw (by decide +kernel) hr e
theorem sc69 : FnScope n69 ["book", "stand", "core"] (defScope s69) := ⟨rfl, rfl, rfl, by decide +kernel, rfl, by decide +kernel, by decide +kernel⟩
theorem here69 {K : PySem.W.Frag} {h : Heap} {mg : Str → Option Value} {a : Addr} {oc : Value} {od an : Option Addr} {osl : Array (Option Value)} {kV doc pm cdv ct : Value}
    (X : K.In h) (Gm : h.Ns mainGlobals mg) (h1 : PySem.W.nsIn K mainGlobals "after_do" = some (some (.ref a)))
    (l : List.lookup a K = some ⟨oc, od, .func (PySem.W.fnOf "after_do" "after_do" (defArgs s69) (defBody s69) (defScope s69) .none kV doc pm an cdv ct), osl⟩) (c : PySem.W.codeIn K cdv "after_do" = true) (k : PySem.W.keepIn K (.ref a) = true) : FnHere K mg prK05 G 60 ("after_do", 69, ["book", "stand", "core"]) := by
  refine here_mk X Gm h1 l c k sc69 (fun _ _ _ _ _ _ us hl => match us, hl with | [_, _, _], _ => rfl) ?_ (by rw [bq69]; rfl)
  exact fun _ _ _ _ _ _ r hr e => no_kw (by decide +kernel) hr e
theorem sc70 : FnScope n70 ["stand", "core"] (defScope s70) := ⟨rfl, rfl, rfl, by decide +kernel, rfl, by decide +kernel, by decide +kernel⟩
theorem here70 {K : PySem.W.Frag} {h : Heap} {mg : Str → Option Value} {a : Addr} {oc : Value} {od an : Option Addr} {osl : Array (Option Value)} {kV doc pm cdv ct : Value}
    (X : K.In h) (Gm : h.Ns mainGlobals mg) (h1 : PySem.W.nsIn K mainGlobals "after_flush" = some (some (.ref a)))
    (l : List.lookup a K = some ⟨oc, od, .func (PySem.W.fnOf "after_flush" "after_flush" (defArgs s70) (defBody s70) (defScope s70) .none kV doc pm an cdv ct), osl⟩) (c : PySem.W.codeIn K cdv "after_flush" = true) (k : PySem.W.keepIn K (.ref a) = true) : FnHere K mg prK05 G 60 ("after_flush", 70, ["stand", "core"]) := by
  refine here_mk X Gm h1 l c k sc70 (fun _ _ _ _ _ _ us hl => match us, hl with | [_, _], _ => rfl) ?_ (by rw [bq70]; rfl)
  exact fun _ _ _ _ _ _ r hr e => no_kw (by decide +kernel) hr e
theorem sc71 : FnScope n71 ["book", "stand"] (defScope s71) := ⟨rfl, rfl, rfl, by decide +kernel, rfl, by decide +kernel, by decide +kernel⟩
theorem here71 {K : PySem.W.Frag} {h : Heap} {mg : Str → Option Value} {a : Addr} {oc : Value} {od an : Option Addr} {osl : Array (Option Value)} {kV doc pm cdv ct : Value}
    (X : K.In h) (Gm : h.Ns mainGlobals mg) (h1 : PySem.W.nsIn K mainGlobals "let_steps" = some (some (.ref a)))
    (l : List.lookup a K = some ⟨oc, od, .func (PySem.W.fnOf "let_steps" "let_steps" (defArgs s71) (defBody s71) (defScope s71) .none kV doc pm an cdv ct), osl⟩) (c : PySem.W.codeIn K cdv "let_steps" = true) (k : PySem.W.keepIn K (.ref a) = true) : FnHere K mg prK05 G 60 ("let_steps", 71, ["book", "stand"]) := by
  refine here_mk X Gm h1 l c k sc71 (fun _ _ _ _ _ _ us hl => match us, hl with | [_, _], _ => rfl) ?_ (by rw [bq71]; rfl)
  exact fun _ _ _ _ _ _ r hr e => no_kw (by decide +kernel) hr e
theorem sc885 : FnScope n885 ["book", "stand", "step"] (defScope s885) := ⟨rfl, rfl, rfl, by decide +kernel, rfl, by decide +kernel, by decide +kernel⟩
theorem here885 {K : PySem.W.Frag} {h : Heap} {mg : Str → Option Value} {a : Addr} {oc : Value} {od an : Option Addr} {osl : Array (Option Value)} {kV doc pm cdv ct : Value}
    (X : K.In h) (Gm : h.Ns mainGlobals mg) (h1 : PySem.W.nsIn K mainGlobals "is_plain_let" = some (some (.ref a)))
    (l : List.lookup a K = some ⟨oc, od, .func (PySem.W.fnOf "is_plain_let" "is_plain_let" (defArgs s885) (defBody s885) (defScope s885) .none kV doc pm an cdv ct), osl⟩) (c : PySem.W.codeIn K cdv "is_plain_let" = true) (k : PySem.W.keepIn K (.ref a) = true) : FnHere K mg prK05 G 60 ("is_plain_let", 885, ["book", "stand", "step"]) := by
  refine here_mk X Gm h1 l c k sc885 (fun _ _ _ _ _ _ us hl => match us, hl with | [_, _, _], _ => rfl) ?_ (by rw [bq885]; rfl)
  exact fun _ _ _ _ _ _ r hr e => no_kw (by decide +kernel) hr e
theorem sc73 : FnScope n73 ["book", "stand", "step"] (defScope s73) := ⟨rfl, rfl, rfl, by decide +kernel, rfl, by decide +kernel, by decide +kernel⟩
theorem here73 {K : PySem.W.Frag} {h : Heap} {mg : Str → Option Value} {a : Addr} {oc : Value} {od an : Option Addr} {osl : Array (Option Value)} {kV doc pm cdv ct : Value}
    (X : K.In h) (Gm : h.Ns mainGlobals mg) (h1 : PySem.W.nsIn K mainGlobals "after_step" = some (some (.ref a)))
    (l : List.lookup a K = some ⟨oc, od, .func (PySem.W.fnOf "after_step" "after_step" (defArgs s73) (defBody s73) (defScope s73) .none kV doc pm an cdv ct), osl⟩) (c : PySem.W.codeIn K cdv "after_step" = true) (k : PySem.W.keepIn K (.ref a) = true) : FnHere K mg prK05 G 60 ("after_step", 73, ["book", "stand", "step"]) := by
  refine here_mk X Gm h1 l c k sc73 (fun _ _ _ _ _ _ us hl => match us, hl with | [_, _, _], _ => rfl) ?_ (by rw [bq73]; rfl)
  exact fun _ _ _ _ _ _ r hr e => no_kw (by decide +kernel) hr e
theorem sc886 : FnScope n886 ["given", "stand", "steps", "is_let", "after"] (defScope s886) := ⟨rfl, rfl, rfl, by decide +kernel, rfl, by decide +kernel, by decide +kernel⟩
theorem here886 {K : PySem.W.Frag} {h : Heap} {mg : Str → Option Value} {a : Addr} {oc : Value} {od an : Option Addr} {osl : Array (Option Value)} {kV doc pm cdv ct : Value}
    (X : K.In h) (Gm : h.Ns mainGlobals mg) (h1 : PySem.W.nsIn K mainGlobals "stand_by_let" = some (some (.ref a)))
    (l : List.lookup a K = some ⟨oc, od, .func (PySem.W.fnOf "stand_by_let" "stand_by_let" (defArgs s886) (defBody s886) (defScope s886) .none kV doc pm an cdv ct), osl⟩) (c : PySem.W.codeIn K cdv "stand_by_let" = true) (k : PySem.W.keepIn K (.ref a) = true) : FnHere K mg prK05 G 60 ("stand_by_let", 886, ["given", "stand", "steps", "is_let", "after"]) := by
  refine here_mk X Gm h1 l c k sc886 (fun _ _ _ _ _ _ us hl => match us, hl with | [_, _, _, _, _], _ => rfl) ?_ (by rw [bq886]; rfl)
  exact fun _ _ _ _ _ _ r hr e => no_kw (by decide +kernel) hr e
theorem sc74 : FnScope n74 ["book", "memory"] (defScope s74) := ⟨rfl, rfl, rfl, by decide +kernel, rfl, by decide +kernel, by decide +kernel⟩
theorem here74 {K : PySem.W.Frag} {h : Heap} {mg : Str → Option Value} {a : Addr} {oc : Value} {od an : Option Addr} {osl : Array (Option Value)} {kV doc pm cdv ct : Value}
    (X : K.In h) (Gm : h.Ns mainGlobals mg) (h1 : PySem.W.nsIn K mainGlobals "plain_first" = some (some (.ref a)))
    (l : List.lookup a K = some ⟨oc, od, .func (PySem.W.fnOf "plain_first" "plain_first" (defArgs s74) (defBody s74) (defScope s74) .none kV doc pm an cdv ct), osl⟩) (c : PySem.W.codeIn K cdv "plain_first" = true) (k : PySem.W.keepIn K (.ref a) = true) : FnHere K mg prK05 G 60 ("plain_first", 74, ["book", "memory"]) := by
  refine here_mk X Gm h1 l c k sc74 (fun _ _ _ _ _ _ us hl => match us, hl with | [_, _], _ => rfl) ?_ (by rw [bq74]; rfl)
  exact by
    intro _ _ _ _ _ _ r hr e us ws h1 h2
    simp only [G, List.mem_cons, List.not_mem_nil, or_false] at hr
    rcases hr with rfl | rfl | rfl | rfl | rfl
    · exact absurd e (by decide +kernel)
    · exact absurd e (by decide +kernel)
    · exact absurd e (by decide +kernel)
    · match us, ws, h1, h2 with | [], [_, _], _, _ => rfl
    · exact absurd e (by decide +kernel)

theorem sc75 : FnScope n75 ["book", "stand"] (defScope s75) := ⟨rfl, rfl, rfl, by decide +kernel, rfl, by decide +kernel, by decide +kernel⟩
theorem here75 {K : PySem.W.Frag} {h : Heap} {mg : Str → Option Value} {a : Addr} {oc : Value} {od an : Option Addr} {osl : Array (Option Value)} {kV doc pm cdv ct : Value}
    (X : K.In h) (Gm : h.Ns mainGlobals mg) (h1 : PySem.W.nsIn K mainGlobals "plain_steps" = some (some (.ref a)))
    (l : List.lookup a K = some ⟨oc, od, .func (PySem.W.fnOf "plain_steps" "plain_steps" (defArgs s75) (defBody s75) (defScope s75) .none kV doc pm an cdv ct), osl⟩) (c : PySem.W.codeIn K cdv "plain_steps" = true) (k : PySem.W.keepIn K (.ref a) = true) : FnHere K mg prK05 G 60 ("plain_steps", 75, ["book", "stand"]) := by
  refine here_mk X Gm h1 l c k sc75 (fun _ _ _ _ _ _ us hl => match us, hl with | [_, _], _ => rfl) ?_ (by rw [bq75]; rfl)
  exact by
    intro _ _ _ _ _ _ r hr e us ws h1 h2
    simp only [G, List.mem_cons, List.not_mem_nil, or_false] at hr
    rcases hr with rfl | rfl | rfl | rfl | rfl
    · match us, ws, h1, h2 with | [], [_, _], _, _ => rfl
    · exact absurd e (by decide +kernel)
    · exact absurd e (by decide +kernel)
    · exact absurd e (by decide +kernel)
    · exact absurd e (by decide +kernel)

theorem sc887 : FnScope n887 ["book", "stand", "step"] (defScope s887) := ⟨rfl, rfl, rfl, by decide +kernel, rfl, by decide +kernel, by decide +kernel⟩
theorem here887 {K : PySem.W.Frag} {h : Heap} {mg : Str → Option Value} {a : Addr} {oc : Value} {od an : Option Addr} {osl : Array (Option Value)} {kV doc pm cdv ct : Value}
    (X : K.In h) (Gm : h.Ns mainGlobals mg) (h1 : PySem.W.nsIn K mainGlobals "plain_after" = some (some (.ref a)))
    (l : List.lookup a K = some ⟨oc, od, .func (PySem.W.fnOf "plain_after" "plain_after" (defArgs s887) (defBody s887) (defScope s887) .none kV doc pm an cdv ct), osl⟩) (c : PySem.W.codeIn K cdv "plain_after" = true) (k : PySem.W.keepIn K (.ref a) = true) : FnHere K mg prK05 G 60 ("plain_after", 887, ["book", "stand", "step"]) := by
  refine here_mk X Gm h1 l c k sc887 (fun _ _ _ _ _ _ us hl => match us, hl with | [_, _, _], _ => rfl) ?_ (by rw [bq887]; rfl)
  exact by
    intro _ _ _ _ _ _ r hr e us ws h1 h2
    simp only [G, List.mem_cons, List.not_mem_nil, or_false] at hr
    rcases hr with rfl | rfl | rfl | rfl | rfl
    · exact absurd e (by decide +kernel)
    · exact absurd e (by decide +kernel)
    · exact absurd e (by decide +kernel)
    · exact absurd e (by decide +kernel)
    · match us, ws, h1, h2 with | [], [_, _, _], _, _ => rfl

theorem sc77 : FnScope n77 ["book", "stand", "core"] (defScope s77) := ⟨rfl, rfl, rfl, by decide +kernel, rfl, by decide +kernel, by decide +kernel⟩
theorem here77 {K : PySem.W.Frag} {h : Heap} {mg : Str → Option Value} {a : Addr} {oc : Value} {od an : Option Addr} {osl : Array (Option Value)} {kV doc pm cdv ct : Value}
    (X : K.In h) (Gm : h.Ns mainGlobals mg) (h1 : PySem.W.nsIn K mainGlobals "has_stopped" = some (some (.ref a)))
    (l : List.lookup a K = some ⟨oc, od, .func (PySem.W.fnOf "has_stopped" "has_stopped" (defArgs s77) (defBody s77) (defScope s77) .none kV doc pm an cdv ct), osl⟩) (c : PySem.W.codeIn K cdv "has_stopped" = true) (k : PySem.W.keepIn K (.ref a) = true) : FnHere K mg prK05 G 60 ("has_stopped", 77, ["book", "stand", "core"]) := by
  refine here_mk X Gm h1 l c k sc77 (fun _ _ _ _ _ _ us hl => match us, hl with | [_, _, _], _ => rfl) ?_ (by rw [bq77]; rfl)
  exact by
    intro _ _ _ _ _ _ r hr e us ws h1 h2
    simp only [G, List.mem_cons, List.not_mem_nil, or_false] at hr
    rcases hr with rfl | rfl | rfl | rfl | rfl
    · exact absurd e (by decide +kernel)
    · match us, ws, h1, h2 with | [], [_, _, _], _, _ => rfl
    · exact absurd e (by decide +kernel)
    · exact absurd e (by decide +kernel)
    · exact absurd e (by decide +kernel)

theorem sc78 : FnScope n78 ["book", "stand"] (defScope s78) := ⟨rfl, rfl, rfl, by decide +kernel, rfl, by decide +kernel, by decide +kernel⟩
theorem here78 {K : PySem.W.Frag} {h : Heap} {mg : Str → Option Value} {a : Addr} {oc : Value} {od an : Option Addr} {osl : Array (Option Value)} {kV doc pm cdv ct : Value}
    (X : K.In h) (Gm : h.Ns mainGlobals mg) (h1 : PySem.W.nsIn K mainGlobals "has_ended" = some (some (.ref a)))
    (l : List.lookup a K = some ⟨oc, od, .func (PySem.W.fnOf "has_ended" "has_ended" (defArgs s78) (defBody s78) (defScope s78) .none kV doc pm an cdv ct), osl⟩) (c : PySem.W.codeIn K cdv "has_ended" = true) (k : PySem.W.keepIn K (.ref a) = true) : FnHere K mg prK05 G 60 ("has_ended", 78, ["book", "stand"]) := by
  refine here_mk X Gm h1 l c k sc78 (fun _ _ _ _ _ _ us hl => match us, hl with | [_, _], _ => rfl) ?_ (by rw [bq78]; rfl)
  exact by
    intro _ _ _ _ _ _ r hr e us ws h1 h2
    simp only [G, List.mem_cons, List.not_mem_nil, or_false] at hr
    rcases hr with rfl | rfl | rfl | rfl | rfl
    · exact absurd e (by decide +kernel)
    · exact absurd e (by decide +kernel)
    · match us, ws, h1, h2 with | [], [_, _], _, _ => rfl
    · exact absurd e (by decide +kernel)
    · exact absurd e (by decide +kernel)

theorem sc4 : FnScope n4 ["script", "k"] (defScope s4) := ⟨rfl, rfl, rfl, by decide +kernel, rfl, by decide +kernel, by decide +kernel⟩
theorem here4 {K : PySem.W.Frag} {h : Heap} {mg : Str → Option Value} {a : Addr} {oc : Value} {od an : Option Addr} {osl : Array (Option Value)} {kV doc pm cdv ct : Value}
    (X : K.In h) (Gm : h.Ns mainGlobals mg) (h1 : PySem.W.nsIn K mainGlobals "_law_spring" = some (some (.ref a)))
    (l : List.lookup a K = some ⟨oc, od, .func (PySem.W.fnOf "_law_spring" "_law_spring" (defArgs s4) (defBody s4) (defScope s4) .none kV doc pm an cdv ct), osl⟩) (c : PySem.W.codeIn K cdv "_law_spring" = true) (k : PySem.W.keepIn K (.ref a) = true) : FnHere K mg prK05 G 60 ("_law_spring", 4, ["script", "k"]) := by
  refine here_mk X Gm h1 l c k sc4 (fun _ _ _ _ _ _ us hl => match us, hl with | [_, _], _ => rfl) ?_ (by rw [bq4]; rfl)
  exact fun _ _ _ _ _ _ r hr e => no_kw (by decide +kernel) hr e
theorem sc5 : FnScope n5 ["spring", "many"] (defScope s5) := ⟨rfl, rfl, rfl, by decide +kernel, rfl, by decide +kernel, by decide +kernel⟩
theorem here5 {K : PySem.W.Frag} {h : Heap} {mg : Str → Option Value} {a : Addr} {oc : Value} {od an : Option Addr} {osl : Array (Option Value)} {kV doc pm cdv ct : Value}
    (X : K.In h) (Gm : h.Ns mainGlobals mg) (h1 : PySem.W.nsIn K mainGlobals "_law_pick" = some (some (.ref a)))
    (l : List.lookup a K = some ⟨oc, od, .func (PySem.W.fnOf "_law_pick" "_law_pick" (defArgs s5) (defBody s5) (defScope s5) .none kV doc pm an cdv ct), osl⟩) (c : PySem.W.codeIn K cdv "_law_pick" = true) (k : PySem.W.keepIn K (.ref a) = true) : FnHere K mg prK05 G 60 ("_law_pick", 5, ["spring", "many"]) := by
  refine here_mk X Gm h1 l c k sc5 (fun _ _ _ _ _ _ us hl => match us, hl with | [_, _], _ => rfl) ?_ (by rw [bq5]; rfl)
  exact fun _ _ _ _ _ _ r hr e => no_kw (by decide +kernel) hr e
theorem sc6 : FnScope n6 ["spring"] (defScope s6) := ⟨rfl, rfl, rfl, by decide +kernel, rfl, by decide +kernel, by decide +kernel⟩
theorem here6 {K : PySem.W.Frag} {h : Heap} {mg : Str → Option Value} {a : Addr} {oc : Value} {od an : Option Addr} {osl : Array (Option Value)} {kV doc pm cdv ct : Value}
    (X : K.In h) (Gm : h.Ns mainGlobals mg) (h1 : PySem.W.nsIn K mainGlobals "_law_word" = some (some (.ref a)))
    (l : List.lookup a K = some ⟨oc, od, .func (PySem.W.fnOf "_law_word" "_law_word" (defArgs s6) (defBody s6) (defScope s6) .none kV doc pm an cdv ct), osl⟩) (c : PySem.W.codeIn K cdv "_law_word" = true) (k : PySem.W.keepIn K (.ref a) = true) : FnHere K mg prK05 G 60 ("_law_word", 6, ["spring"]) := by
  refine here_mk X Gm h1 l c k sc6 (fun _ _ _ _ _ _ us hl => match us, hl with | [_], _ => rfl) ?_ (by rw [bq6]; rfl)
  exact fun _ _ _ _ _ _ r hr e => no_kw (by decide +kernel) hr e
theorem sc7 : FnScope n7 ["spring", "name", "few", "most"] (defScope s7) := ⟨rfl, rfl, rfl, by decide +kernel, rfl, by decide +kernel, by decide +kernel⟩
theorem here7 {K : PySem.W.Frag} {h : Heap} {mg : Str → Option Value} {a : Addr} {oc : Value} {od an : Option Addr} {osl : Array (Option Value)} {kV doc pm cdv ct : Value}
    (X : K.In h) (Gm : h.Ns mainGlobals mg) (h1 : PySem.W.nsIn K mainGlobals "_law_instruction" = some (some (.ref a)))
    (l : List.lookup a K = some ⟨oc, od, .func (PySem.W.fnOf "_law_instruction" "_law_instruction" (defArgs s7) (defBody s7) (defScope s7) .none kV doc pm an cdv ct), osl⟩) (c : PySem.W.codeIn K cdv "_law_instruction" = true) (k : PySem.W.keepIn K (.ref a) = true) : FnHere K mg prK05 G 60 ("_law_instruction", 7, ["spring", "name", "few", "most"]) := by
  refine here_mk X Gm h1 l c k sc7 (fun _ _ _ _ _ _ us hl => match us, hl with | [_, _, _, _], _ => rfl) ?_ (by rw [bq7]; rfl)
  exact fun _ _ _ _ _ _ r hr e => no_kw (by decide +kernel) hr e
theorem sc79 : FnScope n79 ["spring", "size", "few"] (defScope s79) := ⟨rfl, rfl, rfl, by decide +kernel, rfl, by decide +kernel, by decide +kernel⟩
theorem here79 {K : PySem.W.Frag} {h : Heap} {mg : Str → Option Value} {a : Addr} {oc : Value} {od an : Option Addr} {osl : Array (Option Value)} {kV doc pm cdv ct : Value}
    (X : K.In h) (Gm : h.Ns mainGlobals mg) (h1 : PySem.W.nsIn K mainGlobals "_law_rows" = some (some (.ref a)))
    (l : List.lookup a K = some ⟨oc, od, .func (PySem.W.fnOf "_law_rows" "_law_rows" (defArgs s79) (defBody s79) (defScope s79) .none kV doc pm an cdv ct), osl⟩) (c : PySem.W.codeIn K cdv "_law_rows" = true) (k : PySem.W.keepIn K (.ref a) = true) : FnHere K mg prK05 G 60 ("_law_rows", 79, ["spring", "size", "few"]) := by
  refine here_mk X Gm h1 l c k sc79 (fun _ _ _ _ _ _ us hl => match us, hl with | [_, _, _], _ => rfl) ?_ (by rw [bq79]; rfl)
  exact fun _ _ _ _ _ _ r hr e => no_kw (by decide +kernel) hr e
theorem sc80 : FnScope n80 ["spring", "most", "great"] (defScope s80) := ⟨rfl, rfl, rfl, by decide +kernel, rfl, by decide +kernel, by decide +kernel⟩
theorem here80 {K : PySem.W.Frag} {h : Heap} {mg : Str → Option Value} {a : Addr} {oc : Value} {od an : Option Addr} {osl : Array (Option Value)} {kV doc pm cdv ct : Value}
    (X : K.In h) (Gm : h.Ns mainGlobals mg) (h1 : PySem.W.nsIn K mainGlobals "_law_book" = some (some (.ref a)))
    (l : List.lookup a K = some ⟨oc, od, .func (PySem.W.fnOf "_law_book" "_law_book" (defArgs s80) (defBody s80) (defScope s80) .none kV doc pm an cdv ct), osl⟩) (c : PySem.W.codeIn K cdv "_law_book" = true) (k : PySem.W.keepIn K (.ref a) = true) : FnHere K mg prK05 G 60 ("_law_book", 80, ["spring", "most", "great"]) := by
  refine here_mk X Gm h1 l c k sc80 (fun _ _ _ _ _ _ us hl => match us, hl with | [_, _, _], _ => rfl) ?_ (by rw [bq80]; rfl)
  exact fun _ _ _ _ _ _ r hr e => no_kw (by decide +kernel) hr e
theorem sc81 : FnScope n81 ["spring"] (defScope s81) := ⟨rfl, rfl, rfl, by decide +kernel, rfl, by decide +kernel, by decide +kernel⟩
theorem here81 {K : PySem.W.Frag} {h : Heap} {mg : Str → Option Value} {a : Addr} {oc : Value} {od an : Option Addr} {osl : Array (Option Value)} {kV doc pm cdv ct : Value}
    (X : K.In h) (Gm : h.Ns mainGlobals mg) (h1 : PySem.W.nsIn K mainGlobals "_law_memory" = some (some (.ref a)))
    (l : List.lookup a K = some ⟨oc, od, .func (PySem.W.fnOf "_law_memory" "_law_memory" (defArgs s81) (defBody s81) (defScope s81) .none kV doc pm an cdv ct), osl⟩) (c : PySem.W.codeIn K cdv "_law_memory" = true) (k : PySem.W.keepIn K (.ref a) = true) : FnHere K mg prK05 G 60 ("_law_memory", 81, ["spring"]) := by
  refine here_mk X Gm h1 l c k sc81 (fun _ _ _ _ _ _ us hl => match us, hl with | [_], _ => rfl) ?_ (by rw [bq81]; rfl)
  exact fun _ _ _ _ _ _ r hr e => no_kw (by decide +kernel) hr e
theorem sc82 : FnScope n82 ["book", "memory"] (defScope s82) := ⟨rfl, rfl, rfl, by decide +kernel, rfl, by decide +kernel, by decide +kernel⟩
theorem here82 {K : PySem.W.Frag} {h : Heap} {mg : Str → Option Value} {a : Addr} {oc : Value} {od an : Option Addr} {osl : Array (Option Value)} {kV doc pm cdv ct : Value}
    (X : K.In h) (Gm : h.Ns mainGlobals mg) (h1 : PySem.W.nsIn K mainGlobals "_law_begun" = some (some (.ref a)))
    (l : List.lookup a K = some ⟨oc, od, .func (PySem.W.fnOf "_law_begun" "_law_begun" (defArgs s82) (defBody s82) (defScope s82) .none kV doc pm an cdv ct), osl⟩) (c : PySem.W.codeIn K cdv "_law_begun" = true) (k : PySem.W.keepIn K (.ref a) = true) : FnHere K mg prK05 G 60 ("_law_begun", 82, ["book", "memory"]) := by
  refine here_mk X Gm h1 l c k sc82 (fun _ _ _ _ _ _ us hl => match us, hl with | [_, _], _ => rfl) ?_ (by rw [bq82]; rfl)
  exact fun _ _ _ _ _ _ r hr e => no_kw (by decide +kernel) hr e
theorem sc83 : FnScope n83 ["book", "stand", "core"] (defScope s83) := ⟨rfl, rfl, rfl, by decide +kernel, rfl, by decide +kernel, by decide +kernel⟩
theorem here83 {K : PySem.W.Frag} {h : Heap} {mg : Str → Option Value} {a : Addr} {oc : Value} {od an : Option Addr} {osl : Array (Option Value)} {kV doc pm cdv ct : Value}
    (X : K.In h) (Gm : h.Ns mainGlobals mg) (h1 : PySem.W.nsIn K mainGlobals "_law_at" = some (some (.ref a)))
    (l : List.lookup a K = some ⟨oc, od, .func (PySem.W.fnOf "_law_at" "_law_at" (defArgs s83) (defBody s83) (defScope s83) .none kV doc pm an cdv ct), osl⟩) (c : PySem.W.codeIn K cdv "_law_at" = true) (k : PySem.W.keepIn K (.ref a) = true) : FnHere K mg prK05 G 60 ("_law_at", 83, ["book", "stand", "core"]) := by
  refine here_mk X Gm h1 l c k sc83 (fun _ _ _ _ _ _ us hl => match us, hl with | [_, _, _], _ => rfl) ?_ (by rw [bq83]; rfl)
  exact fun _ _ _ _ _ _ r hr e => no_kw (by decide +kernel) hr e
theorem sc84 : FnScope n84 ["book", "stand"] (defScope s84) := ⟨rfl, rfl, rfl, by decide +kernel, rfl, by decide +kernel, by decide +kernel⟩
theorem here84 {K : PySem.W.Frag} {h : Heap} {mg : Str → Option Value} {a : Addr} {oc : Value} {od an : Option Addr} {osl : Array (Option Value)} {kV doc pm cdv ct : Value}
    (X : K.In h) (Gm : h.Ns mainGlobals mg) (h1 : PySem.W.nsIn K mainGlobals "_law_lets" = some (some (.ref a)))
    (l : List.lookup a K = some ⟨oc, od, .func (PySem.W.fnOf "_law_lets" "_law_lets" (defArgs s84) (defBody s84) (defScope s84) .none kV doc pm an cdv ct), osl⟩) (c : PySem.W.codeIn K cdv "_law_lets" = true) (k : PySem.W.keepIn K (.ref a) = true) : FnHere K mg prK05 G 60 ("_law_lets", 84, ["book", "stand"]) := by
  refine here_mk X Gm h1 l c k sc84 (fun _ _ _ _ _ _ us hl => match us, hl with | [_, _], _ => rfl) ?_ (by rw [bq84]; rfl)
  exact fun _ _ _ _ _ _ r hr e => no_kw (by decide +kernel) hr e
theorem sc85 : FnScope n85 ["one", "words"] (defScope s85) := ⟨rfl, rfl, rfl, by decide +kernel, rfl, by decide +kernel, by decide +kernel⟩
theorem here85 {K : PySem.W.Frag} {h : Heap} {mg : Str → Option Value} {a : Addr} {oc : Value} {od an : Option Addr} {osl : Array (Option Value)} {kV doc pm cdv ct : Value}
    (X : K.In h) (Gm : h.Ns mainGlobals mg) (h1 : PySem.W.nsIn K mainGlobals "_law_sum" = some (some (.ref a)))
    (l : List.lookup a K = some ⟨oc, od, .func (PySem.W.fnOf "_law_sum" "_law_sum" (defArgs s85) (defBody s85) (defScope s85) .none kV doc pm an cdv ct), osl⟩) (c : PySem.W.codeIn K cdv "_law_sum" = true) (k : PySem.W.keepIn K (.ref a) = true) : FnHere K mg prK05 G 60 ("_law_sum", 85, ["one", "words"]) := by
  refine here_mk X Gm h1 l c k sc85 (fun _ _ _ _ _ _ us hl => match us, hl with | [_, _], _ => rfl) ?_ (by rw [bq85]; rfl)
  exact fun _ _ _ _ _ _ r hr e => no_kw (by decide +kernel) hr e
theorem sc86 : FnScope n86 ["book", "stand", "at"] (defScope s86) := ⟨rfl, rfl, rfl, by decide +kernel, rfl, by decide +kernel, by decide +kernel⟩
theorem here86 {K : PySem.W.Frag} {h : Heap} {mg : Str → Option Value} {a : Addr} {oc : Value} {od an : Option Addr} {osl : Array (Option Value)} {kV doc pm cdv ct : Value}
    (X : K.In h) (Gm : h.Ns mainGlobals mg) (h1 : PySem.W.nsIn K mainGlobals "_law_do" = some (some (.ref a)))
    (l : List.lookup a K = some ⟨oc, od, .func (PySem.W.fnOf "_law_do" "_law_do" (defArgs s86) (defBody s86) (defScope s86) .none kV doc pm an cdv ct), osl⟩) (c : PySem.W.codeIn K cdv "_law_do" = true) (k : PySem.W.keepIn K (.ref a) = true) : FnHere K mg prK05 G 60 ("_law_do", 86, ["book", "stand", "at"]) := by
  refine here_mk X Gm h1 l c k sc86 (fun _ _ _ _ _ _ us hl => match us, hl with | [_, _, _], _ => rfl) ?_ (by rw [bq86]; rfl)
  exact fun _ _ _ _ _ _ r hr e => no_kw (by decide +kernel) hr e
theorem sc87 : FnScope n87 ["stand", "at"] (defScope s87) := ⟨rfl, rfl, rfl, by decide +kernel, rfl, by decide +kernel, by decide +kernel⟩
theorem here87 {K : PySem.W.Frag} {h : Heap} {mg : Str → Option Value} {a : Addr} {oc : Value} {od an : Option Addr} {osl : Array (Option Value)} {kV doc pm cdv ct : Value}
    (X : K.In h) (Gm : h.Ns mainGlobals mg) (h1 : PySem.W.nsIn K mainGlobals "_law_flush" = some (some (.ref a)))
    (l : List.lookup a K = some ⟨oc, od, .func (PySem.W.fnOf "_law_flush" "_law_flush" (defArgs s87) (defBody s87) (defScope s87) .none kV doc pm an cdv ct), osl⟩) (c : PySem.W.codeIn K cdv "_law_flush" = true) (k : PySem.W.keepIn K (.ref a) = true) : FnHere K mg prK05 G 60 ("_law_flush", 87, ["stand", "at"]) := by
  refine here_mk X Gm h1 l c k sc87 (fun _ _ _ _ _ _ us hl => match us, hl with | [_, _], _ => rfl) ?_ (by rw [bq87]; rfl)
  exact fun _ _ _ _ _ _ r hr e => no_kw (by decide +kernel) hr e
theorem sc88 : FnScope n88 ["book", "stand", "step"] (defScope s88) := ⟨rfl, rfl, rfl, by decide +kernel, rfl, by decide +kernel, by decide +kernel⟩
theorem here88 {K : PySem.W.Frag} {h : Heap} {mg : Str → Option Value} {a : Addr} {oc : Value} {od an : Option Addr} {osl : Array (Option Value)} {kV doc pm cdv ct : Value}
    (X : K.In h) (Gm : h.Ns mainGlobals mg) (h1 : PySem.W.nsIn K mainGlobals "_law_step" = some (some (.ref a)))
    (l : List.lookup a K = some ⟨oc, od, .func (PySem.W.fnOf "_law_step" "_law_step" (defArgs s88) (defBody s88) (defScope s88) .none kV doc pm an cdv ct), osl⟩) (c : PySem.W.codeIn K cdv "_law_step" = true) (k : PySem.W.keepIn K (.ref a) = true) : FnHere K mg prK05 G 60 ("_law_step", 88, ["book", "stand", "step"]) := by
  refine here_mk X Gm h1 l c k sc88 (fun _ _ _ _ _ _ us hl => match us, hl with | [_, _, _], _ => rfl) ?_ (by rw [bq88]; rfl)
  exact fun _ _ _ _ _ _ r hr e => no_kw (by decide +kernel) hr e
theorem sc89 : FnScope n89 ["stand"] (defScope s89) := ⟨rfl, rfl, rfl, by decide +kernel, rfl, by decide +kernel, by decide +kernel⟩
theorem here89 {K : PySem.W.Frag} {h : Heap} {mg : Str → Option Value} {a : Addr} {oc : Value} {od an : Option Addr} {osl : Array (Option Value)} {kV doc pm cdv ct : Value}
    (X : K.In h) (Gm : h.Ns mainGlobals mg) (h1 : PySem.W.nsIn K mainGlobals "_law_told" = some (some (.ref a)))
    (l : List.lookup a K = some ⟨oc, od, .func (PySem.W.fnOf "_law_told" "_law_told" (defArgs s89) (defBody s89) (defScope s89) .none kV doc pm an cdv ct), osl⟩) (c : PySem.W.codeIn K cdv "_law_told" = true) (k : PySem.W.keepIn K (.ref a) = true) : FnHere K mg prK05 G 60 ("_law_told", 89, ["stand"]) := by
  refine here_mk X Gm h1 l c k sc89 (fun _ _ _ _ _ _ us hl => match us, hl with | [_], _ => rfl) ?_ (by rw [bq89]; rfl)
  exact fun _ _ _ _ _ _ r hr e => no_kw (by decide +kernel) hr e
theorem sc12 : FnScope n12 ["found", "due"] (defScope s12) := ⟨rfl, rfl, rfl, by decide +kernel, rfl, by decide +kernel, by decide +kernel⟩
theorem here12 {K : PySem.W.Frag} {h : Heap} {mg : Str → Option Value} {a : Addr} {oc : Value} {od an : Option Addr} {osl : Array (Option Value)} {kV doc pm cdv ct : Value}
    (X : K.In h) (Gm : h.Ns mainGlobals mg) (h1 : PySem.W.nsIn K mainGlobals "_law_like" = some (some (.ref a)))
    (l : List.lookup a K = some ⟨oc, od, .func (PySem.W.fnOf "_law_like" "_law_like" (defArgs s12) (defBody s12) (defScope s12) .none kV doc pm an cdv ct), osl⟩) (c : PySem.W.codeIn K cdv "_law_like" = true) (k : PySem.W.keepIn K (.ref a) = true) : FnHere K mg prK05 G 60 ("_law_like", 12, ["found", "due"]) := by
  refine here_mk X Gm h1 l c k sc12 (fun _ _ _ _ _ _ us hl => match us, hl with | [_, _], _ => rfl) ?_ (by rw [bq12]; rfl)
  exact fun _ _ _ _ _ _ r hr e => no_kw (by decide +kernel) hr e
theorem sc30 : FnScope n30 ["found", "due"] (defScope s30) := ⟨rfl, rfl, rfl, by decide +kernel, rfl, by decide +kernel, by decide +kernel⟩
theorem here30 {K : PySem.W.Frag} {h : Heap} {mg : Str → Option Value} {a : Addr} {oc : Value} {od an : Option Addr} {osl : Array (Option Value)} {kV doc pm cdv ct : Value}
    (X : K.In h) (Gm : h.Ns mainGlobals mg) (h1 : PySem.W.nsIn K mainGlobals "_law_tells" = some (some (.ref a)))
    (l : List.lookup a K = some ⟨oc, od, .func (PySem.W.fnOf "_law_tells" "_law_tells" (defArgs s30) (defBody s30) (defScope s30) .none kV doc pm an cdv ct), osl⟩) (c : PySem.W.codeIn K cdv "_law_tells" = true) (k : PySem.W.keepIn K (.ref a) = true) : FnHere K mg prK05 G 60 ("_law_tells", 30, ["found", "due"]) := by
  refine here_mk X Gm h1 l c k sc30 (fun _ _ _ _ _ _ us hl => match us, hl with | [_, _], _ => rfl) ?_ (by rw [bq30]; rfl)
  exact fun _ _ _ _ _ _ r hr e => no_kw (by decide +kernel) hr e
theorem sc90 : FnScope n90 ["spring", "book", "stand", "own"] (defScope s90) := ⟨rfl, rfl, rfl, by decide +kernel, rfl, by decide +kernel, by decide +kernel⟩
theorem here90 {K : PySem.W.Frag} {h : Heap} {mg : Str → Option Value} {a : Addr} {oc : Value} {od an : Option Addr} {osl : Array (Option Value)} {kV doc pm cdv ct : Value}
    (X : K.In h) (Gm : h.Ns mainGlobals mg) (h1 : PySem.W.nsIn K mainGlobals "_law_looked" = some (some (.ref a)))
    (l : List.lookup a K = some ⟨oc, od, .func (PySem.W.fnOf "_law_looked" "_law_looked" (defArgs s90) (defBody s90) (defScope s90) .none kV doc pm an cdv ct), osl⟩) (c : PySem.W.codeIn K cdv "_law_looked" = true) (k : PySem.W.keepIn K (.ref a) = true) : FnHere K mg prK05 G 60 ("_law_looked", 90, ["spring", "book", "stand", "own"]) := by
  refine here_mk X Gm h1 l c k sc90 (fun _ _ _ _ _ _ us hl => match us, hl with | [_, _, _, _], _ => rfl) ?_ (by rw [bq90]; rfl)
  exact fun _ _ _ _ _ _ r hr e => no_kw (by decide +kernel) hr e
theorem sc91 : FnScope n91 ["spring", "lets", "late"] (defScope s91) := ⟨rfl, rfl, rfl, by decide +kernel, rfl, by decide +kernel, by decide +kernel⟩
theorem here91 {K : PySem.W.Frag} {h : Heap} {mg : Str → Option Value} {a : Addr} {oc : Value} {od an : Option Addr} {osl : Array (Option Value)} {kV doc pm cdv ct : Value}
    (X : K.In h) (Gm : h.Ns mainGlobals mg) (h1 : PySem.W.nsIn K mainGlobals "_law_chosen" = some (some (.ref a)))
    (l : List.lookup a K = some ⟨oc, od, .func (PySem.W.fnOf "_law_chosen" "_law_chosen" (defArgs s91) (defBody s91) (defScope s91) .none kV doc pm an cdv ct), osl⟩) (c : PySem.W.codeIn K cdv "_law_chosen" = true) (k : PySem.W.keepIn K (.ref a) = true) : FnHere K mg prK05 G 60 ("_law_chosen", 91, ["spring", "lets", "late"]) := by
  refine here_mk X Gm h1 l c k sc91 (fun _ _ _ _ _ _ us hl => match us, hl with | [_, _, _], _ => rfl) ?_ (by rw [bq91]; rfl)
  exact fun _ _ _ _ _ _ r hr e => no_kw (by decide +kernel) hr e
theorem sc92 : FnScope n92 ["spring", "most", "great"] (defScope s92) := ⟨rfl, rfl, rfl, by decide +kernel, rfl, by decide +kernel, by decide +kernel⟩
theorem here92 {K : PySem.W.Frag} {h : Heap} {mg : Str → Option Value} {a : Addr} {oc : Value} {od an : Option Addr} {osl : Array (Option Value)} {kV doc pm cdv ct : Value}
    (X : K.In h) (Gm : h.Ns mainGlobals mg) (h1 : PySem.W.nsIn K mainGlobals "_law_machine" = some (some (.ref a)))
    (l : List.lookup a K = some ⟨oc, od, .func (PySem.W.fnOf "_law_machine" "_law_machine" (defArgs s92) (defBody s92) (defScope s92) .none kV doc pm an cdv ct), osl⟩) (c : PySem.W.codeIn K cdv "_law_machine" = true) (k : PySem.W.keepIn K (.ref a) = true) : FnHere K mg prK05 G 60 ("_law_machine", 92, ["spring", "most", "great"]) := by
  refine here_mk X Gm h1 l c k sc92 (fun _ _ _ _ _ _ us hl => match us, hl with | [_, _, _], _ => rfl) ?_ (by rw [bq92]; rfl)
  exact fun _ _ _ _ _ _ r hr e => no_kw (by decide +kernel) hr e
theorem sc93 : FnScope n93 ["spring", "machine", "late"] (defScope s93) := ⟨rfl, rfl, rfl, by decide +kernel, rfl, by decide +kernel, by decide +kernel⟩
theorem here93 {K : PySem.W.Frag} {h : Heap} {mg : Str → Option Value} {a : Addr} {oc : Value} {od an : Option Addr} {osl : Array (Option Value)} {kV doc pm cdv ct : Value}
    (X : K.In h) (Gm : h.Ns mainGlobals mg) (h1 : PySem.W.nsIn K mainGlobals "_law_moved" = some (some (.ref a)))
    (l : List.lookup a K = some ⟨oc, od, .func (PySem.W.fnOf "_law_moved" "_law_moved" (defArgs s93) (defBody s93) (defScope s93) .none kV doc pm an cdv ct), osl⟩) (c : PySem.W.codeIn K cdv "_law_moved" = true) (k : PySem.W.keepIn K (.ref a) = true) : FnHere K mg prK05 G 60 ("_law_moved", 93, ["spring", "machine", "late"]) := by
  refine here_mk X Gm h1 l c k sc93 (fun _ _ _ _ _ _ us hl => match us, hl with | [_, _, _], _ => rfl) ?_ (by rw [bq93]; rfl)
  exact fun _ _ _ _ _ _ r hr e => no_kw (by decide +kernel) hr e
theorem sc94 : FnScope n94 ["spring"] (defScope s94) := ⟨rfl, rfl, rfl, by decide +kernel, rfl, by decide +kernel, by decide +kernel⟩
theorem here94 {K : PySem.W.Frag} {h : Heap} {mg : Str → Option Value} {a : Addr} {oc : Value} {od an : Option Addr} {osl : Array (Option Value)} {kV doc pm cdv ct : Value}
    (X : K.In h) (Gm : h.Ns mainGlobals mg) (h1 : PySem.W.nsIn K mainGlobals "_law_right" = some (some (.ref a)))
    (l : List.lookup a K = some ⟨oc, od, .func (PySem.W.fnOf "_law_right" "_law_right" (defArgs s94) (defBody s94) (defScope s94) .none kV doc pm an cdv ct), osl⟩) (c : PySem.W.codeIn K cdv "_law_right" = true) (k : PySem.W.keepIn K (.ref a) = true) : FnHere K mg prK05 G 60 ("_law_right", 94, ["spring"]) := by
  refine here_mk X Gm h1 l c k sc94 (fun _ _ _ _ _ _ us hl => match us, hl with | [_], _ => rfl) ?_ (by rw [bq94]; rfl)
  exact fun _ _ _ _ _ _ r hr e => no_kw (by decide +kernel) hr e
theorem sc95 : FnScope n95 ["script"] (defScope s95) := ⟨rfl, rfl, rfl, by decide +kernel, rfl, by decide +kernel, by decide +kernel⟩
theorem here95 {K : PySem.W.Frag} {h : Heap} {mg : Str → Option Value} {a : Addr} {oc : Value} {od an : Option Addr} {osl : Array (Option Value)} {kV doc pm cdv ct : Value}
    (X : K.In h) (Gm : h.Ns mainGlobals mg) (h1 : PySem.W.nsIn K mainGlobals "law" = some (some (.ref a)))
    (l : List.lookup a K = some ⟨oc, od, .func (PySem.W.fnOf "law" "law" (defArgs s95) (defBody s95) (defScope s95) .none kV doc pm an cdv ct), osl⟩) (c : PySem.W.codeIn K cdv "law" = true) (k : PySem.W.keepIn K (.ref a) = true) : FnHere K mg prK05 G 60 ("law", 95, ["script"]) := by
  refine here_mk X Gm h1 l c k sc95 (fun _ _ _ _ _ _ us hl => match us, hl with | [_], _ => rfl) ?_ (by rw [bq95]; rfl)
  exact fun _ _ _ _ _ _ r hr e => no_kw (by decide +kernel) hr e
end K05

set_option Elab.async false
set_option linter.all false
set_option maxRecDepth 100000
set_option maxHeartbeats 8000000
namespace K05
open PySem L2 Tm
theorem all_mk {l : PySem.W.OpenLaw} {w : World} {K : PySem.W.Frag} {h : Heap} {mg : Str → Option Value} {fa : Addr} (X : K.In h) (Gm : h.Ns mainGlobals mg) (hfa : mg "law" = some (.ref fa))
    {f15 : Addr} {oc15 : Value} {od15 an15 : Option Addr} {osl15 : Array (Option Value)} {kV15 doc15 pm15 cdv15 ct15 : Value}
    {f16 : Addr} {oc16 : Value} {od16 an16 : Option Addr} {osl16 : Array (Option Value)} {kV16 doc16 pm16 cdv16 ct16 : Value}
    {f17 : Addr} {oc17 : Value} {od17 an17 : Option Addr} {osl17 : Array (Option Value)} {kV17 doc17 pm17 cdv17 ct17 : Value}
    {f18 : Addr} {oc18 : Value} {od18 an18 : Option Addr} {osl18 : Array (Option Value)} {kV18 doc18 pm18 cdv18 ct18 : Value}
    {f19 : Addr} {oc19 : Value} {od19 an19 : Option Addr} {osl19 : Array (Option Value)} {kV19 doc19 pm19 cdv19 ct19 : Value}
    {f40 : Addr} {oc40 : Value} {od40 an40 : Option Addr} {osl40 : Array (Option Value)} {kV40 doc40 pm40 cdv40 ct40 : Value}
    {f56 : Addr} {oc56 : Value} {od56 an56 : Option Addr} {osl56 : Array (Option Value)} {kV56 doc56 pm56 cdv56 ct56 : Value}
    {f20 : Addr} {oc20 : Value} {od20 an20 : Option Addr} {osl20 : Array (Option Value)} {kV20 doc20 pm20 cdv20 ct20 : Value}
    {f21 : Addr} {oc21 : Value} {od21 an21 : Option Addr} {osl21 : Array (Option Value)} {kV21 doc21 pm21 cdv21 ct21 : Value}
    {f22 : Addr} {oc22 : Value} {od22 an22 : Option Addr} {osl22 : Array (Option Value)} {kV22 doc22 pm22 cdv22 ct22 : Value}
    {f24 : Addr} {oc24 : Value} {od24 an24 : Option Addr} {osl24 : Array (Option Value)} {kV24 doc24 pm24 cdv24 ct24 : Value}
    {f0 : Addr} {oc0 : Value} {od0 an0 : Option Addr} {osl0 : Array (Option Value)} {kV0 doc0 pm0 cdv0 ct0 : Value}
    {f2 : Addr} {oc2 : Value} {od2 an2 : Option Addr} {osl2 : Array (Option Value)} {kV2 doc2 pm2 cdv2 ct2 : Value}
    {f3 : Addr} {oc3 : Value} {od3 an3 : Option Addr} {osl3 : Array (Option Value)} {kV3 doc3 pm3 cdv3 ct3 : Value}
    {f57 : Addr} {oc57 : Value} {od57 an57 : Option Addr} {osl57 : Array (Option Value)} {kV57 doc57 pm57 cdv57 ct57 : Value}
    {f58 : Addr} {oc58 : Value} {od58 an58 : Option Addr} {osl58 : Array (Option Value)} {kV58 doc58 pm58 cdv58 ct58 : Value}
    {f59 : Addr} {oc59 : Value} {od59 an59 : Option Addr} {osl59 : Array (Option Value)} {kV59 doc59 pm59 cdv59 ct59 : Value}
    {f60 : Addr} {oc60 : Value} {od60 an60 : Option Addr} {osl60 : Array (Option Value)} {kV60 doc60 pm60 cdv60 ct60 : Value}
    {f61 : Addr} {oc61 : Value} {od61 an61 : Option Addr} {osl61 : Array (Option Value)} {kV61 doc61 pm61 cdv61 ct61 : Value}
    {f62 : Addr} {oc62 : Value} {od62 an62 : Option Addr} {osl62 : Array (Option Value)} {kV62 doc62 pm62 cdv62 ct62 : Value}
    {f63 : Addr} {oc63 : Value} {od63 an63 : Option Addr} {osl63 : Array (Option Value)} {kV63 doc63 pm63 cdv63 ct63 : Value}
    {f64 : Addr} {oc64 : Value} {od64 an64 : Option Addr} {osl64 : Array (Option Value)} {kV64 doc64 pm64 cdv64 ct64 : Value}
    {f65 : Addr} {oc65 : Value} {od65 an65 : Option Addr} {osl65 : Array (Option Value)} {kV65 doc65 pm65 cdv65 ct65 : Value}
    {f884 : Addr} {oc884 : Value} {od884 an884 : Option Addr} {osl884 : Array (Option Value)} {kV884 doc884 pm884 cdv884 ct884 : Value}
    {f67 : Addr} {oc67 : Value} {od67 an67 : Option Addr} {osl67 : Array (Option Value)} {kV67 doc67 pm67 cdv67 ct67 : Value}
    {f68 : Addr} {oc68 : Value} {od68 an68 : Option Addr} {osl68 : Array (Option Value)} {kV68 doc68 pm68 cdv68 ct68 : Value}
    {f69 : Addr} {oc69 : Value} {od69 an69 : Option Addr} {osl69 : Array (Option Value)} {kV69 doc69 pm69 cdv69 ct69 : Value}
    {f70 : Addr} {oc70 : Value} {od70 an70 : Option Addr} {osl70 : Array (Option Value)} {kV70 doc70 pm70 cdv70 ct70 : Value}
    {f71 : Addr} {oc71 : Value} {od71 an71 : Option Addr} {osl71 : Array (Option Value)} {kV71 doc71 pm71 cdv71 ct71 : Value}
    {f885 : Addr} {oc885 : Value} {od885 an885 : Option Addr} {osl885 : Array (Option Value)} {kV885 doc885 pm885 cdv885 ct885 : Value}
    {f73 : Addr} {oc73 : Value} {od73 an73 : Option Addr} {osl73 : Array (Option Value)} {kV73 doc73 pm73 cdv73 ct73 : Value}
    {f886 : Addr} {oc886 : Value} {od886 an886 : Option Addr} {osl886 : Array (Option Value)} {kV886 doc886 pm886 cdv886 ct886 : Value}
    {f74 : Addr} {oc74 : Value} {od74 an74 : Option Addr} {osl74 : Array (Option Value)} {kV74 doc74 pm74 cdv74 ct74 : Value}
    {f75 : Addr} {oc75 : Value} {od75 an75 : Option Addr} {osl75 : Array (Option Value)} {kV75 doc75 pm75 cdv75 ct75 : Value}
    {f887 : Addr} {oc887 : Value} {od887 an887 : Option Addr} {osl887 : Array (Option Value)} {kV887 doc887 pm887 cdv887 ct887 : Value}
    {f77 : Addr} {oc77 : Value} {od77 an77 : Option Addr} {osl77 : Array (Option Value)} {kV77 doc77 pm77 cdv77 ct77 : Value}
    {f78 : Addr} {oc78 : Value} {od78 an78 : Option Addr} {osl78 : Array (Option Value)} {kV78 doc78 pm78 cdv78 ct78 : Value}
    {f4 : Addr} {oc4 : Value} {od4 an4 : Option Addr} {osl4 : Array (Option Value)} {kV4 doc4 pm4 cdv4 ct4 : Value}
    {f5 : Addr} {oc5 : Value} {od5 an5 : Option Addr} {osl5 : Array (Option Value)} {kV5 doc5 pm5 cdv5 ct5 : Value}
    {f6 : Addr} {oc6 : Value} {od6 an6 : Option Addr} {osl6 : Array (Option Value)} {kV6 doc6 pm6 cdv6 ct6 : Value}
    {f7 : Addr} {oc7 : Value} {od7 an7 : Option Addr} {osl7 : Array (Option Value)} {kV7 doc7 pm7 cdv7 ct7 : Value}
    {f79 : Addr} {oc79 : Value} {od79 an79 : Option Addr} {osl79 : Array (Option Value)} {kV79 doc79 pm79 cdv79 ct79 : Value}
    {f80 : Addr} {oc80 : Value} {od80 an80 : Option Addr} {osl80 : Array (Option Value)} {kV80 doc80 pm80 cdv80 ct80 : Value}
    {f81 : Addr} {oc81 : Value} {od81 an81 : Option Addr} {osl81 : Array (Option Value)} {kV81 doc81 pm81 cdv81 ct81 : Value}
    {f82 : Addr} {oc82 : Value} {od82 an82 : Option Addr} {osl82 : Array (Option Value)} {kV82 doc82 pm82 cdv82 ct82 : Value}
    {f83 : Addr} {oc83 : Value} {od83 an83 : Option Addr} {osl83 : Array (Option Value)} {kV83 doc83 pm83 cdv83 ct83 : Value}
    {f84 : Addr} {oc84 : Value} {od84 an84 : Option Addr} {osl84 : Array (Option Value)} {kV84 doc84 pm84 cdv84 ct84 : Value}
    {f85 : Addr} {oc85 : Value} {od85 an85 : Option Addr} {osl85 : Array (Option Value)} {kV85 doc85 pm85 cdv85 ct85 : Value}
    {f86 : Addr} {oc86 : Value} {od86 an86 : Option Addr} {osl86 : Array (Option Value)} {kV86 doc86 pm86 cdv86 ct86 : Value}
    {f87 : Addr} {oc87 : Value} {od87 an87 : Option Addr} {osl87 : Array (Option Value)} {kV87 doc87 pm87 cdv87 ct87 : Value}
    {f88 : Addr} {oc88 : Value} {od88 an88 : Option Addr} {osl88 : Array (Option Value)} {kV88 doc88 pm88 cdv88 ct88 : Value}
    {f89 : Addr} {oc89 : Value} {od89 an89 : Option Addr} {osl89 : Array (Option Value)} {kV89 doc89 pm89 cdv89 ct89 : Value}
    {f12 : Addr} {oc12 : Value} {od12 an12 : Option Addr} {osl12 : Array (Option Value)} {kV12 doc12 pm12 cdv12 ct12 : Value}
    {f30 : Addr} {oc30 : Value} {od30 an30 : Option Addr} {osl30 : Array (Option Value)} {kV30 doc30 pm30 cdv30 ct30 : Value}
    {f90 : Addr} {oc90 : Value} {od90 an90 : Option Addr} {osl90 : Array (Option Value)} {kV90 doc90 pm90 cdv90 ct90 : Value}
    {f91 : Addr} {oc91 : Value} {od91 an91 : Option Addr} {osl91 : Array (Option Value)} {kV91 doc91 pm91 cdv91 ct91 : Value}
    {f92 : Addr} {oc92 : Value} {od92 an92 : Option Addr} {osl92 : Array (Option Value)} {kV92 doc92 pm92 cdv92 ct92 : Value}
    {f93 : Addr} {oc93 : Value} {od93 an93 : Option Addr} {osl93 : Array (Option Value)} {kV93 doc93 pm93 cdv93 ct93 : Value}
    {f94 : Addr} {oc94 : Value} {od94 an94 : Option Addr} {osl94 : Array (Option Value)} {kV94 doc94 pm94 cdv94 ct94 : Value}
    {f95 : Addr} {oc95 : Value} {od95 an95 : Option Addr} {osl95 : Array (Option Value)} {kV95 doc95 pm95 cdv95 ct95 : Value}
    (a15 : PySem.W.nsIn K mainGlobals "is_integer" = some (some (.ref f15))) (l15 : List.lookup f15 K = some ⟨oc15, od15, .func (PySem.W.fnOf "is_integer" "is_integer" (defArgs s15) (defBody s15) (defScope s15) .none kV15 doc15 pm15 an15 cdv15 ct15), osl15⟩) (c15 : PySem.W.codeIn K cdv15 "is_integer" = true) (k15 : PySem.W.keepIn K (.ref f15) = true)
    (a16 : PySem.W.nsIn K mainGlobals "is_between" = some (some (.ref f16))) (l16 : List.lookup f16 K = some ⟨oc16, od16, .func (PySem.W.fnOf "is_between" "is_between" (defArgs s16) (defBody s16) (defScope s16) .none kV16 doc16 pm16 an16 cdv16 ct16), osl16⟩) (c16 : PySem.W.codeIn K cdv16 "is_between" = true) (k16 : PySem.W.keepIn K (.ref f16) = true)
    (a17 : PySem.W.nsIn K mainGlobals "is_word" = some (some (.ref f17))) (l17 : List.lookup f17 K = some ⟨oc17, od17, .func (PySem.W.fnOf "is_word" "is_word" (defArgs s17) (defBody s17) (defScope s17) .none kV17 doc17 pm17 an17 cdv17 ct17), osl17⟩) (c17 : PySem.W.codeIn K cdv17 "is_word" = true) (k17 : PySem.W.keepIn K (.ref f17) = true)
    (a18 : PySem.W.nsIn K mainGlobals "is_tuple_of" = some (some (.ref f18))) (l18 : List.lookup f18 K = some ⟨oc18, od18, .func (PySem.W.fnOf "is_tuple_of" "is_tuple_of" (defArgs s18) (defBody s18) (defScope s18) .none kV18 doc18 pm18 an18 cdv18 ct18), osl18⟩) (c18 : PySem.W.codeIn K cdv18 "is_tuple_of" = true) (k18 : PySem.W.keepIn K (.ref f18) = true)
    (a19 : PySem.W.nsIn K mainGlobals "are_words" = some (some (.ref f19))) (l19 : List.lookup f19 K = some ⟨oc19, od19, .func (PySem.W.fnOf "are_words" "are_words" (defArgs s19) (defBody s19) (defScope s19) .none kV19 doc19 pm19 an19 cdv19 ct19), osl19⟩) (c19 : PySem.W.codeIn K cdv19 "are_words" = true) (k19 : PySem.W.keepIn K (.ref f19) = true)
    (a40 : PySem.W.nsIn K mainGlobals "rebuilt" = some (some (.ref f40))) (l40 : List.lookup f40 K = some ⟨oc40, od40, .func (PySem.W.fnOf "rebuilt" "rebuilt" (defArgs s40) (defBody s40) (defScope s40) .none kV40 doc40 pm40 an40 cdv40 ct40), osl40⟩) (c40 : PySem.W.codeIn K cdv40 "rebuilt" = true) (k40 : PySem.W.keepIn K (.ref f40) = true)
    (a56 : PySem.W.nsIn K mainGlobals "replaced" = some (some (.ref f56))) (l56 : List.lookup f56 K = some ⟨oc56, od56, .func (PySem.W.fnOf "replaced" "replaced" (defArgs s56) (defBody s56) (defScope s56) .none kV56 doc56 pm56 an56 cdv56 ct56), osl56⟩) (c56 : PySem.W.codeIn K cdv56 "replaced" = true) (k56 : PySem.W.keepIn K (.ref f56) = true)
    (a20 : PySem.W.nsIn K mainGlobals "is_instruction" = some (some (.ref f20))) (l20 : List.lookup f20 K = some ⟨oc20, od20, .func (PySem.W.fnOf "is_instruction" "is_instruction" (defArgs s20) (defBody s20) (defScope s20) .none kV20 doc20 pm20 an20 cdv20 ct20), osl20⟩) (c20 : PySem.W.codeIn K cdv20 "is_instruction" = true) (k20 : PySem.W.keepIn K (.ref f20) = true)
    (a21 : PySem.W.nsIn K mainGlobals "are_rows" = some (some (.ref f21))) (l21 : List.lookup f21 K = some ⟨oc21, od21, .func (PySem.W.fnOf "are_rows" "are_rows" (defArgs s21) (defBody s21) (defScope s21) .none kV21 doc21 pm21 an21 cdv21 ct21), osl21⟩) (c21 : PySem.W.codeIn K cdv21 "are_rows" = true) (k21 : PySem.W.keepIn K (.ref f21) = true)
    (a22 : PySem.W.nsIn K mainGlobals "is_book" = some (some (.ref f22))) (l22 : List.lookup f22 K = some ⟨oc22, od22, .func (PySem.W.fnOf "is_book" "is_book" (defArgs s22) (defBody s22) (defScope s22) .none kV22 doc22 pm22 an22 cdv22 ct22), osl22⟩) (c22 : PySem.W.codeIn K cdv22 "is_book" = true) (k22 : PySem.W.keepIn K (.ref f22) = true)
    (a24 : PySem.W.nsIn K mainGlobals "is_memory" = some (some (.ref f24))) (l24 : List.lookup f24 K = some ⟨oc24, od24, .func (PySem.W.fnOf "is_memory" "is_memory" (defArgs s24) (defBody s24) (defScope s24) .none kV24 doc24 pm24 an24 cdv24 ct24), osl24⟩) (c24 : PySem.W.codeIn K cdv24 "is_memory" = true) (k24 : PySem.W.keepIn K (.ref f24) = true)
    (a0 : PySem.W.nsIn K mainGlobals "reads" = some (some (.ref f0))) (l0 : List.lookup f0 K = some ⟨oc0, od0, .func (PySem.W.fnOf "reads" "reads" (defArgs s0) (defBody s0) (defScope s0) .none kV0 doc0 pm0 an0 cdv0 ct0), osl0⟩) (c0 : PySem.W.codeIn K cdv0 "reads" = true) (k0 : PySem.W.keepIn K (.ref f0) = true)
    (a2 : PySem.W.nsIn K mainGlobals "cell_of" = some (some (.ref f2))) (l2 : List.lookup f2 K = some ⟨oc2, od2, .func (PySem.W.fnOf "cell_of" "cell_of" (defArgs s2) (defBody s2) (defScope s2) .none kV2 doc2 pm2 an2 cdv2 ct2), osl2⟩) (c2 : PySem.W.codeIn K cdv2 "cell_of" = true) (k2 : PySem.W.keepIn K (.ref f2) = true)
    (a3 : PySem.W.nsIn K mainGlobals "result" = some (some (.ref f3))) (l3 : List.lookup f3 K = some ⟨oc3, od3, .func (PySem.W.fnOf "result" "result" (defArgs s3) (defBody s3) (defScope s3) .none kV3 doc3 pm3 an3 cdv3 ct3), osl3⟩) (c3 : PySem.W.codeIn K cdv3 "result" = true) (k3 : PySem.W.keepIn K (.ref f3) = true)
    (a57 : PySem.W.nsIn K mainGlobals "check_book" = some (some (.ref f57))) (l57 : List.lookup f57 K = some ⟨oc57, od57, .func (PySem.W.fnOf "check_book" "check_book" (defArgs s57) (defBody s57) (defScope s57) .none kV57 doc57 pm57 an57 cdv57 ct57), osl57⟩) (c57 : PySem.W.codeIn K cdv57 "check_book" = true) (k57 : PySem.W.keepIn K (.ref f57) = true)
    (a58 : PySem.W.nsIn K mainGlobals "check_memory" = some (some (.ref f58))) (l58 : List.lookup f58 K = some ⟨oc58, od58, .func (PySem.W.fnOf "check_memory" "check_memory" (defArgs s58) (defBody s58) (defScope s58) .none kV58 doc58 pm58 an58 cdv58 ct58), osl58⟩) (c58 : PySem.W.codeIn K cdv58 "check_memory" = true) (k58 : PySem.W.keepIn K (.ref f58) = true)
    (a59 : PySem.W.nsIn K mainGlobals "check_number" = some (some (.ref f59))) (l59 : List.lookup f59 K = some ⟨oc59, od59, .func (PySem.W.fnOf "check_number" "check_number" (defArgs s59) (defBody s59) (defScope s59) .none kV59 doc59 pm59 an59 cdv59 ct59), osl59⟩) (c59 : PySem.W.codeIn K cdv59 "check_number" = true) (k59 : PySem.W.keepIn K (.ref f59) = true)
    (a60 : PySem.W.nsIn K mainGlobals "first_stand" = some (some (.ref f60))) (l60 : List.lookup f60 K = some ⟨oc60, od60, .func (PySem.W.fnOf "first_stand" "first_stand" (defArgs s60) (defBody s60) (defScope s60) .none kV60 doc60 pm60 an60 cdv60 ct60), osl60⟩) (c60 : PySem.W.codeIn K cdv60 "first_stand" = true) (k60 : PySem.W.keepIn K (.ref f60) = true)
    (a61 : PySem.W.nsIn K mainGlobals "is_stopped" = some (some (.ref f61))) (l61 : List.lookup f61 K = some ⟨oc61, od61, .func (PySem.W.fnOf "is_stopped" "is_stopped" (defArgs s61) (defBody s61) (defScope s61) .none kV61 doc61 pm61 an61 cdv61 ct61), osl61⟩) (c61 : PySem.W.codeIn K cdv61 "is_stopped" = true) (k61 : PySem.W.keepIn K (.ref f61) = true)
    (a62 : PySem.W.nsIn K mainGlobals "is_ended" = some (some (.ref f62))) (l62 : List.lookup f62 K = some ⟨oc62, od62, .func (PySem.W.fnOf "is_ended" "is_ended" (defArgs s62) (defBody s62) (defScope s62) .none kV62 doc62 pm62 an62 cdv62 ct62), osl62⟩) (c62 : PySem.W.codeIn K cdv62 "is_ended" = true) (k62 : PySem.W.keepIn K (.ref f62) = true)
    (a63 : PySem.W.nsIn K mainGlobals "access_cell" = some (some (.ref f63))) (l63 : List.lookup f63 K = some ⟨oc63, od63, .func (PySem.W.fnOf "access_cell" "access_cell" (defArgs s63) (defBody s63) (defScope s63) .none kV63 doc63 pm63 an63 cdv63 ct63), osl63⟩) (c63 : PySem.W.codeIn K cdv63 "access_cell" = true) (k63 : PySem.W.keepIn K (.ref f63) = true)
    (a64 : PySem.W.nsIn K mainGlobals "changed_word" = some (some (.ref f64))) (l64 : List.lookup f64 K = some ⟨oc64, od64, .func (PySem.W.fnOf "changed_word" "changed_word" (defArgs s64) (defBody s64) (defScope s64) .none kV64 doc64 pm64 an64 cdv64 ct64), osl64⟩) (c64 : PySem.W.codeIn K cdv64 "changed_word" = true) (k64 : PySem.W.keepIn K (.ref f64) = true)
    (a65 : PySem.W.nsIn K mainGlobals "row_after" = some (some (.ref f65))) (l65 : List.lookup f65 K = some ⟨oc65, od65, .func (PySem.W.fnOf "row_after" "row_after" (defArgs s65) (defBody s65) (defScope s65) .none kV65 doc65 pm65 an65 cdv65 ct65), osl65⟩) (c65 : PySem.W.codeIn K cdv65 "row_after" = true) (k65 : PySem.W.keepIn K (.ref f65) = true)
    (a884 : PySem.W.nsIn K mainGlobals "loaded_word" = some (some (.ref f884))) (l884 : List.lookup f884 K = some ⟨oc884, od884, .func (PySem.W.fnOf "loaded_word" "loaded_word" (defArgs s884) (defBody s884) (defScope s884) .none kV884 doc884 pm884 an884 cdv884 ct884), osl884⟩) (c884 : PySem.W.codeIn K cdv884 "loaded_word" = true) (k884 : PySem.W.keepIn K (.ref f884) = true)
    (a67 : PySem.W.nsIn K mainGlobals "can_do" = some (some (.ref f67))) (l67 : List.lookup f67 K = some ⟨oc67, od67, .func (PySem.W.fnOf "can_do" "can_do" (defArgs s67) (defBody s67) (defScope s67) .none kV67 doc67 pm67 an67 cdv67 ct67), osl67⟩) (c67 : PySem.W.codeIn K cdv67 "can_do" = true) (k67 : PySem.W.keepIn K (.ref f67) = true)
    (a68 : PySem.W.nsIn K mainGlobals "can_flush" = some (some (.ref f68))) (l68 : List.lookup f68 K = some ⟨oc68, od68, .func (PySem.W.fnOf "can_flush" "can_flush" (defArgs s68) (defBody s68) (defScope s68) .none kV68 doc68 pm68 an68 cdv68 ct68), osl68⟩) (c68 : PySem.W.codeIn K cdv68 "can_flush" = true) (k68 : PySem.W.keepIn K (.ref f68) = true)
    (a69 : PySem.W.nsIn K mainGlobals "after_do" = some (some (.ref f69))) (l69 : List.lookup f69 K = some ⟨oc69, od69, .func (PySem.W.fnOf "after_do" "after_do" (defArgs s69) (defBody s69) (defScope s69) .none kV69 doc69 pm69 an69 cdv69 ct69), osl69⟩) (c69 : PySem.W.codeIn K cdv69 "after_do" = true) (k69 : PySem.W.keepIn K (.ref f69) = true)
    (a70 : PySem.W.nsIn K mainGlobals "after_flush" = some (some (.ref f70))) (l70 : List.lookup f70 K = some ⟨oc70, od70, .func (PySem.W.fnOf "after_flush" "after_flush" (defArgs s70) (defBody s70) (defScope s70) .none kV70 doc70 pm70 an70 cdv70 ct70), osl70⟩) (c70 : PySem.W.codeIn K cdv70 "after_flush" = true) (k70 : PySem.W.keepIn K (.ref f70) = true)
    (a71 : PySem.W.nsIn K mainGlobals "let_steps" = some (some (.ref f71))) (l71 : List.lookup f71 K = some ⟨oc71, od71, .func (PySem.W.fnOf "let_steps" "let_steps" (defArgs s71) (defBody s71) (defScope s71) .none kV71 doc71 pm71 an71 cdv71 ct71), osl71⟩) (c71 : PySem.W.codeIn K cdv71 "let_steps" = true) (k71 : PySem.W.keepIn K (.ref f71) = true)
    (a885 : PySem.W.nsIn K mainGlobals "is_plain_let" = some (some (.ref f885))) (l885 : List.lookup f885 K = some ⟨oc885, od885, .func (PySem.W.fnOf "is_plain_let" "is_plain_let" (defArgs s885) (defBody s885) (defScope s885) .none kV885 doc885 pm885 an885 cdv885 ct885), osl885⟩) (c885 : PySem.W.codeIn K cdv885 "is_plain_let" = true) (k885 : PySem.W.keepIn K (.ref f885) = true)
    (a73 : PySem.W.nsIn K mainGlobals "after_step" = some (some (.ref f73))) (l73 : List.lookup f73 K = some ⟨oc73, od73, .func (PySem.W.fnOf "after_step" "after_step" (defArgs s73) (defBody s73) (defScope s73) .none kV73 doc73 pm73 an73 cdv73 ct73), osl73⟩) (c73 : PySem.W.codeIn K cdv73 "after_step" = true) (k73 : PySem.W.keepIn K (.ref f73) = true)
    (a886 : PySem.W.nsIn K mainGlobals "stand_by_let" = some (some (.ref f886))) (l886 : List.lookup f886 K = some ⟨oc886, od886, .func (PySem.W.fnOf "stand_by_let" "stand_by_let" (defArgs s886) (defBody s886) (defScope s886) .none kV886 doc886 pm886 an886 cdv886 ct886), osl886⟩) (c886 : PySem.W.codeIn K cdv886 "stand_by_let" = true) (k886 : PySem.W.keepIn K (.ref f886) = true)
    (a74 : PySem.W.nsIn K mainGlobals "plain_first" = some (some (.ref f74))) (l74 : List.lookup f74 K = some ⟨oc74, od74, .func (PySem.W.fnOf "plain_first" "plain_first" (defArgs s74) (defBody s74) (defScope s74) .none kV74 doc74 pm74 an74 cdv74 ct74), osl74⟩) (c74 : PySem.W.codeIn K cdv74 "plain_first" = true) (k74 : PySem.W.keepIn K (.ref f74) = true)
    (a75 : PySem.W.nsIn K mainGlobals "plain_steps" = some (some (.ref f75))) (l75 : List.lookup f75 K = some ⟨oc75, od75, .func (PySem.W.fnOf "plain_steps" "plain_steps" (defArgs s75) (defBody s75) (defScope s75) .none kV75 doc75 pm75 an75 cdv75 ct75), osl75⟩) (c75 : PySem.W.codeIn K cdv75 "plain_steps" = true) (k75 : PySem.W.keepIn K (.ref f75) = true)
    (a887 : PySem.W.nsIn K mainGlobals "plain_after" = some (some (.ref f887))) (l887 : List.lookup f887 K = some ⟨oc887, od887, .func (PySem.W.fnOf "plain_after" "plain_after" (defArgs s887) (defBody s887) (defScope s887) .none kV887 doc887 pm887 an887 cdv887 ct887), osl887⟩) (c887 : PySem.W.codeIn K cdv887 "plain_after" = true) (k887 : PySem.W.keepIn K (.ref f887) = true)
    (a77 : PySem.W.nsIn K mainGlobals "has_stopped" = some (some (.ref f77))) (l77 : List.lookup f77 K = some ⟨oc77, od77, .func (PySem.W.fnOf "has_stopped" "has_stopped" (defArgs s77) (defBody s77) (defScope s77) .none kV77 doc77 pm77 an77 cdv77 ct77), osl77⟩) (c77 : PySem.W.codeIn K cdv77 "has_stopped" = true) (k77 : PySem.W.keepIn K (.ref f77) = true)
    (a78 : PySem.W.nsIn K mainGlobals "has_ended" = some (some (.ref f78))) (l78 : List.lookup f78 K = some ⟨oc78, od78, .func (PySem.W.fnOf "has_ended" "has_ended" (defArgs s78) (defBody s78) (defScope s78) .none kV78 doc78 pm78 an78 cdv78 ct78), osl78⟩) (c78 : PySem.W.codeIn K cdv78 "has_ended" = true) (k78 : PySem.W.keepIn K (.ref f78) = true)
    (a4 : PySem.W.nsIn K mainGlobals "_law_spring" = some (some (.ref f4))) (l4 : List.lookup f4 K = some ⟨oc4, od4, .func (PySem.W.fnOf "_law_spring" "_law_spring" (defArgs s4) (defBody s4) (defScope s4) .none kV4 doc4 pm4 an4 cdv4 ct4), osl4⟩) (c4 : PySem.W.codeIn K cdv4 "_law_spring" = true) (k4 : PySem.W.keepIn K (.ref f4) = true)
    (a5 : PySem.W.nsIn K mainGlobals "_law_pick" = some (some (.ref f5))) (l5 : List.lookup f5 K = some ⟨oc5, od5, .func (PySem.W.fnOf "_law_pick" "_law_pick" (defArgs s5) (defBody s5) (defScope s5) .none kV5 doc5 pm5 an5 cdv5 ct5), osl5⟩) (c5 : PySem.W.codeIn K cdv5 "_law_pick" = true) (k5 : PySem.W.keepIn K (.ref f5) = true)
    (a6 : PySem.W.nsIn K mainGlobals "_law_word" = some (some (.ref f6))) (l6 : List.lookup f6 K = some ⟨oc6, od6, .func (PySem.W.fnOf "_law_word" "_law_word" (defArgs s6) (defBody s6) (defScope s6) .none kV6 doc6 pm6 an6 cdv6 ct6), osl6⟩) (c6 : PySem.W.codeIn K cdv6 "_law_word" = true) (k6 : PySem.W.keepIn K (.ref f6) = true)
    (a7 : PySem.W.nsIn K mainGlobals "_law_instruction" = some (some (.ref f7))) (l7 : List.lookup f7 K = some ⟨oc7, od7, .func (PySem.W.fnOf "_law_instruction" "_law_instruction" (defArgs s7) (defBody s7) (defScope s7) .none kV7 doc7 pm7 an7 cdv7 ct7), osl7⟩) (c7 : PySem.W.codeIn K cdv7 "_law_instruction" = true) (k7 : PySem.W.keepIn K (.ref f7) = true)
    (a79 : PySem.W.nsIn K mainGlobals "_law_rows" = some (some (.ref f79))) (l79 : List.lookup f79 K = some ⟨oc79, od79, .func (PySem.W.fnOf "_law_rows" "_law_rows" (defArgs s79) (defBody s79) (defScope s79) .none kV79 doc79 pm79 an79 cdv79 ct79), osl79⟩) (c79 : PySem.W.codeIn K cdv79 "_law_rows" = true) (k79 : PySem.W.keepIn K (.ref f79) = true)
    (a80 : PySem.W.nsIn K mainGlobals "_law_book" = some (some (.ref f80))) (l80 : List.lookup f80 K = some ⟨oc80, od80, .func (PySem.W.fnOf "_law_book" "_law_book" (defArgs s80) (defBody s80) (defScope s80) .none kV80 doc80 pm80 an80 cdv80 ct80), osl80⟩) (c80 : PySem.W.codeIn K cdv80 "_law_book" = true) (k80 : PySem.W.keepIn K (.ref f80) = true)
    (a81 : PySem.W.nsIn K mainGlobals "_law_memory" = some (some (.ref f81))) (l81 : List.lookup f81 K = some ⟨oc81, od81, .func (PySem.W.fnOf "_law_memory" "_law_memory" (defArgs s81) (defBody s81) (defScope s81) .none kV81 doc81 pm81 an81 cdv81 ct81), osl81⟩) (c81 : PySem.W.codeIn K cdv81 "_law_memory" = true) (k81 : PySem.W.keepIn K (.ref f81) = true)
    (a82 : PySem.W.nsIn K mainGlobals "_law_begun" = some (some (.ref f82))) (l82 : List.lookup f82 K = some ⟨oc82, od82, .func (PySem.W.fnOf "_law_begun" "_law_begun" (defArgs s82) (defBody s82) (defScope s82) .none kV82 doc82 pm82 an82 cdv82 ct82), osl82⟩) (c82 : PySem.W.codeIn K cdv82 "_law_begun" = true) (k82 : PySem.W.keepIn K (.ref f82) = true)
    (a83 : PySem.W.nsIn K mainGlobals "_law_at" = some (some (.ref f83))) (l83 : List.lookup f83 K = some ⟨oc83, od83, .func (PySem.W.fnOf "_law_at" "_law_at" (defArgs s83) (defBody s83) (defScope s83) .none kV83 doc83 pm83 an83 cdv83 ct83), osl83⟩) (c83 : PySem.W.codeIn K cdv83 "_law_at" = true) (k83 : PySem.W.keepIn K (.ref f83) = true)
    (a84 : PySem.W.nsIn K mainGlobals "_law_lets" = some (some (.ref f84))) (l84 : List.lookup f84 K = some ⟨oc84, od84, .func (PySem.W.fnOf "_law_lets" "_law_lets" (defArgs s84) (defBody s84) (defScope s84) .none kV84 doc84 pm84 an84 cdv84 ct84), osl84⟩) (c84 : PySem.W.codeIn K cdv84 "_law_lets" = true) (k84 : PySem.W.keepIn K (.ref f84) = true)
    (a85 : PySem.W.nsIn K mainGlobals "_law_sum" = some (some (.ref f85))) (l85 : List.lookup f85 K = some ⟨oc85, od85, .func (PySem.W.fnOf "_law_sum" "_law_sum" (defArgs s85) (defBody s85) (defScope s85) .none kV85 doc85 pm85 an85 cdv85 ct85), osl85⟩) (c85 : PySem.W.codeIn K cdv85 "_law_sum" = true) (k85 : PySem.W.keepIn K (.ref f85) = true)
    (a86 : PySem.W.nsIn K mainGlobals "_law_do" = some (some (.ref f86))) (l86 : List.lookup f86 K = some ⟨oc86, od86, .func (PySem.W.fnOf "_law_do" "_law_do" (defArgs s86) (defBody s86) (defScope s86) .none kV86 doc86 pm86 an86 cdv86 ct86), osl86⟩) (c86 : PySem.W.codeIn K cdv86 "_law_do" = true) (k86 : PySem.W.keepIn K (.ref f86) = true)
    (a87 : PySem.W.nsIn K mainGlobals "_law_flush" = some (some (.ref f87))) (l87 : List.lookup f87 K = some ⟨oc87, od87, .func (PySem.W.fnOf "_law_flush" "_law_flush" (defArgs s87) (defBody s87) (defScope s87) .none kV87 doc87 pm87 an87 cdv87 ct87), osl87⟩) (c87 : PySem.W.codeIn K cdv87 "_law_flush" = true) (k87 : PySem.W.keepIn K (.ref f87) = true)
    (a88 : PySem.W.nsIn K mainGlobals "_law_step" = some (some (.ref f88))) (l88 : List.lookup f88 K = some ⟨oc88, od88, .func (PySem.W.fnOf "_law_step" "_law_step" (defArgs s88) (defBody s88) (defScope s88) .none kV88 doc88 pm88 an88 cdv88 ct88), osl88⟩) (c88 : PySem.W.codeIn K cdv88 "_law_step" = true) (k88 : PySem.W.keepIn K (.ref f88) = true)
    (a89 : PySem.W.nsIn K mainGlobals "_law_told" = some (some (.ref f89))) (l89 : List.lookup f89 K = some ⟨oc89, od89, .func (PySem.W.fnOf "_law_told" "_law_told" (defArgs s89) (defBody s89) (defScope s89) .none kV89 doc89 pm89 an89 cdv89 ct89), osl89⟩) (c89 : PySem.W.codeIn K cdv89 "_law_told" = true) (k89 : PySem.W.keepIn K (.ref f89) = true)
    (a12 : PySem.W.nsIn K mainGlobals "_law_like" = some (some (.ref f12))) (l12 : List.lookup f12 K = some ⟨oc12, od12, .func (PySem.W.fnOf "_law_like" "_law_like" (defArgs s12) (defBody s12) (defScope s12) .none kV12 doc12 pm12 an12 cdv12 ct12), osl12⟩) (c12 : PySem.W.codeIn K cdv12 "_law_like" = true) (k12 : PySem.W.keepIn K (.ref f12) = true)
    (a30 : PySem.W.nsIn K mainGlobals "_law_tells" = some (some (.ref f30))) (l30 : List.lookup f30 K = some ⟨oc30, od30, .func (PySem.W.fnOf "_law_tells" "_law_tells" (defArgs s30) (defBody s30) (defScope s30) .none kV30 doc30 pm30 an30 cdv30 ct30), osl30⟩) (c30 : PySem.W.codeIn K cdv30 "_law_tells" = true) (k30 : PySem.W.keepIn K (.ref f30) = true)
    (a90 : PySem.W.nsIn K mainGlobals "_law_looked" = some (some (.ref f90))) (l90 : List.lookup f90 K = some ⟨oc90, od90, .func (PySem.W.fnOf "_law_looked" "_law_looked" (defArgs s90) (defBody s90) (defScope s90) .none kV90 doc90 pm90 an90 cdv90 ct90), osl90⟩) (c90 : PySem.W.codeIn K cdv90 "_law_looked" = true) (k90 : PySem.W.keepIn K (.ref f90) = true)
    (a91 : PySem.W.nsIn K mainGlobals "_law_chosen" = some (some (.ref f91))) (l91 : List.lookup f91 K = some ⟨oc91, od91, .func (PySem.W.fnOf "_law_chosen" "_law_chosen" (defArgs s91) (defBody s91) (defScope s91) .none kV91 doc91 pm91 an91 cdv91 ct91), osl91⟩) (c91 : PySem.W.codeIn K cdv91 "_law_chosen" = true) (k91 : PySem.W.keepIn K (.ref f91) = true)
    (a92 : PySem.W.nsIn K mainGlobals "_law_machine" = some (some (.ref f92))) (l92 : List.lookup f92 K = some ⟨oc92, od92, .func (PySem.W.fnOf "_law_machine" "_law_machine" (defArgs s92) (defBody s92) (defScope s92) .none kV92 doc92 pm92 an92 cdv92 ct92), osl92⟩) (c92 : PySem.W.codeIn K cdv92 "_law_machine" = true) (k92 : PySem.W.keepIn K (.ref f92) = true)
    (a93 : PySem.W.nsIn K mainGlobals "_law_moved" = some (some (.ref f93))) (l93 : List.lookup f93 K = some ⟨oc93, od93, .func (PySem.W.fnOf "_law_moved" "_law_moved" (defArgs s93) (defBody s93) (defScope s93) .none kV93 doc93 pm93 an93 cdv93 ct93), osl93⟩) (c93 : PySem.W.codeIn K cdv93 "_law_moved" = true) (k93 : PySem.W.keepIn K (.ref f93) = true)
    (a94 : PySem.W.nsIn K mainGlobals "_law_right" = some (some (.ref f94))) (l94 : List.lookup f94 K = some ⟨oc94, od94, .func (PySem.W.fnOf "_law_right" "_law_right" (defArgs s94) (defBody s94) (defScope s94) .none kV94 doc94 pm94 an94 cdv94 ct94), osl94⟩) (c94 : PySem.W.codeIn K cdv94 "_law_right" = true) (k94 : PySem.W.keepIn K (.ref f94) = true)
    (a95 : PySem.W.nsIn K mainGlobals "law" = some (some (.ref f95))) (l95 : List.lookup f95 K = some ⟨oc95, od95, .func (PySem.W.fnOf "law" "law" (defArgs s95) (defBody s95) (defScope s95) .none kV95 doc95 pm95 an95 cdv95 ct95), osl95⟩) (c95 : PySem.W.codeIn K cdv95 "law" = true) (k95 : PySem.W.keepIn K (.ref f95) = true)
    {ad1 : Addr} {es1 : Array DictEntry} {ep1 : Nat} (da1 : PySem.W.nsIn K mainGlobals "PARTS" = some (some (.ref ad1))) (dl1 : List.lookup ad1 K = some { cls := .type "dict", data := .dict es1 ep1 }) (lit1 : PySem.W.KeysLit w.params es1.toList) (low1 : (ad1 == sysModules) = false) (dm1 : DMatch K es1.toList (kdK05 1))
    {ad0 : Addr} {es0 : Array DictEntry} {ep0 : Nat} (da0 : PySem.W.nsIn K mainGlobals "READ_AT" = some (some (.ref ad0))) (dl0 : List.lookup ad0 K = some { cls := .type "dict", data := .dict es0 ep0 }) (lit0 : PySem.W.KeysLit w.params es0.toList) (low0 : (ad0 == sysModules) = false) (dm0 : DMatch K es0.toList (kdK05 0))
    {ad2 : Addr} {es2 : Array DictEntry} {ep2 : Nat} (da2 : PySem.W.nsIn K mainGlobals "LARGEST" = some (some (.ref ad2))) (dl2 : List.lookup ad2 K = some { cls := .type "dict", data := .dict es2 ep2 }) (lit2 : PySem.W.KeysLit w.params es2.toList) (low2 : (ad2 == sysModules) = false) (dm2 : DMatch K es2.toList (kdK05 2))
    {ac3 : Addr} (ca3 : PySem.W.nsIn K mainGlobals "SUMS" = some (some (.ref ac3))) (cr3 : ∀ ρ H, Rep K ρ H (.ref ac3) (glK05 3))
    {ac4 : Addr} (ca4 : PySem.W.nsIn K mainGlobals "ZEROS" = some (some (.ref ac4))) (cr4 : ∀ ρ H, Rep K ρ H (.ref ac4) (glK05 4))
    {ac5 : Addr} (ca5 : PySem.W.nsIn K mainGlobals "ALONE" = some (some (.ref ac5))) (cr5 : ∀ ρ H, Rep K ρ H (.ref ac5) (glK05 5))
    (z0 : PySem.W.nsIn K mainGlobals "isinstance" = some none)
    (z1 : PySem.W.nsIn K mainGlobals "int" = some none)
    (z2 : PySem.W.nsIn K mainGlobals "bool" = some none)
    (z3 : PySem.W.nsIn K mainGlobals "tuple" = some none)
    (z4 : PySem.W.nsIn K mainGlobals "len" = some none)
    (z5 : PySem.W.nsIn K mainGlobals "all" = some none)
    (z6 : PySem.W.nsIn K mainGlobals "list" = some none)
    (z7 : PySem.W.nsIn K mainGlobals "str" = some none)
    (z8 : PySem.W.nsIn K mainGlobals "zip" = some none)
    (z9 : PySem.W.nsIn K mainGlobals "reversed" = some none)
    (z10 : PySem.W.nsIn K mainGlobals "range" = some none)
    (z11 : PySem.W.nsIn K mainGlobals "max" = some none)
    (z12 : PySem.W.nsIn K mainGlobals "abs" = some none)
    (z13 : PySem.W.nsIn K mainGlobals "repr" = some none)
    (z14 : PySem.W.nsIn K mainGlobals "min" = some none)
    : ∃ fd : FuncData, (∀ (s : Shared) (u : Value), BindsTo s fd ⟨[u], []⟩ [(("script" : Str), u)]) ∧ ∀ (W k : Nat) (base : Heap), K.In base → base.Ns mainGlobals mg → FnG l.prog w K mg base k fa fd ["script"] (spR K 1 (run prK05 W k 95)) := by
  have e := hfa.symm.trans (PySem.W.mg_of X Gm a95)
  cases e
  have T : Stands K mg w prK05 G 60 := by
    refine ⟨fun x f ps hl => ?_, fun x g hl => ?_, fun x g hl => ?_, fun x hx => ?_, fun x a hx => PySem.W.mg_of X Gm hx, fun x i hx => ?_⟩
    · refine (show ∀ e ∈ G.funs, FnHere K mg prK05 G 60 e from ?_) _ (Tm.mem_of_lookup hl)
      exact List.forall_mem_cons.2 ⟨here15 X Gm a15 l15 c15 k15, List.forall_mem_cons.2 ⟨here16 X Gm a16 l16 c16 k16, List.forall_mem_cons.2 ⟨here17 X Gm a17 l17 c17 k17, List.forall_mem_cons.2 ⟨here18 X Gm a18 l18 c18 k18, List.forall_mem_cons.2 ⟨here19 X Gm a19 l19 c19 k19, List.forall_mem_cons.2 ⟨here40 X Gm a40 l40 c40 k40, List.forall_mem_cons.2 ⟨here56 X Gm a56 l56 c56 k56, List.forall_mem_cons.2 ⟨here20 X Gm a20 l20 c20 k20, List.forall_mem_cons.2 ⟨here21 X Gm a21 l21 c21 k21, List.forall_mem_cons.2 ⟨here22 X Gm a22 l22 c22 k22, List.forall_mem_cons.2 ⟨here24 X Gm a24 l24 c24 k24, List.forall_mem_cons.2 ⟨here0 X Gm a0 l0 c0 k0, List.forall_mem_cons.2 ⟨here2 X Gm a2 l2 c2 k2, List.forall_mem_cons.2 ⟨here3 X Gm a3 l3 c3 k3, List.forall_mem_cons.2 ⟨here57 X Gm a57 l57 c57 k57, List.forall_mem_cons.2 ⟨here58 X Gm a58 l58 c58 k58, List.forall_mem_cons.2 ⟨here59 X Gm a59 l59 c59 k59, List.forall_mem_cons.2 ⟨here60 X Gm a60 l60 c60 k60, List.forall_mem_cons.2 ⟨here61 X Gm a61 l61 c61 k61, List.forall_mem_cons.2 ⟨here62 X Gm a62 l62 c62 k62, List.forall_mem_cons.2 ⟨here63 X Gm a63 l63 c63 k63, List.forall_mem_cons.2 ⟨here64 X Gm a64 l64 c64 k64, List.forall_mem_cons.2 ⟨here65 X Gm a65 l65 c65 k65, List.forall_mem_cons.2 ⟨here884 X Gm a884 l884 c884 k884, List.forall_mem_cons.2 ⟨here67 X Gm a67 l67 c67 k67, List.forall_mem_cons.2 ⟨here68 X Gm a68 l68 c68 k68, List.forall_mem_cons.2 ⟨here69 X Gm a69 l69 c69 k69, List.forall_mem_cons.2 ⟨here70 X Gm a70 l70 c70 k70, List.forall_mem_cons.2 ⟨here71 X Gm a71 l71 c71 k71, List.forall_mem_cons.2 ⟨here885 X Gm a885 l885 c885 k885, List.forall_mem_cons.2 ⟨here73 X Gm a73 l73 c73 k73, List.forall_mem_cons.2 ⟨here886 X Gm a886 l886 c886 k886, List.forall_mem_cons.2 ⟨here74 X Gm a74 l74 c74 k74, List.forall_mem_cons.2 ⟨here75 X Gm a75 l75 c75 k75, List.forall_mem_cons.2 ⟨here887 X Gm a887 l887 c887 k887, List.forall_mem_cons.2 ⟨here77 X Gm a77 l77 c77 k77, List.forall_mem_cons.2 ⟨here78 X Gm a78 l78 c78 k78, List.forall_mem_cons.2 ⟨here4 X Gm a4 l4 c4 k4, List.forall_mem_cons.2 ⟨here5 X Gm a5 l5 c5 k5, List.forall_mem_cons.2 ⟨here6 X Gm a6 l6 c6 k6, List.forall_mem_cons.2 ⟨here7 X Gm a7 l7 c7 k7, List.forall_mem_cons.2 ⟨here79 X Gm a79 l79 c79 k79, List.forall_mem_cons.2 ⟨here80 X Gm a80 l80 c80 k80, List.forall_mem_cons.2 ⟨here81 X Gm a81 l81 c81 k81, List.forall_mem_cons.2 ⟨here82 X Gm a82 l82 c82 k82, List.forall_mem_cons.2 ⟨here83 X Gm a83 l83 c83 k83, List.forall_mem_cons.2 ⟨here84 X Gm a84 l84 c84 k84, List.forall_mem_cons.2 ⟨here85 X Gm a85 l85 c85 k85, List.forall_mem_cons.2 ⟨here86 X Gm a86 l86 c86 k86, List.forall_mem_cons.2 ⟨here87 X Gm a87 l87 c87 k87, List.forall_mem_cons.2 ⟨here88 X Gm a88 l88 c88 k88, List.forall_mem_cons.2 ⟨here89 X Gm a89 l89 c89 k89, List.forall_mem_cons.2 ⟨here12 X Gm a12 l12 c12 k12, List.forall_mem_cons.2 ⟨here30 X Gm a30 l30 c30 k30, List.forall_mem_cons.2 ⟨here90 X Gm a90 l90 c90 k90, List.forall_mem_cons.2 ⟨here91 X Gm a91 l91 c91 k91, List.forall_mem_cons.2 ⟨here92 X Gm a92 l92 c92 k92, List.forall_mem_cons.2 ⟨here93 X Gm a93 l93 c93 k93, List.forall_mem_cons.2 ⟨here94 X Gm a94 l94 c94 k94, List.forall_mem_cons.2 ⟨here95 X Gm a95 l95 c95 k95, (fun _ hn => absurd hn List.not_mem_nil)⟩⟩⟩⟩⟩⟩⟩⟩⟩⟩⟩⟩⟩⟩⟩⟩⟩⟩⟩⟩⟩⟩⟩⟩⟩⟩⟩⟩⟩⟩⟩⟩⟩⟩⟩⟩⟩⟩⟩⟩⟩⟩⟩⟩⟩⟩⟩⟩⟩⟩⟩⟩⟩⟩⟩⟩⟩⟩⟩⟩
    · have hm := Tm.mem_of_lookup hl
      simp only [G, List.mem_cons, List.not_mem_nil, or_false, Prod.mk.injEq] at hm
      rcases hm with ⟨rfl, rfl⟩ | ⟨rfl, rfl⟩ | ⟨rfl, rfl⟩ | ⟨rfl, rfl⟩ | ⟨rfl, rfl⟩
      · exact ⟨_, .ref ac3, PySem.W.mg_of X Gm ca3, rfl, cr3⟩
      · exact ⟨_, .ref ac4, PySem.W.mg_of X Gm ca4, rfl, cr4⟩
      · exact ⟨_, .ref ac5, PySem.W.mg_of X Gm ca5, rfl, cr5⟩
      · exact ⟨_, .ref f885, PySem.W.mg_of X Gm a885, rfl, fun _ _ => .fn a885⟩
      · exact ⟨_, .ref f73, PySem.W.mg_of X Gm a73, rfl, fun _ _ => .fn a73⟩
    · have hm := Tm.mem_of_lookup hl
      simp only [G, List.mem_cons, List.not_mem_nil, or_false, Prod.mk.injEq] at hm
      rcases hm with ⟨rfl, rfl⟩ | ⟨rfl, rfl⟩ | ⟨rfl, rfl⟩
      · exact dict_here X Gm da1 dl1 lit1 low1 dm1
      · exact dict_here X Gm da0 dl0 lit0 low0 dm0
      · exact dict_here X Gm da2 dl2 lit2 low2 dm2
    · have hm : x ∈ G.blt := by simpa using hx
      simp only [G, List.mem_cons, List.not_mem_nil, or_false] at hm
      rcases hm with rfl | rfl | rfl | rfl | rfl | rfl | rfl | rfl | rfl | rfl | rfl | rfl | rfl | rfl | rfl
      · exact PySem.W.mg_none_of X Gm z0
      · exact PySem.W.mg_none_of X Gm z1
      · exact PySem.W.mg_none_of X Gm z2
      · exact PySem.W.mg_none_of X Gm z3
      · exact PySem.W.mg_none_of X Gm z4
      · exact PySem.W.mg_none_of X Gm z5
      · exact PySem.W.mg_none_of X Gm z6
      · exact PySem.W.mg_none_of X Gm z7
      · exact PySem.W.mg_none_of X Gm z8
      · exact PySem.W.mg_none_of X Gm z9
      · exact PySem.W.mg_none_of X Gm z10
      · exact PySem.W.mg_none_of X Gm z11
      · exact PySem.W.mg_none_of X Gm z12
      · exact PySem.W.mg_none_of X Gm z13
      · exact PySem.W.mg_none_of X Gm z14
    · have hm := Tm.mem_of_lookup (l := [("is_plain_let", 885), ("after_step", 73)]) hx
      simp only [List.mem_cons, List.not_mem_nil, or_false, Prod.mk.injEq] at hm
      rcases hm with ⟨rfl, rfl⟩ | ⟨rfl, rfl⟩
      · exact ⟨_, by rfl⟩
      · exact ⟨_, by rfl⟩
  exact ⟨_, fun s v => .of_eq rfl, fun W k base _ _ => law_fng T (fun_mk (st := s95) l95 c95 k95) sc95 (by rw [bq95]; rfl) W k⟩
end K05

open PySem PySem.W PyProof.Rows in
set_option maxRecDepth 100000 in
set_option maxHeartbeats 0 in
theorem PySem.Challenge.cw_touchroad_k05_plain_steps_one_by_one_holds : PySem.Challenge.rw_touchroad_k05_plain_steps_one_by_one.Holds := by
  w_on; o_law; k_head; (case hw => w_witness2)
  k_fill
  refine Tm.walk_M (l := PySem.Challenge.rw_touchroad_k05_plain_steps_one_by_one) (q := Tm.prK05) (f := 95) rfl rfl (fun w h Y => PySem.W.kIn_of Y) ?F (fun ns h => Tm.law_run ns h)
  case F =>
    intro w mg fa h KX G hmg
    refine' K05.all_mk KX G hmg ?a15 ?l15 ?c15 ?k15 ?a16 ?l16 ?c16 ?k16 ?a17 ?l17 ?c17 ?k17 ?a18 ?l18 ?c18 ?k18 ?a19 ?l19 ?c19 ?k19 ?a40 ?l40 ?c40 ?k40 ?a56 ?l56 ?c56 ?k56 ?a20 ?l20 ?c20 ?k20 ?a21 ?l21 ?c21 ?k21 ?a22 ?l22 ?c22 ?k22 ?a24 ?l24 ?c24 ?k24 ?a0 ?l0 ?c0 ?k0 ?a2 ?l2 ?c2 ?k2 ?a3 ?l3 ?c3 ?k3 ?a57 ?l57 ?c57 ?k57 ?a58 ?l58 ?c58 ?k58 ?a59 ?l59 ?c59 ?k59 ?a60 ?l60 ?c60 ?k60 ?a61 ?l61 ?c61 ?k61 ?a62 ?l62 ?c62 ?k62 ?a63 ?l63 ?c63 ?k63 ?a64 ?l64 ?c64 ?k64 ?a65 ?l65 ?c65 ?k65 ?a884 ?l884 ?c884 ?k884 ?a67 ?l67 ?c67 ?k67 ?a68 ?l68 ?c68 ?k68 ?a69 ?l69 ?c69 ?k69 ?a70 ?l70 ?c70 ?k70 ?a71 ?l71 ?c71 ?k71 ?a885 ?l885 ?c885 ?k885 ?a73 ?l73 ?c73 ?k73 ?a886 ?l886 ?c886 ?k886 ?a74 ?l74 ?c74 ?k74 ?a75 ?l75 ?c75 ?k75 ?a887 ?l887 ?c887 ?k887 ?a77 ?l77 ?c77 ?k77 ?a78 ?l78 ?c78 ?k78 ?a4 ?l4 ?c4 ?k4 ?a5 ?l5 ?c5 ?k5 ?a6 ?l6 ?c6 ?k6 ?a7 ?l7 ?c7 ?k7 ?a79 ?l79 ?c79 ?k79 ?a80 ?l80 ?c80 ?k80 ?a81 ?l81 ?c81 ?k81 ?a82 ?l82 ?c82 ?k82 ?a83 ?l83 ?c83 ?k83 ?a84 ?l84 ?c84 ?k84 ?a85 ?l85 ?c85 ?k85 ?a86 ?l86 ?c86 ?k86 ?a87 ?l87 ?c87 ?k87 ?a88 ?l88 ?c88 ?k88 ?a89 ?l89 ?c89 ?k89 ?a12 ?l12 ?c12 ?k12 ?a30 ?l30 ?c30 ?k30 ?a90 ?l90 ?c90 ?k90 ?a91 ?l91 ?c91 ?k91 ?a92 ?l92 ?c92 ?k92 ?a93 ?l93 ?c93 ?k93 ?a94 ?l94 ?c94 ?k94 ?a95 ?l95 ?c95 ?k95 ?da1 ?dl1 ?lit1 ?low1 ?dm1 ?da0 ?dl0 ?lit0 ?low0 ?dm0 ?da2 ?dl2 ?lit2 ?low2 ?dm2 ?ca3 ?cr3 ?ca4 ?cr4 ?ca5 ?cr5 ?z0 ?z1 ?z2 ?z3 ?z4 ?z5 ?z6 ?z7 ?z8 ?z9 ?z10 ?z11 ?z12 ?z13 ?z14
    (case a15 => k_is)
    (case l15 => k_is)
    (case c15 => k_is)
    (case k15 => k_is)
    (case a16 => k_is)
    (case l16 => k_is)
    (case c16 => k_is)
    (case k16 => k_is)
    (case a17 => k_is)
    (case l17 => k_is)
    (case c17 => k_is)
    (case k17 => k_is)
    (case a18 => k_is)
    (case l18 => k_is)
    (case c18 => k_is)
    (case k18 => k_is)
    (case a19 => k_is)
    (case l19 => k_is)
    (case c19 => k_is)
    (case k19 => k_is)
    (case a40 => k_is)
    (case l40 => k_is)
    (case c40 => k_is)
    (case k40 => k_is)
    (case a56 => k_is)
    (case l56 => k_is)
    (case c56 => k_is)
    (case k56 => k_is)
    (case a20 => k_is)
    (case l20 => k_is)
    (case c20 => k_is)
    (case k20 => k_is)
    (case a21 => k_is)
    (case l21 => k_is)
    (case c21 => k_is)
    (case k21 => k_is)
    (case a22 => k_is)
    (case l22 => k_is)
    (case c22 => k_is)
    (case k22 => k_is)
    (case a24 => k_is)
    (case l24 => k_is)
    (case c24 => k_is)
    (case k24 => k_is)
    (case a0 => k_is)
    (case l0 => k_is)
    (case c0 => k_is)
    (case k0 => k_is)
    (case a2 => k_is)
    (case l2 => k_is)
    (case c2 => k_is)
    (case k2 => k_is)
    (case a3 => k_is)
    (case l3 => k_is)
    (case c3 => k_is)
    (case k3 => k_is)
    (case a57 => k_is)
    (case l57 => k_is)
    (case c57 => k_is)
    (case k57 => k_is)
    (case a58 => k_is)
    (case l58 => k_is)
    (case c58 => k_is)
    (case k58 => k_is)
    (case a59 => k_is)
    (case l59 => k_is)
    (case c59 => k_is)
    (case k59 => k_is)
    (case a60 => k_is)
    (case l60 => k_is)
    (case c60 => k_is)
    (case k60 => k_is)
    (case a61 => k_is)
    (case l61 => k_is)
    (case c61 => k_is)
    (case k61 => k_is)
    (case a62 => k_is)
    (case l62 => k_is)
    (case c62 => k_is)
    (case k62 => k_is)
    (case a63 => k_is)
    (case l63 => k_is)
    (case c63 => k_is)
    (case k63 => k_is)
    (case a64 => k_is)
    (case l64 => k_is)
    (case c64 => k_is)
    (case k64 => k_is)
    (case a65 => k_is)
    (case l65 => k_is)
    (case c65 => k_is)
    (case k65 => k_is)
    (case a884 => k_is)
    (case l884 => k_is)
    (case c884 => k_is)
    (case k884 => k_is)
    (case a67 => k_is)
    (case l67 => k_is)
    (case c67 => k_is)
    (case k67 => k_is)
    (case a68 => k_is)
    (case l68 => k_is)
    (case c68 => k_is)
    (case k68 => k_is)
    (case a69 => k_is)
    (case l69 => k_is)
    (case c69 => k_is)
    (case k69 => k_is)
    (case a70 => k_is)
    (case l70 => k_is)
    (case c70 => k_is)
    (case k70 => k_is)
    (case a71 => k_is)
    (case l71 => k_is)
    (case c71 => k_is)
    (case k71 => k_is)
    (case a885 => k_is)
    (case l885 => k_is)
    (case c885 => k_is)
    (case k885 => k_is)
    (case a73 => k_is)
    (case l73 => k_is)
    (case c73 => k_is)
    (case k73 => k_is)
    (case a886 => k_is)
    (case l886 => k_is)
    (case c886 => k_is)
    (case k886 => k_is)
    (case a74 => k_is)
    (case l74 => k_is)
    (case c74 => k_is)
    (case k74 => k_is)
    (case a75 => k_is)
    (case l75 => k_is)
    (case c75 => k_is)
    (case k75 => k_is)
    (case a887 => k_is)
    (case l887 => k_is)
    (case c887 => k_is)
    (case k887 => k_is)
    (case a77 => k_is)
    (case l77 => k_is)
    (case c77 => k_is)
    (case k77 => k_is)
    (case a78 => k_is)
    (case l78 => k_is)
    (case c78 => k_is)
    (case k78 => k_is)
    (case a4 => k_is)
    (case l4 => k_is)
    (case c4 => k_is)
    (case k4 => k_is)
    (case a5 => k_is)
    (case l5 => k_is)
    (case c5 => k_is)
    (case k5 => k_is)
    (case a6 => k_is)
    (case l6 => k_is)
    (case c6 => k_is)
    (case k6 => k_is)
    (case a7 => k_is)
    (case l7 => k_is)
    (case c7 => k_is)
    (case k7 => k_is)
    (case a79 => k_is)
    (case l79 => k_is)
    (case c79 => k_is)
    (case k79 => k_is)
    (case a80 => k_is)
    (case l80 => k_is)
    (case c80 => k_is)
    (case k80 => k_is)
    (case a81 => k_is)
    (case l81 => k_is)
    (case c81 => k_is)
    (case k81 => k_is)
    (case a82 => k_is)
    (case l82 => k_is)
    (case c82 => k_is)
    (case k82 => k_is)
    (case a83 => k_is)
    (case l83 => k_is)
    (case c83 => k_is)
    (case k83 => k_is)
    (case a84 => k_is)
    (case l84 => k_is)
    (case c84 => k_is)
    (case k84 => k_is)
    (case a85 => k_is)
    (case l85 => k_is)
    (case c85 => k_is)
    (case k85 => k_is)
    (case a86 => k_is)
    (case l86 => k_is)
    (case c86 => k_is)
    (case k86 => k_is)
    (case a87 => k_is)
    (case l87 => k_is)
    (case c87 => k_is)
    (case k87 => k_is)
    (case a88 => k_is)
    (case l88 => k_is)
    (case c88 => k_is)
    (case k88 => k_is)
    (case a89 => k_is)
    (case l89 => k_is)
    (case c89 => k_is)
    (case k89 => k_is)
    (case a12 => k_is)
    (case l12 => k_is)
    (case c12 => k_is)
    (case k12 => k_is)
    (case a30 => k_is)
    (case l30 => k_is)
    (case c30 => k_is)
    (case k30 => k_is)
    (case a90 => k_is)
    (case l90 => k_is)
    (case c90 => k_is)
    (case k90 => k_is)
    (case a91 => k_is)
    (case l91 => k_is)
    (case c91 => k_is)
    (case k91 => k_is)
    (case a92 => k_is)
    (case l92 => k_is)
    (case c92 => k_is)
    (case k92 => k_is)
    (case a93 => k_is)
    (case l93 => k_is)
    (case c93 => k_is)
    (case k93 => k_is)
    (case a94 => k_is)
    (case l94 => k_is)
    (case c94 => k_is)
    (case k94 => k_is)
    (case a95 => k_is)
    (case l95 => k_is)
    (case c95 => k_is)
    (case k95 => k_is)
    (case da1 => k_is)
    (case dl1 => k_is)
    (case lit1 => exact He.keysLit_of (ks := ["set", "add", "sub", "and", "xor", "below", "load", "store", "swap", "addto", "fence", "gap", "ifzero", "jump", "stop"]) rfl)
    (case low1 => rfl)
    (case dm1 =>
      refine' .cons (tok := none) ⟨_, rfl⟩ (v := L2.V.str "rw") ⟨_, rfl⟩ (fun _ _ => Tm.Rep.str "rw") (.cons (tok := none) ⟨_, rfl⟩ (v := L2.V.str "rrr") ⟨_, rfl⟩ (fun _ _ => Tm.Rep.str "rrr") (.cons (tok := none) ⟨_, rfl⟩ (v := L2.V.str "rrr") ⟨_, rfl⟩ (fun _ _ => Tm.Rep.str "rrr") (.cons (tok := none) ⟨_, rfl⟩ (v := L2.V.str "rrr") ⟨_, rfl⟩ (fun _ _ => Tm.Rep.str "rrr") (.cons (tok := none) ⟨_, rfl⟩ (v := L2.V.str "rrr") ⟨_, rfl⟩ (fun _ _ => Tm.Rep.str "rrr") (.cons (tok := none) ⟨_, rfl⟩ (v := L2.V.str "rrr") ⟨_, rfl⟩ (fun _ _ => Tm.Rep.str "rrr") (.cons (tok := none) ⟨_, rfl⟩ (v := L2.V.str "rrw") ⟨_, rfl⟩ (fun _ _ => Tm.Rep.str "rrw") (.cons (tok := none) ⟨_, rfl⟩ (v := L2.V.str "rrw") ⟨_, rfl⟩ (fun _ _ => Tm.Rep.str "rrw") (.cons (tok := none) ⟨_, rfl⟩ (v := L2.V.str "rrrw") ⟨_, rfl⟩ (fun _ _ => Tm.Rep.str "rrrw") (.cons (tok := none) ⟨_, rfl⟩ (v := L2.V.str "rrrw") ⟨_, rfl⟩ (fun _ _ => Tm.Rep.str "rrrw") (.cons (tok := none) ⟨_, rfl⟩ (v := L2.V.str "") ⟨_, rfl⟩ (fun _ _ => Tm.Rep.str "") (.cons (tok := none) ⟨_, rfl⟩ (v := L2.V.str "") ⟨_, rfl⟩ (fun _ _ => Tm.Rep.str "") (.cons (tok := none) ⟨_, rfl⟩ (v := L2.V.str "rt") ⟨_, rfl⟩ (fun _ _ => Tm.Rep.str "rt") (.cons (tok := none) ⟨_, rfl⟩ (v := L2.V.str "t") ⟨_, rfl⟩ (fun _ _ => Tm.Rep.str "t") (.cons (tok := none) ⟨_, rfl⟩ (v := L2.V.str "") ⟨_, rfl⟩ (fun _ _ => Tm.Rep.str "") (.nil))))))))))))))))
    (case da0 => k_is)
    (case dl0 => k_is)
    (case lit0 => exact He.keysLit_of (ks := ["add", "sub", "and", "xor", "below", "load", "store", "swap", "addto", "ifzero"]) rfl)
    (case low0 => rfl)
    (case dm0 =>
      refine' .cons (tok := none) ⟨_, rfl⟩ (v := L2.V.ref _) rfl (Tm.tup_here (xs := [L2.V.int 2, L2.V.int 3]) ?tdm0_0 ?tdm0_0c ?tdm0_0s ?tdm0_0v (fun _ _ => (.cons (Tm.Rep.int 2) (.cons (Tm.Rep.int 3) .nil)))) (.cons (tok := none) ⟨_, rfl⟩ (v := L2.V.ref _) rfl (Tm.tup_here (xs := [L2.V.int 2, L2.V.int 3]) ?tdm0_1 ?tdm0_1c ?tdm0_1s ?tdm0_1v (fun _ _ => (.cons (Tm.Rep.int 2) (.cons (Tm.Rep.int 3) .nil)))) (.cons (tok := none) ⟨_, rfl⟩ (v := L2.V.ref _) rfl (Tm.tup_here (xs := [L2.V.int 2, L2.V.int 3]) ?tdm0_2 ?tdm0_2c ?tdm0_2s ?tdm0_2v (fun _ _ => (.cons (Tm.Rep.int 2) (.cons (Tm.Rep.int 3) .nil)))) (.cons (tok := none) ⟨_, rfl⟩ (v := L2.V.ref _) rfl (Tm.tup_here (xs := [L2.V.int 2, L2.V.int 3]) ?tdm0_3 ?tdm0_3c ?tdm0_3s ?tdm0_3v (fun _ _ => (.cons (Tm.Rep.int 2) (.cons (Tm.Rep.int 3) .nil)))) (.cons (tok := none) ⟨_, rfl⟩ (v := L2.V.ref _) rfl (Tm.tup_here (xs := [L2.V.int 2, L2.V.int 3]) ?tdm0_4 ?tdm0_4c ?tdm0_4s ?tdm0_4v (fun _ _ => (.cons (Tm.Rep.int 2) (.cons (Tm.Rep.int 3) .nil)))) (.cons (tok := none) ⟨_, rfl⟩ (v := L2.V.ref _) rfl (Tm.tup_here (xs := [L2.V.int 2]) ?tdm0_5 ?tdm0_5c ?tdm0_5s ?tdm0_5v (fun _ _ => (.cons (Tm.Rep.int 2) .nil))) (.cons (tok := none) ⟨_, rfl⟩ (v := L2.V.ref _) rfl (Tm.tup_here (xs := [L2.V.int 1, L2.V.int 2]) ?tdm0_6 ?tdm0_6c ?tdm0_6s ?tdm0_6v (fun _ _ => (.cons (Tm.Rep.int 1) (.cons (Tm.Rep.int 2) .nil)))) (.cons (tok := none) ⟨_, rfl⟩ (v := L2.V.ref _) rfl (Tm.tup_here (xs := [L2.V.int 2, L2.V.int 3]) ?tdm0_7 ?tdm0_7c ?tdm0_7s ?tdm0_7v (fun _ _ => (.cons (Tm.Rep.int 2) (.cons (Tm.Rep.int 3) .nil)))) (.cons (tok := none) ⟨_, rfl⟩ (v := L2.V.ref _) rfl (Tm.tup_here (xs := [L2.V.int 2, L2.V.int 3]) ?tdm0_8 ?tdm0_8c ?tdm0_8s ?tdm0_8v (fun _ _ => (.cons (Tm.Rep.int 2) (.cons (Tm.Rep.int 3) .nil)))) (.cons (tok := none) ⟨_, rfl⟩ (v := L2.V.ref _) rfl (Tm.tup_here (xs := [L2.V.int 1]) ?tdm0_9 ?tdm0_9c ?tdm0_9s ?tdm0_9v (fun _ _ => (.cons (Tm.Rep.int 1) .nil))) (.nil))))))))))
      (case tdm0_0 => k_is)
      (case tdm0_0c => rfl)
      (case tdm0_0s => exact Nat.le_of_ble_eq_true rfl)
      (case tdm0_0v => exact (.cons ⟨_, rfl⟩ (.cons ⟨_, rfl⟩ .nil)))
      (case tdm0_1 => k_is)
      (case tdm0_1c => rfl)
      (case tdm0_1s => exact Nat.le_of_ble_eq_true rfl)
      (case tdm0_1v => exact (.cons ⟨_, rfl⟩ (.cons ⟨_, rfl⟩ .nil)))
      (case tdm0_2 => k_is)
      (case tdm0_2c => rfl)
      (case tdm0_2s => exact Nat.le_of_ble_eq_true rfl)
      (case tdm0_2v => exact (.cons ⟨_, rfl⟩ (.cons ⟨_, rfl⟩ .nil)))
      (case tdm0_3 => k_is)
      (case tdm0_3c => rfl)
      (case tdm0_3s => exact Nat.le_of_ble_eq_true rfl)
      (case tdm0_3v => exact (.cons ⟨_, rfl⟩ (.cons ⟨_, rfl⟩ .nil)))
      (case tdm0_4 => k_is)
      (case tdm0_4c => rfl)
      (case tdm0_4s => exact Nat.le_of_ble_eq_true rfl)
      (case tdm0_4v => exact (.cons ⟨_, rfl⟩ (.cons ⟨_, rfl⟩ .nil)))
      (case tdm0_5 => k_is)
      (case tdm0_5c => rfl)
      (case tdm0_5s => exact Nat.le_of_ble_eq_true rfl)
      (case tdm0_5v => exact (.cons ⟨_, rfl⟩ .nil))
      (case tdm0_6 => k_is)
      (case tdm0_6c => rfl)
      (case tdm0_6s => exact Nat.le_of_ble_eq_true rfl)
      (case tdm0_6v => exact (.cons ⟨_, rfl⟩ (.cons ⟨_, rfl⟩ .nil)))
      (case tdm0_7 => k_is)
      (case tdm0_7c => rfl)
      (case tdm0_7s => exact Nat.le_of_ble_eq_true rfl)
      (case tdm0_7v => exact (.cons ⟨_, rfl⟩ (.cons ⟨_, rfl⟩ .nil)))
      (case tdm0_8 => k_is)
      (case tdm0_8c => rfl)
      (case tdm0_8s => exact Nat.le_of_ble_eq_true rfl)
      (case tdm0_8v => exact (.cons ⟨_, rfl⟩ (.cons ⟨_, rfl⟩ .nil)))
      (case tdm0_9 => k_is)
      (case tdm0_9c => rfl)
      (case tdm0_9s => exact Nat.le_of_ble_eq_true rfl)
      (case tdm0_9v => exact (.cons ⟨_, rfl⟩ .nil)))
    (case da2 => k_is)
    (case dl2 => k_is)
    (case lit2 => exact He.keysLit_of (ks := ["r", "w"]) rfl)
    (case low2 => rfl)
    (case dm2 =>
      refine' .cons (tok := none) ⟨_, rfl⟩ (v := L2.V.int 7) ⟨_, rfl⟩ (fun _ _ => Tm.Rep.int 7) (.cons (tok := none) ⟨_, rfl⟩ (v := L2.V.int 65535) ⟨_, rfl⟩ (fun _ _ => Tm.Rep.int 65535) (.nil)))
    (case ca3 => k_is)
    (case cr3 =>
      refine' (Tm.tup_here (xs := [L2.V.str "add", L2.V.str "sub", L2.V.str "and", L2.V.str "xor", L2.V.str "below"]) ?tcr3 ?tcr3c ?tcr3s ?tcr3v (fun _ _ => (.cons (Tm.Rep.str "add") (.cons (Tm.Rep.str "sub") (.cons (Tm.Rep.str "and") (.cons (Tm.Rep.str "xor") (.cons (Tm.Rep.str "below") .nil)))))))
      (case tcr3 => k_is)
      (case tcr3c => rfl)
      (case tcr3s => exact Nat.le_of_ble_eq_true rfl)
      (case tcr3v => exact (.cons ⟨_, rfl⟩ (.cons ⟨_, rfl⟩ (.cons ⟨_, rfl⟩ (.cons ⟨_, rfl⟩ (.cons ⟨_, rfl⟩ .nil)))))))
    (case ca4 => k_is)
    (case cr4 =>
      refine' (Tm.tup_here (xs := [L2.V.int 0, L2.V.int 0, L2.V.int 0, L2.V.int 0, L2.V.int 0, L2.V.int 0, L2.V.int 0, L2.V.int 0]) ?tcr4 ?tcr4c ?tcr4s ?tcr4v (fun _ _ => (.cons (Tm.Rep.int 0) (.cons (Tm.Rep.int 0) (.cons (Tm.Rep.int 0) (.cons (Tm.Rep.int 0) (.cons (Tm.Rep.int 0) (.cons (Tm.Rep.int 0) (.cons (Tm.Rep.int 0) (.cons (Tm.Rep.int 0) .nil))))))))))
      (case tcr4 => k_is)
      (case tcr4c => rfl)
      (case tcr4s => exact Nat.le_of_ble_eq_true rfl)
      (case tcr4v => exact (.cons ⟨_, rfl⟩ (.cons ⟨_, rfl⟩ (.cons ⟨_, rfl⟩ (.cons ⟨_, rfl⟩ (.cons ⟨_, rfl⟩ (.cons ⟨_, rfl⟩ (.cons ⟨_, rfl⟩ (.cons ⟨_, rfl⟩ .nil))))))))))
    (case ca5 => k_is)
    (case cr5 =>
      refine' (Tm.tup_here (xs := [L2.V.str "fence", L2.V.str "swap", L2.V.str "addto"]) ?tcr5 ?tcr5c ?tcr5s ?tcr5v (fun _ _ => (.cons (Tm.Rep.str "fence") (.cons (Tm.Rep.str "swap") (.cons (Tm.Rep.str "addto") .nil)))))
      (case tcr5 => k_is)
      (case tcr5c => rfl)
      (case tcr5s => exact Nat.le_of_ble_eq_true rfl)
      (case tcr5v => exact (.cons ⟨_, rfl⟩ (.cons ⟨_, rfl⟩ (.cons ⟨_, rfl⟩ .nil)))))
    (case z0 => k_is)
    (case z1 => k_is)
    (case z2 => k_is)
    (case z3 => k_is)
    (case z4 => k_is)
    (case z5 => k_is)
    (case z6 => k_is)
    (case z7 => k_is)
    (case z8 => k_is)
    (case z9 => k_is)
    (case z10 => k_is)
    (case z11 => k_is)
    (case z12 => k_is)
    (case z13 => k_is)
    (case z14 => k_is)
