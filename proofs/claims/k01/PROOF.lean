import PyProof.Rows.All
import Wide.All
import OpenK.AllK
import Wide.FinOn
import HandS.ForMost
import HandS.Conv
import HandS.Wide
import HandS.WideMore
import HandS.TupAny
import HandS.TupMul
import HandS.Deep
import HandS.Style
import HandS.IsInst
import HandS.RaiseMore
import HandS.Defaults
import HandS.More
import HandS.Rev
import HandS.Zip
import HandS.TryOnly
import HandS.HeadHook3
import PySem.Challenge.RW_touchroad_k01_what_instructions_make
set_option Elab.async false
set_option linter.all false
set_option maxRecDepth 100000
namespace Tm
open PySem PySem.Spec PyProof.Rows L2

/-! ## values, the store -/
inductive D where
  | non | bl (b : Bool) | int (i : Int) | str (x : Str) | tup (ds : List D) | ref (n : Nat)
inductive O where
  | lst (xs : List D) | ro (xs : List D)
abbrev Store := List O
abbrev Env' := List (Option D)

mutual
def D.beq : D → D → Bool
  | .non, .non => true
  | .bl a, .bl b => a == b
  | .int i, .int j => decide (i = j)
  | .str x, .str y => decide (x = y)
  | .tup xs, .tup ys => D.beqs xs ys
  | .ref m, .ref n => Nat.beq m n
  | .non, .bl _ | .non, .int _ | .non, .str _ | .non, .tup _ | .non, .ref _ => false
  | .bl _, .non | .bl _, .int _ | .bl _, .str _ | .bl _, .tup _ | .bl _, .ref _ => false
  | .int _, .non | .int _, .bl _ | .int _, .str _ | .int _, .tup _ | .int _, .ref _ => false
  | .str _, .non | .str _, .bl _ | .str _, .int _ | .str _, .tup _ | .str _, .ref _ => false
  | .tup _, .non | .tup _, .bl _ | .tup _, .int _ | .tup _, .str _ | .tup _, .ref _ => false
  | .ref _, .non | .ref _, .bl _ | .ref _, .int _ | .ref _, .str _ | .ref _, .tup _ => false
def D.beqs : List D → List D → Bool
  | [], [] => true
  | x :: xs, y :: ys => D.beq x y && D.beqs xs ys
  | [], _ :: _ | _ :: _, [] => false
end
mutual
theorem D.beq_eq : ∀ a b : D, D.beq a b = true → a = b
  | .non, b, h => by cases b <;> simp [D.beq] at h <;> rfl
  | .bl a, b, h => by cases b <;> simp [D.beq] at h; rw [h]
  | .int i, b, h => by cases b <;> simp [D.beq] at h; rw [h]
  | .str i, b, h => by cases b <;> simp [D.beq] at h; rw [h]
  | .tup xs, b, h => by cases b <;> simp [D.beq] at h; rw [D.beqs_eq _ _ h]
  | .ref n, b, h => by cases b <;> simp [D.beq] at h; rw [h]
theorem D.beqs_eq : ∀ a b : List D, D.beqs a b = true → a = b
  | [], [], _ => rfl
  | x :: xs, y :: ys, h => by
    simp only [D.beqs, Bool.and_eq_true] at h
    rw [D.beq_eq x y h.1, D.beqs_eq xs ys h.2]
  | [], _ :: _, h => by simp [D.beqs] at h
  | _ :: _, [], h => by simp [D.beqs] at h
end
mutual
theorem D.beq_refl : ∀ a : D, D.beq a a = true
  | .non => rfl
  | .bl a => by simp [D.beq]
  | .int i => by simp [D.beq]
  | .str i => by simp [D.beq]
  | .tup xs => by simp only [D.beq]; exact D.beqs_refl xs
  | .ref n => by simp [D.beq]
theorem D.beqs_refl : ∀ a : List D, D.beqs a a = true
  | [] => rfl
  | x :: xs => by simp only [D.beqs, Bool.and_eq_true]; exact ⟨D.beq_refl x, D.beqs_refl xs⟩
end

/-- the data of a value, through the lists of the store to a depth -/
def listAt (S : Store) (n : Nat) : Option (List D) :=
  match S[n]? with
  | some (.lst xs) => some xs
  | some (.ro xs) => some xs
  | none => none
def mapO {α β : Type} (f : α → Option β) : List α → Option (List β)
  | [] => some []
  | x :: xs => (f x).bind fun y => (mapO f xs).map fun ys => y :: ys
mutual
def pdG (g : Nat → Option PyData) : D → Option PyData
  | .non => some .none
  | .bl b => some (.bool b)
  | .int i => some (.int i)
  | .str x => some (.str x)
  | .tup ds => (pdsG g ds).map .tuple
  | .ref n => g n
def pdsG (g : Nat → Option PyData) : List D → Option (List PyData)
  | [] => some []
  | d :: ds => (pdG g d).bind fun x => (pdsG g ds).map fun xs => x :: xs
end
def pdN (S : Store) : Nat → Nat → Option PyData
  | 0, _ => none
  | k + 1, n => (listAt S n).bind fun xs => (pdsG (pdN S k) xs).map .list
/-- lists within lists, to a depth of sixty -/
abbrev pd (S : Store) : D → Option PyData := pdG (pdN S 60)
abbrev pds (S : Store) : List D → Option (List PyData) := pdsG (pdN S 60)

/-! ## what stands for what -/
mutual
inductive Rep (K : PySem.W.Frag) (ρ : List Addr) (H : Hp) : V → D → Prop
  | non : Rep K ρ H .non .non
  | bl (b : Bool) : Rep K ρ H (.bl b) (.bl b)
  | int (i : Int) : Rep K ρ H (.int i) (.int i)
  | str (x : Str) : Rep K ρ H (.str x) (.str x)
  | tup {a : Addr} {vs : List V} {ds : List D} : SqT K H a vs → Reps K ρ H vs ds → Rep K ρ H (.ref a) (.tup ds)
  | ref {a : Addr} {n : Nat} : ρ[n]? = some a → Rep K ρ H (.ref a) (.ref n)
inductive Reps (K : PySem.W.Frag) (ρ : List Addr) (H : Hp) : List V → List D → Prop
  | nil : Reps K ρ H [] []
  | cons {v : V} {vs : List V} {d : D} {ds : List D} : Rep K ρ H v d → Reps K ρ H vs ds → Reps K ρ H (v :: vs) (d :: ds)
end
structure Gro (H H' : Hp) : Prop where
  tup : ∀ a xs, H a = some (.tup xs) → H' a = some (.tup xs)
  frz : ∀ a o u, H a = some (.frz o u) → H' a = some (.frz o u)
theorem Gro.refl (H : Hp) : Gro H H := ⟨fun _ _ h => h, fun _ _ _ h => h⟩
theorem Gro.trans {H H1 H2 : Hp} (a : Gro H H1) (b : Gro H1 H2) : Gro H H2 := ⟨fun x y h => b.tup x y (a.tup x y h), fun x y z h => b.frz x y z (a.frz x y z h)⟩
theorem Gro.new {H : Hp} {p : Addr} {o : HO} (h : H p = none) : Gro H (upd H p o) :=
  ⟨fun a xs e => by rw [upd_ne (ne_of_none e h)]; exact e, fun a o u e => by rw [upd_ne (ne_of_none e h)]; exact e⟩
theorem Gro.mut {H : Hp} {p : Addr} {xs : List V} {o : HO} (h : H p = some (.lst xs)) : Gro H (upd H p o) :=
  ⟨fun a ys e => by rw [upd_ne (ne_of e h (by intro z; cases z))]; exact e, fun a o u e => by rw [upd_ne (ne_of e h (by intro z; cases z))]; exact e⟩
theorem Gro.sqt {K : PySem.W.Frag} {H H' : Hp} {a : Addr} {xs : List V} (g : Gro H H') (h : SqT K H a xs) : SqT K H' a xs := by
  rcases h with (h | ⟨o, h⟩) | h
  · exact .inl (.inl (g.tup _ _ h))
  · exact .inl (.inr ⟨o, g.frz _ _ _ h⟩)
  · exact .inr h
def Pre (ρ ρ' : List Addr) : Prop := ∀ (n : Nat) (a : Addr), ρ[n]? = some a → ρ'[n]? = some a
theorem Pre.refl (ρ : List Addr) : Pre ρ ρ := fun _ _ h => h
theorem Pre.trans {a b c : List Addr} (h : Pre a b) (k : Pre b c) : Pre a c := fun n x e => k n x (h n x e)
theorem Pre.app (ρ : List Addr) (p : Addr) : Pre ρ (ρ ++ [p]) := fun n a e => by
  have := (List.getElem?_eq_some_iff.mp e).1
  rw [List.getElem?_append_left this]; exact e
section
variable {K : PySem.W.Frag} {ρ ρ' : List Addr} {H H' : Hp}
mutual
theorem Rep.mono (g : Gro H H') (q : Pre ρ ρ') : ∀ {v : V} {d : D}, Rep K ρ H v d → Rep K ρ' H' v d
  | _, _, .non => .non
  | _, _, .bl b => .bl b
  | _, _, .int i => .int i
  | _, _, .str x => .str x
  | _, _, .tup h r => .tup (g.sqt h) (Reps.mono g q r)
  | _, _, .ref h => .ref (q _ _ h)
theorem Reps.mono (g : Gro H H') (q : Pre ρ ρ') : ∀ {v : List V} {d : List D}, Reps K ρ H v d → Reps K ρ' H' v d
  | _, _, .nil => .nil
  | _, _, .cons h r => .cons (Rep.mono g q h) (Reps.mono g q r)
end
theorem Reps.length : ∀ {vs : List V} {ds : List D}, Reps K ρ H vs ds → vs.length = ds.length
  | _, _, .nil => rfl
  | _, _, .cons _ r => by simp [Reps.length r]
theorem Reps.get : ∀ {vs : List V} {ds : List D}, Reps K ρ H vs ds → ∀ {i : Nat} {d : D}, ds[i]? = some d → ∃ v, vs[i]? = some v ∧ Rep K ρ H v d
  | _, _, .nil, i, d, h => by simp at h
  | _, _, .cons r _, 0, d, h => by simp at h; subst h; exact ⟨_, rfl, r⟩
  | _, _, .cons _ t, i + 1, d, h => by
    obtain ⟨v, e, r⟩ := Reps.get t (i := i) (d := d) (by simpa using h)
    exact ⟨v, by simpa using e, r⟩
theorem Reps.get' : ∀ {vs : List V} {ds : List D}, Reps K ρ H vs ds → ∀ {i : Nat} {v : V}, vs[i]? = some v → ∃ d, ds[i]? = some d ∧ Rep K ρ H v d
  | _, _, .nil, i, d, h => by simp at h
  | _, _, .cons r _, 0, d, h => by simp at h; subst h; exact ⟨_, rfl, r⟩
  | _, _, .cons _ t, i + 1, d, h => by
    obtain ⟨v, e, r⟩ := Reps.get' t (i := i) (v := d) (by simpa using h)
    exact ⟨v, by simpa using e, r⟩
theorem Reps.append : ∀ {vs ws : List V} {ds es : List D}, Reps K ρ H vs ds → Reps K ρ H ws es → Reps K ρ H (vs ++ ws) (ds ++ es)
  | _, _, _, _, .nil, t => t
  | _, _, _, _, .cons r q, t => .cons r (Reps.append q t)
theorem Reps.take : ∀ {vs : List V} {ds : List D} (n : Nat), Reps K ρ H vs ds → Reps K ρ H (vs.take n) (ds.take n)
  | _, _, 0, _ => .nil
  | _, _, _ + 1, .nil => .nil
  | _, _, n + 1, .cons r t => .cons r (Reps.take n t)
theorem Reps.drop : ∀ {vs : List V} {ds : List D} (n : Nat), Reps K ρ H vs ds → Reps K ρ H (vs.drop n) (ds.drop n)
  | _, _, 0, r => r
  | _, _, _ + 1, .nil => .nil
  | _, _, n + 1, .cons _ t => Reps.drop n t
theorem Reps.set {v : V} {d : D} (r : Rep K ρ H v d) : ∀ {vs : List V} {ds : List D} (i : Nat), Reps K ρ H vs ds → Reps K ρ H (vs.set i v) (ds.set i d)
  | _, _, _, .nil => .nil
  | _, _, 0, .cons _ t => .cons r t
  | _, _, i + 1, .cons q t => .cons q (Reps.set r i t)
theorem Reps.flat {vs : List V} {ds : List D} (r : Reps K ρ H vs ds) : ∀ n : Nat, Reps K ρ H (List.replicate n vs).flatten (List.replicate n ds).flatten
  | 0 => .nil
  | n + 1 => by simp only [List.replicate_succ, List.flatten_cons]; exact r.append (r.flat n)
theorem rep_int {v : V} {i : Int} (h : Rep K ρ H v (.int i)) : v = .int i := by cases h; rfl
theorem rep_bl {v : V} {i : Bool} (h : Rep K ρ H v (.bl i)) : v = .bl i := by cases h; rfl
theorem rep_str {v : V} {i : Str} (h : Rep K ρ H v (.str i)) : v = .str i := by cases h; rfl
theorem rep_non {v : V} (h : Rep K ρ H v .non) : v = .non := by cases h; rfl
theorem rep_tup {v : V} {ds : List D} (h : Rep K ρ H v (.tup ds)) : ∃ a vs, v = .ref a ∧ SqT K H a vs ∧ Reps K ρ H vs ds := by
  cases h with | tup h r => exact ⟨_, _, rfl, h, r⟩
theorem rep_ref {v : V} {n : Nat} (h : Rep K ρ H v (.ref n)) : ∃ a, v = .ref a ∧ ρ[n]? = some a := by
  cases h with | ref h => exact ⟨_, rfl, h⟩
theorem reps_ints : ∀ (ns : List Int), Reps K ρ H (ns.map V.int) (ns.map D.int)
  | [] => .nil
  | n :: r => .cons (.int n) (reps_ints r)
end

/-- a list that nobody writes -/
def Fix (K : PySem.W.Frag) (H : Hp) (a : Addr) (vs : List V) : Prop := (∃ o, H a = some (.frz o (.lst vs))) ∨ SqL K (fun _ => none) a vs
theorem Fix.sql {K : PySem.W.Frag} {H : Hp} {a : Addr} {vs : List V} (h : Fix K H a vs) : SqL K H a vs := by
  rcases h with ⟨o, h⟩ | (h | ⟨o, h⟩) | h
  · exact .inl (.inr ⟨o, h⟩)
  · cases h
  · cases h
  · exact .inr h
theorem Fix.gro {K : PySem.W.Frag} {H H' : Hp} {a : Addr} {vs : List V} (g : Gro H H') (h : Fix K H a vs) : Fix K H' a vs := by
  rcases h with ⟨o, h⟩ | h
  · exact .inl ⟨o, g.frz _ _ _ h⟩
  · exact .inr h
def ObjR (K : PySem.W.Frag) (ρ : List Addr) (H : Hp) (a : Addr) : O → Prop
  | .lst xs => ∃ vs, H a = some (.lst vs) ∧ Reps K ρ H vs xs
  | .ro xs => ∃ vs, Fix K H a vs ∧ Reps K ρ H vs xs
def isMut (S : Store) (n : Nat) : Prop := ∃ xs, S[n]? = some (.lst xs)
structure Sim (K : PySem.W.Frag) (ρ : List Addr) (S : Store) (H : Hp) : Prop where
  len : ρ.length = S.length
  obj : ∀ (n : Nat) (o : O) (a : Addr), S[n]? = some o → ρ[n]? = some a → ObjR K ρ H a o
  inj : ∀ (m n : Nat) (a : Addr), ρ[m]? = some a → ρ[n]? = some a → isMut S m → isMut S n → m = n
section
variable {K : PySem.W.Frag} {ρ ρ' : List Addr} {H H' : Hp} {S : Store}
theorem Sim.at (h : Sim K ρ S H) {n : Nat} {o : O} (e : S[n]? = some o) : ∃ a, ρ[n]? = some a ∧ ObjR K ρ H a o := by
  have hn := (List.getElem?_eq_some_iff.mp e).1
  rw [← h.len] at hn
  exact ⟨ρ[n], by simp [hn], h.obj n o _ e (by simp [hn])⟩
theorem Sim.at' (h : Sim K ρ S H) {n : Nat} {a : Addr} (e : ρ[n]? = some a) : ∃ o, S[n]? = some o ∧ ObjR K ρ H a o := by
  have hn := (List.getElem?_eq_some_iff.mp e).1
  rw [h.len] at hn
  exact ⟨S[n], by simp [hn], h.obj n _ _ (by simp [hn]) e⟩
theorem Sim.list (h : Sim K ρ S H) {n : Nat} {xs : List D} {a : Addr} (e : listAt S n = some xs) (ea : ρ[n]? = some a) : ∃ vs, SqL K H a vs ∧ Reps K ρ H vs xs := by
  unfold listAt at e
  split at e
  · rename_i ys e1
    cases e
    obtain ⟨vs, h1, r⟩ := h.obj n _ a e1 ea
    exact ⟨vs, SqL.of h1, r⟩
  · rename_i ys e1
    cases e
    obtain ⟨vs, h1, r⟩ := h.obj n _ a e1 ea
    exact ⟨vs, h1.sql, r⟩
  · cases e
/-- a tuple is made -/
theorem Sim.tup (h : Sim K ρ S H) {p : Addr} {xs : List V} (hp : H p = none) : Sim K ρ S (upd H p (.tup xs)) := by
  refine ⟨h.len, fun n o a e ea => ?_, h.inj⟩
  have g : Gro H (upd H p (.tup xs)) := Gro.new hp
  have r := h.obj n o a e ea
  cases o with
  | lst ys =>
    obtain ⟨vs, h1, r⟩ := r
    exact ⟨vs, by rw [upd_ne (ne_of_none h1 hp)]; exact h1, r.mono g (Pre.refl ρ)⟩
  | ro ys =>
    obtain ⟨vs, h1, r⟩ := r
    exact ⟨vs, h1.gro g, r.mono g (Pre.refl ρ)⟩
/-- a list is made -/
theorem Sim.new (h : Sim K ρ S H) {p : Addr} {vs : List V} {xs : List D} (hp : H p = none) (r : Reps K ρ H vs xs) : Sim K (ρ ++ [p]) (S ++ [.lst xs]) (upd H p (.lst vs)) := by
  have g : Gro H (upd H p (.lst vs)) := Gro.new hp
  refine ⟨by simp [h.len], fun n o a e ea => ?_, fun m n a e1 e2 m1 m2 => ?_⟩
  · by_cases hn : n < S.length
    · rw [List.getElem?_append_left hn] at e
      rw [List.getElem?_append_left (by rw [h.len]; exact hn)] at ea
      have q := h.obj n o a e ea
      cases o with
      | lst ys =>
        obtain ⟨ws, h1, r⟩ := q
        exact ⟨ws, by rw [upd_ne (ne_of_none h1 hp)]; exact h1, r.mono g (Pre.app ρ p)⟩
      | ro ys =>
        obtain ⟨ws, h1, r⟩ := q
        exact ⟨ws, h1.gro g, r.mono g (Pre.app ρ p)⟩
    · have hl : n = S.length := by
        have := (List.getElem?_eq_some_iff.mp e).1
        simp at this; omega
      subst hl
      rw [List.getElem?_append_right (Nat.le_refl _)] at e
      rw [← h.len, List.getElem?_append_right (Nat.le_refl _)] at ea
      simp at e ea
      subst e; subst ea
      exact ⟨vs, upd_same, r.mono g (Pre.app ρ p)⟩
  · have old : ∀ {m : Nat}, m < S.length → (ρ ++ [p])[m]? = some a → isMut (S ++ [.lst xs]) m → ρ[m]? = some a ∧ isMut S m ∧ a ≠ p := by
      intro m hm e1 ⟨ys, m1⟩
      rw [List.getElem?_append_left (by rw [h.len]; exact hm)] at e1
      rw [List.getElem?_append_left hm] at m1
      obtain ⟨ws, h1, _⟩ := h.obj m _ a m1 e1
      exact ⟨e1, ⟨ys, m1⟩, ne_of_none h1 hp⟩
    have lim : ∀ {m : Nat}, (ρ ++ [p])[m]? = some a → m < S.length ∨ (m = S.length ∧ a = p) := by
      intro m e1
      by_cases hm : m < S.length
      · exact .inl hm
      · have := (List.getElem?_eq_some_iff.mp e1).1
        simp [h.len] at this
        have hm2 : m = S.length := by omega
        subst hm2
        rw [← h.len, List.getElem?_append_right (Nat.le_refl _)] at e1
        simp at e1
        exact .inr ⟨rfl, e1.symm⟩
    rcases lim e1 with k1 | ⟨k1, q1⟩
    · obtain ⟨a1, a2, a3⟩ := old k1 e1 m1
      rcases lim e2 with k2 | ⟨k2, q2⟩
      · obtain ⟨b1, b2, _⟩ := old k2 e2 m2
        exact h.inj m n a a1 b1 a2 b2
      · exact absurd q2 a3
    · rcases lim e2 with k2 | ⟨k2, q2⟩
      · obtain ⟨_, _, b3⟩ := old k2 e2 m2
        exact absurd q1 b3
      · rw [k1, k2]
/-- a list is changed -/
theorem Sim.put (h : Sim K ρ S H) {n : Nat} {p : Addr} {vs ws : List V} {xs ys : List D} (e : S[n]? = some (.lst xs)) (ep : ρ[n]? = some p) (hp : H p = some (.lst ws)) (r : Reps K ρ H vs ys) :
    Sim K ρ (S.set n (.lst ys)) (upd H p (.lst vs)) := by
  have g : Gro H (upd H p (.lst vs)) := Gro.mut hp
  have hn := (List.getElem?_eq_some_iff.mp e).1
  have mm : ∀ {m : Nat}, isMut (S.set n (.lst ys)) m → isMut S m := by
    intro m ⟨zs, hm⟩
    by_cases q : n = m
    · subst q; exact ⟨xs, e⟩
    · rw [List.getElem?_set_ne q] at hm; exact ⟨zs, hm⟩
  refine ⟨by simp [h.len], fun m o a em ea => ?_, fun m k a e1 e2 m1 m2 => h.inj m k a e1 e2 (mm m1) (mm m2)⟩
  by_cases q : n = m
  · subst q
    rw [List.getElem?_set_self hn] at em
    rw [ep] at ea
    cases ea; cases em
    exact ⟨vs, upd_same, r.mono g (Pre.refl ρ)⟩
  · rw [List.getElem?_set_ne q] at em
    have old := h.obj m o a em ea
    cases o with
    | lst zs =>
      obtain ⟨us, h1, r1⟩ := old
      have hne : a ≠ p := fun z => q (h.inj n m p ep (z ▸ ea) ⟨xs, e⟩ ⟨zs, em⟩)
      exact ⟨us, by rw [upd_ne hne]; exact h1, r1.mono g (Pre.refl ρ)⟩
    | ro zs =>
      obtain ⟨us, h1, r1⟩ := old
      exact ⟨us, h1.gro g, r1.mono g (Pre.refl ρ)⟩
end
end Tm

set_option Elab.async false
set_option linter.all false
set_option maxRecDepth 100000
namespace Tm
open PySem PySem.Spec PyProof.Rows L2

/-! ## the core: expressions, targets, statements -/
inductive Bin where
  | add | sub | mul | fdiv | mod | pow | shl | shr | band | bor | bxor
inductive Cmp where
  | eq | ne | lt | le | gt | ge | is_ | isn | in_ | nin
inductive Bi where
  | len | int | abs | max | min | tuple | list | str | repr | sum | all | any
inductive Ty where
  | int | str | tuple | list | bool | dict
inductive Tg where
  | bad | nm (i : Nat) | tp (n : Nat) (t : Tg) | nil | cons (a r : Tg)
inductive C where
  | bad
  | var (i : Nat)
  | lit (d : D)
  | glob (g : Nat)
  | nil | cons (a r : C)
  | tup (a : C) | lst (a : C)
  | bin (op : Bin) (a b : C)
  | neg (a : C)
  | cmp (op : Cmp) (a b : C)
  | chain (o1 o2 : Cmp) (a b c : C)
  | and_ (a b : C) | or_ (a b : C) | not_ (a : C)
  | ife (c a b : C)
  | idx (a b : C)
  | slc (a lo hi : C)
  | absent
  | kget (g : Nat) (a : C) | kin (g : Nat) (neg : Bool) (a : C) | kgetd (g : Nat) (a b : C)
  | call (f : Nat) (perm : List Nat) (a b : C)
  | bi (b : Bi) (a : C)
  | isty (a : C) (t : Ty)
  | app (a v : C)
  | lc (it : C) (t : Tg) (cond elt : C) (own : List Nat)
  | itv (a : C) | irng (a : C) | irev (a : C) | ienum (a : C) | izip (a b : C)
inductive St where
  | skip | bad
  | seq (a b : St)
  | asg (t : Tg) (c : C)
  | seti (v o i : C)
  | drop (c : C)
  | ret (c : C)
  | ifs (c : C) (a b : St)
  | for_ (it : C) (t : Tg) (b : St)
  | whl (c : C) (b : St)
  | brk | cont
inductive Fl where
  | nx | rt (d : D) | bk | ct
structure Pm where
  R : Nat → List D → Store → Option (D × Store)
  gl : Nat → D
  kd : Nat → List (Str × D)
  W : Nat

/-! ## operators -/
def okI (b : Bool) (d : D) (S : Store) : Option (D × Store) := if b = true then some (d, S) else none
def new (S : Store) (xs : List D) : D × Store := (.ref S.length, S ++ [.lst xs])
def binop : Bin → D → D → Store → Option (D × Store)
  | .add, .int i, .int j, S => some (.int (i + j), S)
  | .add, .str x, .str y, S => okI (decide (x.length + y.length ≤ sizeLine)) (.str (x ++ y)) S
  | .add, .tup xs, .tup ys, S => okI (decide (xs.length + ys.length ≤ sizeLine)) (.tup (xs ++ ys)) S
  | .add, .ref m, .ref n, S => match S[m]?, S[n]? with
    | some (.lst xs), some (.lst ys) => if xs.length + ys.length ≤ sizeLine then some (new S (xs ++ ys)) else none
    | _, _ => none
  | .sub, .int i, .int j, S => some (.int (i - j), S)
  | .mul, .int i, .int j, S => okI (decide (i.natAbs.log2 + j.natAbs.log2 < 1000000)) (.int (i * j)) S
  | .mul, .ref n, .int k, S => match S[n]? with
    | some (.lst xs) => if decide (-(2 ^ 63) ≤ k) && decide (k < 2 ^ 63) && decide (xs.length * k.toNat ≤ sizeLine) then some (new S (List.replicate k.toNat xs).flatten) else none
    | _ => none
  | .mul, .tup xs, .int k, S => okI (!xs.isEmpty && decide (2 ≤ k) && decide (k ≤ 1000) && decide (xs.length ≤ 1000)) (.tup (List.replicate k.toNat xs).flatten) S
  | .fdiv, .int i, .int j, S => okI (decide (0 < j) && decide (j.natAbs.log2 < 9000)) (.int (i / j)) S
  | .mod, .int i, .int j, S => okI (decide (0 < j)) (.int (i % j)) S
  | .pow, .int i, .int j, S => okI (decide (0 ≤ j) && decide (j ≤ 1000000) && decide (i.natAbs < 2 ^ 64)) (.int (i ^ j.toNat)) S
  | .shl, .int i, .int j, S => okI (decide (0 ≤ j) && decide (j ≤ 1000000) && decide (i.natAbs < 2 ^ 64)) (.int (i * 2 ^ j.toNat)) S
  | .shr, .int i, .int j, S => okI (decide (0 ≤ j)) (.int (i / 2 ^ j.toNat)) S
  | .band, .int i, .int j, S => some (.int (Builtin.bitAnd i j), S)
  | .bor, .int i, .int j, S => some (.int (Builtin.bitOr i j), S)
  | .bxor, .int i, .int j, S => some (.int (Builtin.bitXor i j), S)
  | _, _, _, _ => none
/-- equality: scalars at once, else by data -/
def eqD (S : Store) : D → D → Option Bool
  | .int i, .int j => some (decide (i = j))
  | .str x, .str y => some (decide (x = y))
  | .bl a, .bl b => some (decide (a = b))
  | .non, .non => some true
  | a, b => (pd S a).bind fun x => (pd S b).bind fun y => if SeqAt.shaped x && SeqAt.shaped y then some (PyData.eqv x y) else none
def isScal : D → Bool
  | .non | .bl _ | .int _ | .str _ => true
  | _ => false
def scEq : D → D → Bool
  | .non, .non => true
  | .bl a, .bl b => a == b
  | .int i, .int j => decide (i = j)
  | .str x, .str y => decide (x = y)
  | .bl a, .int j => decide ((if a then 1 else 0) = j)
  | .int i, .bl b => decide (i = (if b then 1 else 0))
  | _, _ => false
def inD (S : Store) (x : D) : D → Option Bool
  | .tup xs => if isScal x && xs.all isScal then some (xs.any fun y => scEq y x) else none
  | .ref n => (listAt S n).bind fun xs =>
    if isScal x && xs.all isScal then some (xs.any fun y => scEq y x)
    else (pd S x).bind fun d => (pds S xs).bind fun ds => if SeqAt.shaped d && SeqAt.shaped (.list ds) then some (ds.any fun z => PyData.eqv z d) else none
  | .str z => match x with
    | .str w => match w.cps.toList with
      | [c] => some (decide (c ∈ z.cps.toList))
      | _ => none
    | _ => none
  | _ => none
def cmpop : Cmp → D → D → Store → Option Bool
  | .eq, a, b, S => eqD S a b
  | .ne, a, b, S => (eqD S a b).map (!·)
  | .lt, .int i, .int j, _ => some (decide (i < j))
  | .le, .int i, .int j, _ => some (decide (i ≤ j))
  | .gt, .int i, .int j, _ => some (decide (j < i))
  | .ge, .int i, .int j, _ => some (decide (j ≤ i))
  | .is_, .non, .non, _ => some true
  | .is_, .bl _, .non, _ | .is_, .int _, .non, _ | .is_, .str _, .non, _ | .is_, .tup _, .non, _ | .is_, .ref _, .non, _ => some false
  | .isn, .non, .non, _ => some false
  | .isn, .bl _, .non, _ | .isn, .int _, .non, _ | .isn, .str _, .non, _ | .isn, .tup _, .non, _ | .isn, .ref _, .non, _ => some true
  | .is_, .bl a, .bl b, _ => some (decide (a = b))
  | .isn, .bl a, .bl b, _ => some (!decide (a = b))
  | .in_, a, b, S => inD S a b
  | .nin, a, b, S => (inD S a b).map (!·)
  | _, _, _, _ => none
def idxop : D → D → Store → Option D
  | .tup xs, .int i, _ => atI xs i
  | .ref n, .int i, S => (listAt S n).bind fun xs => atI xs i
  | .str z, .int i, _ => if z.length ≤ sizeLine then (atI z.cps.toList i).map fun c => .str ⟨#[c]⟩ else none
  | _, _, _ => none
def isAbs : C → Bool
  | .absent => true
  | _ => false
/-- a part of a slice: absent, or an int -/
def part (b : Bool) (S : Store) (r : Option (D × Store)) : Option (Option Int × Store) :=
  if b = true then some (none, S) else r.bind fun x => match x.1 with
    | .int i => some (some i, x.2)
    | _ => none
def cutD (xs : List D) (lo hi : Option Int) : List D := (xs.drop (HT.sIx xs.length 0 lo)).take (HT.sIx xs.length xs.length hi - HT.sIx xs.length 0 lo)
def slcop : D → Option Int → Option Int → Store → Option (D × Store)
  | .tup xs, lo, hi, S => some (.tup (cutD xs lo hi), S)
  | .ref n, lo, hi, S => (listAt S n).map fun xs => new S (cutD xs lo hi)
  | .str z, lo, hi, S => okI (decide (z.length ≤ sizeLine)) (.str (cutS z lo hi)) S
  | _, _, _, _ => none
def intsD : List D → Option (List Int)
  | [] => some []
  | .int i :: r => (intsD r).map fun s => i :: s
  | _ => none
def blsD : List D → Option (List Bool)
  | [] => some []
  | .bl i :: r => (blsD r).map fun s => i :: s
  | _ => none
def biop : Bi → List D → Store → Option (D × Store)
  | .len, [.tup xs], S => some (.int xs.length, S)
  | .len, [.ref n], S => (listAt S n).map fun xs => (.int xs.length, S)
  | .len, [.str z], S => okI (decide (z.length ≤ sizeLine)) (.int z.length) S
  | .int, [.int i], S => some (.int i, S)
  | .int, [.bl b], S => some (.int (if b then 1 else 0), S)
  | .int, [.str a], S => match PySem.intText? a with
    | some n => okI (decide (a.length ≤ 640)) (.int n) S
    | none => none
  | .abs, [.int i], S => some (.int (if i < 0 then -i else i), S)
  | .max, [.int i, .int j], S => some (.int (if j > i then j else i), S)
  | .min, [.int i, .int j], S => some (.int (if j < i then j else i), S)
  | .tuple, [.tup xs], S => some (.tup xs, S)
  | .tuple, [.ref n], S => (listAt S n).map fun xs => (.tup xs, S)
  | .list, [.tup xs], S => some (new S xs)
  | .list, [.ref n], S => (listAt S n).map fun xs => new S xs
  | .str, [.int i], S => okI (decide (i.natAbs.log2 < 1920)) (.str (toString i)) S
  | .repr, [d], S => (pd S d).bind fun x => if x.showable && decide (x.depth ≤ 64) && decide (x.shown.length ≤ sizeLine) then some (.str x.shown, S) else none
  | .sum, [.ref n], S => (listAt S n).bind fun xs => (intsD xs).map fun is => (.int is.sum, S)
  | .all, [.ref n], S => (listAt S n).bind fun xs => (blsD xs).map fun bs => (.bl (bs.all id), S)
  | .any, [.ref n], S => (listAt S n).bind fun xs => (blsD xs).map fun bs => (.bl (bs.any id), S)
  | _, _, _ => none
def tyop : D → Ty → Store → Option Bool
  | .non, _, _ => some false
  | .bl _, t, _ => some (match t with | .int | .bool => true | _ => false)
  | .int _, t, _ => some (match t with | .int => true | _ => false)
  | .str _, t, _ => some (match t with | .str => true | _ => false)
  | .tup _, t, _ => some (match t with | .tuple => true | _ => false)
  | .ref n, t, S => (listAt S n).map fun _ => match t with | .list => true | _ => false
def lookK (l : List (Str × D)) (x : Str) : Option D := l.lookup x
def pick {α : Type} (perm : List Nat) (l : List α) : List α := perm.filterMap fun i => l[i]?
def push (n : Nat) (d : D) (S : Store) : Option Store := match S[n]? with
  | some (.lst xs) => if xs.length < sizeLine then some (S.set n (.lst (xs ++ [d]))) else none
  | _ => none
def setS (o i v : D) (S : Store) : Option Store := match o, i with
  | .ref n, .int k => match S[n]? with
    | some (.lst xs) => (ixN xs.length k).map fun j => S.set n (.lst (xs.set j v))
    | _ => none
  | _, _ => none
mutual
def bindT : Tg → D → Store → Env' → Option Env'
  | .nm i, d, _, e => if i < e.length then some (e.set i (some d)) else none
  | .tp n t, .tup ds, S, e => if ds.length = n then bindTs t ds S e else none
  | .tp n t, .ref m, S, e => (listAt S m).bind fun ds => if ds.length = n then bindTs t ds S e else none
  | _, _, _, _ => none
def bindTs : Tg → List D → Store → Env' → Option Env'
  | .nil, [], _, e => some e
  | .cons a r, d :: ds, S, e => (bindT a d S e).bind fun e1 => bindTs r ds S e1
  | _, _, _, _ => none
end
def wipeE (e : Env') : List Nat → Env'
  | [] => e
  | v :: vs => (wipeE e vs).set v none

/-! ## what is walked: the items, and the lists that must stay as they are -/
def chk1 (S : Store) : D → Bool
  | .tup [.ref n, .tup xs] => match listAt S n with
    | some ys => D.beqs xs ys
    | none => false
  | _ => false
def chks (S : Store) : List D → Bool
  | [] => true
  | c :: r => chk1 S c && chks S r
def itD (items cks : List D) : D := .tup [.tup items, .tup cks]
def itOf (S : Store) : D → Option (List D × List D)
  | .tup xs => some (xs, [])
  | .ref n => (listAt S n).map fun xs => (xs, [.tup [.ref n, .tup xs]])
  | _ => none
def itOfL (S : Store) : D → Option (List D × List D)
  | .ref n => (listAt S n).map fun xs => (xs, [.tup [.ref n, .tup xs]])
  | _ => none
def rng (lo : Int) (n : Nat) : List D := (List.range n).map fun (i : Nat) => D.int (lo + (i : Int))
def rngs : List D → Option (List D)
  | [.int j] => if decide (-(2 ^ 62) ≤ j) && decide (j < 2 ^ 62) then some (rng 0 j.toNat) else none
  | [.int i, .int j] => if decide (-(2 ^ 62) ≤ i) && decide (i < 2 ^ 62) && decide (-(2 ^ 62) ≤ j) && decide (j < 2 ^ 62) then some (rng i (j - i).toNat) else none
  | _ => none
def enumF : Nat → List D → List D
  | _, [] => []
  | i, d :: ds => .tup [.int (i : Int), d] :: enumF (i + 1) ds
def zipF : List D → List D → List D
  | d :: ds, f :: fs => .tup [d, f] :: zipF ds fs
  | _, _ => []

def forL (bod : Env' → Store → Option (Fl × Env' × Store)) (t : Tg) (cks : List D) : List D → Env' → Store → Option (Fl × Env' × Store)
  | [], e, S => if chks S cks = true then some (.nx, e, S) else none
  | d :: ds, e, S => if chks S cks = true then
      (bindT t d S e).bind fun e1 => (bod e1 S).bind fun r => match r.1 with
        | .nx | .ct => forL bod t cks ds r.2.1 r.2.2
        | .bk => some (.nx, r.2.1, r.2.2)
        | .rt v => some (.rt v, r.2.1, r.2.2)
    else none
def lcL (cnd elt : Env' → Store → Option (D × Store)) (t : Tg) (cks : List D) (w : Env') (n : Nat) : List D → Store → Option Store
  | [], S => if chks S cks = true then some S else none
  | d :: ds, S => if chks S cks = true then
      (bindT t d S w).bind fun e1 => (cnd e1 S).bind fun b => match b.1 with
        | .bl true => (elt e1 b.2).bind fun y => (push n y.1 y.2).bind fun S' => lcL cnd elt t cks w n ds S'
        | .bl false => lcL cnd elt t cks w n ds b.2
        | _ => none
    else none
def whL (cnd : Env' → Store → Option (D × Store)) (bod : Env' → Store → Option (Fl × Env' × Store)) : Nat → Env' → Store → Option (Fl × Env' × Store)
  | 0, _, _ => none
  | k + 1, e, S => (cnd e S).bind fun b => match b.1 with
    | .bl true => (bod e b.2).bind fun r => match r.1 with
      | .nx | .ct => whL cnd bod k r.2.1 r.2.2
      | .bk => some (.nx, r.2.1, r.2.2)
      | .rt v => some (.rt v, r.2.1, r.2.2)
    | .bl false => some (.nx, e, b.2)
    | _ => none

/-! ## the machine -/
def ev (p : Pm) : C → Env' → Store → Option (D × Store)
  | .bad, _, _ => none
  | .absent, _, _ => none
  | .var i, e, S => match e[i]? with
    | some (some d) => some (d, S)
    | _ => none
  | .lit d, _, S => if isScal d then some (d, S) else none
  | .glob g, _, S => some (p.gl g, S)
  | .nil, _, S => some (.tup [], S)
  | .cons a r, e, S => (ev p a e S).bind fun x => (ev p r e x.2).bind fun y => match y.1 with
    | .tup ds => some (.tup (x.1 :: ds), y.2)
    | _ => none
  | .tup a, e, S => (ev p a e S).bind fun x => match x.1 with
    | .tup ds => okI (decide (ds.length ≤ sizeLine)) (.tup ds) x.2
    | _ => none
  | .lst a, e, S => (ev p a e S).bind fun x => match x.1 with
    | .tup ds => if ds.length ≤ sizeLine then some (new x.2 ds) else none
    | _ => none
  | .bin op a b, e, S => (ev p a e S).bind fun x => (ev p b e x.2).bind fun y => binop op x.1 y.1 y.2
  | .neg a, e, S => (ev p a e S).bind fun x => match x.1 with
    | .int i => some (.int (-i), x.2)
    | _ => none
  | .cmp op a b, e, S => (ev p a e S).bind fun x => (ev p b e x.2).bind fun y => (cmpop op x.1 y.1 y.2).map fun r => (.bl r, y.2)
  | .chain o1 o2 a b c, e, S => (ev p a e S).bind fun x => (ev p b e x.2).bind fun y => (cmpop o1 x.1 y.1 y.2).bind fun r =>
      if r = true then (ev p c e y.2).bind fun z => (cmpop o2 y.1 z.1 z.2).map fun q => (.bl q, z.2) else some (.bl false, y.2)
  | .and_ a b, e, S => (ev p a e S).bind fun x => match x.1 with
    | .bl true => ev p b e x.2
    | .bl false => some (.bl false, x.2)
    | _ => none
  | .or_ a b, e, S => (ev p a e S).bind fun x => match x.1 with
    | .bl true => some (.bl true, x.2)
    | .bl false => ev p b e x.2
    | _ => none
  | .not_ a, e, S => (ev p a e S).bind fun x => match x.1 with
    | .bl b => some (.bl (!b), x.2)
    | _ => none
  | .ife c a b, e, S => (ev p c e S).bind fun x => match x.1 with
    | .bl true => ev p a e x.2
    | .bl false => ev p b e x.2
    | _ => none
  | .idx a b, e, S => (ev p a e S).bind fun x => (ev p b e x.2).bind fun y => (idxop x.1 y.1 y.2).map fun d => (d, y.2)
  | .slc a lo hi, e, S => (ev p a e S).bind fun x => (part (isAbs lo) x.2 (ev p lo e x.2)).bind fun y => (part (isAbs hi) y.2 (ev p hi e y.2)).bind fun z =>
      slcop x.1 y.1 z.1 z.2
  | .kget g a, e, S => (ev p a e S).bind fun x => match x.1 with
    | .str z => (lookK (p.kd g) z).map fun d => (d, x.2)
    | _ => none
  | .kin g neg a, e, S => (ev p a e S).bind fun x => match x.1 with
    | .str z => some (.bl (if neg then !(lookK (p.kd g) z).isSome else (lookK (p.kd g) z).isSome), x.2)
    | _ => none
  | .kgetd g a b, e, S => (ev p a e S).bind fun x => (ev p b e x.2).bind fun y => match x.1 with
    | .str z => some ((lookK (p.kd g) z).getD y.1, y.2)
    | _ => none
  | .call f perm a b, e, S => (ev p a e S).bind fun x => (ev p b e x.2).bind fun y => match x.1, y.1 with
    | .tup ds, .tup fs => p.R f (pick perm (ds ++ fs)) y.2
    | _, _ => none
  | .bi b a, e, S => (ev p a e S).bind fun x => match x.1 with
    | .tup ds => biop b ds x.2
    | _ => none
  | .isty a t, e, S => (ev p a e S).bind fun x => (tyop x.1 t x.2).map fun b => (.bl b, x.2)
  | .app a v, e, S => (ev p a e S).bind fun x => (ev p v e x.2).bind fun y => match x.1 with
    | .ref n => (push n y.1 y.2).map fun S' => (.non, S')
    | _ => none
  | .itv a, e, S => (ev p a e S).bind fun x => (itOf x.2 x.1).map fun r => (itD r.1 r.2, x.2)
  | .irng a, e, S => (ev p a e S).bind fun x => match x.1 with
    | .tup ds => (rngs ds).map fun r => (itD r [], x.2)
    | _ => none
  | .irev a, e, S => (ev p a e S).bind fun x => (itOf x.2 x.1).map fun r => (itD r.1.reverse r.2, x.2)
  | .ienum a, e, S => (ev p a e S).bind fun x => (itOfL x.2 x.1).map fun r => (itD (enumF 0 r.1) r.2, x.2)
  | .izip a b, e, S => (ev p a e S).bind fun x => (ev p b e x.2).bind fun y => match x.1, y.1 with
    | .tup xs, .tup ys => some (itD (zipF xs ys) [], y.2)
    | .ref m, .ref n => (listAt y.2 m).bind fun xs => (listAt y.2 n).map fun ys => (itD (zipF xs ys) ([.tup [.ref m, .tup xs]] ++ [.tup [.ref n, .tup ys]]), y.2)
    | _, _ => none
  | .lc it t cond elt own, e, S => (ev p it e S).bind fun x => match x.1 with
    | .tup [.tup items, .tup cks] => (lcL (ev p cond) (ev p elt) t cks (wipeE e own) x.2.length items (x.2 ++ [.lst []])).map fun S' => (.ref x.2.length, S')
    | _ => none

def ex (p : Pm) : St → Env' → Store → Option (Fl × Env' × Store)
  | .skip, e, S => some (.nx, e, S)
  | .bad, _, _ => none
  | .seq a b, e, S => (ex p a e S).bind fun r => match r.1 with
    | .nx => ex p b r.2.1 r.2.2
    | f => some (f, r.2.1, r.2.2)
  | .asg t c, e, S => (ev p c e S).bind fun x => (bindT t x.1 x.2 e).map fun e1 => (.nx, e1, x.2)
  | .seti v o i, e, S => (ev p v e S).bind fun x => (ev p o e x.2).bind fun y => (ev p i e y.2).bind fun z => (setS y.1 z.1 x.1 z.2).map fun S' => (.nx, e, S')
  | .drop c, e, S => (ev p c e S).map fun x => (.nx, e, x.2)
  | .ret c, e, S => (ev p c e S).map fun x => (.rt x.1, e, x.2)
  | .ifs c a b, e, S => (ev p c e S).bind fun x => match x.1 with
    | .bl true => ex p a e x.2
    | .bl false => ex p b e x.2
    | _ => none
  | .for_ it t b, e, S => (ev p it e S).bind fun x => match x.1 with
    | .tup [.tup items, .tup cks] => forL (ex p b) t cks items e x.2
    | _ => none
  | .whl c b, e, S => whL (ev p c) (ex p b) p.W e S
  | .brk, e, S => some (.bk, e, S)
  | .cont, e, S => some (.ct, e, S)
end Tm

set_option Elab.async false
set_option linter.all false
set_option maxRecDepth 100000
namespace Tm
open PySem PySem.Spec PyProof.Rows L2

/-! ## from the text to the core -/
structure Gx where
  funs : List (Str × Nat × List Str)
  cons : List (Str × Nat)
  dics : List (Str × Nat)
  blt : List Str
  kws : List (Str × Nat × List Str × List Nat)
structure Cc where
  N : List Str
  names : List (Str × NameKind)
  own : Option (List (Str × NameKind))
  G : Gx
def Cc.fnOk (c : Cc) (x : Str) : Bool := match c.own with
  | none => true
  | some nm => nm.lookup x == some .cell || c.names.lookup x == some .local
def ixOf : List Str → Str → Option Nat
  | [], _ => none
  | y :: r, x => if y = x then some 0 else (ixOf r x).map (· + 1)
theorem ixOf_get : ∀ {l : List Str} {x : Str} {i : Nat}, ixOf l x = some i → l[i]? = some x
  | [], _, _, h => by simp [ixOf] at h
  | y :: r, x, i, h => by
    unfold ixOf at h
    split at h
    · rename_i e; cases h; simp [e]
    · cases e : ixOf r x with
      | none => rw [e] at h; simp at h
      | some j => rw [e] at h; simp at h; subst h; simpa using ixOf_get e
def badName (x : Str) : Bool := x == ("__debug__" : Str) || x == ("__classdict__" : Str) || x == ("__name__" : Str)
def visB (c : Cc) (x : Str) : Bool := match c.names.lookup x with
  | some .local | some .cell | some .free => true
  | _ => false
def locB (c : Cc) (x : Str) : Bool := (match c.names.lookup x with
  | some .local | some .cell => true
  | _ => false) && c.fnOk x
def glB (c : Cc) (x : Str) : Bool := match c.names.lookup x with
  | some .globalImplicit => !badName x
  | _ => false
/-- a built-in name that nothing hides -/
def bltB (c : Cc) (x : Str) : Bool := glB c x && c.G.blt.contains x
def cName (c : Cc) (x : Str) : C :=
  if badName x then .bad
  else if visB c x then (match ixOf c.N x with | some i => .var i | none => .bad)
  else if glB c x then (match c.G.cons.lookup x with | some g => .glob g | none => .bad)
  else .bad
def cConst : Const → C
  | .none => .lit .non
  | .bool b => .lit (.bl b)
  | .int i => .lit (.int i)
  | .str s => .lit (.str s)
  | _ => .bad
def cBin : Operator → Option Bin
  | .Add => some .add | .Sub => some .sub | .Mult => some .mul | .FloorDiv => some .fdiv | .Mod => some .mod | .Pow => some .pow
  | .LShift => some .shl | .RShift => some .shr | .BitAnd => some .band | .BitOr => some .bor | .BitXor => some .bxor
  | _ => none
def cCmp : CmpOp → Cmp
  | .Eq => .eq | .NotEq => .ne | .Lt => .lt | .LtE => .le | .Gt => .gt | .GtE => .ge | .Is => .is_ | .IsNot => .isn | .In => .in_ | .NotIn => .nin
def notSet : Expr → Bool
  | .Set .. => false
  | _ => true
def isSlice : Expr → Bool
  | .Slice .. => true
  | _ => false
def notStar : Expr → Bool
  | .Starred .. => false
  | _ => true
def plainBase : Expr → Bool
  | .Name .. | .Subscript .. => true
  | _ => false
def isTup : Expr → Bool
  | .Tuple .. => true
  | _ => false
/-- the module's dicts by name -/
def dicOf (c : Cc) : Expr → Option Nat
  | .Name x _ => if glB c x then c.G.dics.lookup x else none
  | _ => none
def tyOf (c : Cc) : Expr → Option Ty
  | .Name x _ => if bltB c x then
      (if x = "int" then some .int else if x = "str" then some .str else if x = "tuple" then some .tuple else if x = "list" then some .list
       else if x = "bool" then some .bool else if x = "dict" then some .dict else none) else none
  | _ => none
def biOf (x : Str) : Option Bi :=
  if x = "len" then some .len else if x = "int" then some .int else if x = "abs" then some .abs else if x = "max" then some .max
  else if x = "min" then some .min else if x = "tuple" then some .tuple else if x = "list" then some .list else if x = "str" then some .str
  else if x = "repr" then some .repr else if x = "sum" then some .sum else if x = "all" then some .all else if x = "any" then some .any else none
def kwNames : List Keyword → Option (List Str)
  | [] => some []
  | ⟨some x, _, _⟩ :: r => (kwNames r).map fun s => x :: s
  | ⟨none, _, _⟩ :: _ => none
/-- f(..) by its name -/
def cCall (c : Cc) (x : Str) (nargs : Nat) (a : C) : C :=
  if glB c x then (match c.G.funs.lookup x with
    | some (f, ps) => if nargs = ps.length then .call f (List.range nargs) a .nil else .bad
    | none => if c.G.blt.contains x then (match biOf x with | some b => .bi b a | none => .bad) else .bad)
  else .bad
def cIsTy (a : C) : Option Ty → C
  | some t => .isty a t
  | none => .bad
mutual
def cTg (n : Nat) (c : Cc) : Expr → Tg
  | .Name x _ => if locB c x then (match ixOf c.N x with | some i => .nm i | none => .bad) else .bad
  | .Tuple es _ _ => match n with
    | 0 => .bad
    | k + 1 => .tp es.length (cTgs k c es)
  | _ => .bad
def cTgs (n : Nat) (c : Cc) : List Expr → Tg
  | [] => .nil
  | e :: es => match n with
    | 0 => .bad
    | k + 1 => if notStar e then .cons (cTg k c e) (cTgs k c es) else .bad
end
/-- the slots that a target stores -/
def tgIn (own : List Nat) : Tg → Bool
  | .nm i => own.contains i
  | .tp _ t => tgIn own t
  | .nil => true
  | .cons a r => tgIn own a && tgIn own r
  | .bad => true
def relN (sc scope : List (Str × NameKind)) : List (Str × NameKind) :=
  scope.map fun (n, k) => if (k == NameKind.free && sc.lookup n == some .cell) then (n, NameKind.cell) else (n, k)
def ownOf (N : List Str) (names : List (Str × NameKind)) : List (Str × Nat) :=
  names.filterMap fun (n, k) => match k with
    | .local | .cell => (ixOf N n).map fun i => (n, i)
    | _ => none
def blkCc (c : Cc) (names : List (Str × NameKind)) : Cc := { N := c.N, names := relN c.names names, own := some names, G := c.G }

mutual
def cE (n : Nat) (c : Cc) (e : Expr) : C := match n with
  | 0 => .bad
  | n + 1 => match e with
    | .Name x _ => cName c x
    | .Constant k _ _ => cConst k
    | .BinOp a op b _ => match cBin op with
      | some o => .bin o (cE n c a) (cE n c b)
      | none => .bad
    | .UnaryOp op a _ => match op with
      | .USub => .neg (cE n c a)
      | .Not => .not_ (cE n c a)
      | _ => .bad
    | .Compare a ops bs _ => match ops, bs with
      | [op], [b] => if notSet b then (match dicOf c b with
          | some g => (match op with | .In => .kin g false (cE n c a) | .NotIn => .kin g true (cE n c a) | _ => .bad)
          | none => .cmp (cCmp op) (cE n c a) (cE n c b)) else .bad
      | [o1, o2], [b, d] => if !notSet d then .bad else .chain (cCmp o1) (cCmp o2) (cE n c a) (cE n c b) (cE n c d)
      | _, _ => .bad
    | .BoolOp op es _ => match op, es with
      | .And, a :: r => cAnd n c a r
      | .Or, a :: r => cOr n c a r
      | _, _ => .bad
    | .IfExp t a b _ => .ife (cT n c t) (cE n c a) (cE n c b)
    | .Tuple es _ _ => .tup (cEs n c es)
    | .List es _ => .lst (cEs n c es)
    | .Subscript a b _ => match b with
      | .Slice lo hi st _ => (match st with
        | none => .slc (cE n c a) (cO n c lo) (cO n c hi)
        | some _ => .bad)
      | b => (match dicOf c a with
        | some g => .kget g (cE n c b)
        | none => .idx (cE n c a) (cE n c b))
    | .Call f es kws ps => match kws with
      | [] => (match f with
        | .Name x _ => if x = ("isinstance" : Str) then (if bltB c x then (match es with
              | [a, t] => if notStar a then cIsTy (cE n c a) (tyOf c t) else .bad
              | _ => .bad) else .bad)
            else if es.length = 0 then .bad else cCall c x es.length (cEs n c es)
        | .Attribute o m ap => if !(ap.endLine == ps.line) then .bad else if m = ("append" : Str) then (match es with
              | [v] => if notStar v && plainBase o then .app (cE n c o) (cE n c v) else .bad
              | _ => .bad)
            else if m = ("get" : Str) then (match dicOf c o, es with
              | some g, [a, b] => if notStar a && notStar b then .kgetd g (cE n c a) (cE n c b) else .bad
              | _, _ => .bad)
            else .bad
        | _ => .bad)
      | kws => (match f with
        | .Name x _ => if glB c x && es.all notStar then (match c.G.funs.lookup x, kwNames kws with
            | some (f, ps), some ks => (match c.G.kws.find? (fun q => q.1 = x && q.2.1 = es.length && q.2.2.1 = ks) with
              | some q => .call f q.2.2.2 (cEs n c es) (cKs n c kws)
              | none => .bad)
            | _, _ => .bad) else .bad
        | _ => .bad)
    | .ListComp elt gs scope _ => match gs with
      | [⟨tg, it, ifs, 0⟩] =>
        let own := ownOf c.N scope.names
        let b := blkCc c scope.names
        let t := cTg n b tg
        if blkC c.N { kind := .function, names := c.names, isGenerator := false, isCoroutine := false } scope own && tgIn (own.map (·.2)) t && notSet it then
          .lc (cI n c (isTup tg) it) t (match ifs with | [] => .lit (.bl true) | [f] => cT n b f | _ => .bad) (cE n b elt) (own.map (·.2))
        else .bad
      | _ => .bad
    | _ => .bad
def cEs (n : Nat) (c : Cc) (es : List Expr) : C := match n with
  | 0 => .bad
  | n + 1 => match es with
    | [] => .nil
    | e :: r => if notStar e then .cons (cE n c e) (cEs n c r) else .bad
def cKs (n : Nat) (c : Cc) (ks : List Keyword) : C := match n with
  | 0 => .bad
  | n + 1 => match ks with
    | [] => .nil
    | ⟨_, e, _⟩ :: r => .cons (cE n c e) (cKs n c r)
def cAnd (n : Nat) (c : Cc) (a : Expr) (r : List Expr) : C := match n with
  | 0 => .bad
  | n + 1 => match r with
    | [] => cE n c a
    | b :: s => .and_ (cE n c a) (cAnd n c b s)
def cOr (n : Nat) (c : Cc) (a : Expr) (r : List Expr) : C := match n with
  | 0 => .bad
  | n + 1 => match r with
    | [] => cE n c a
    | b :: s => .or_ (cE n c a) (cOr n c b s)
/-- a test -/
def cT (n : Nat) (c : Cc) (e : Expr) : C := match n with
  | 0 => .bad
  | n + 1 => match e with
    | .BoolOp op es _ => match op, es with
      | .And, a :: r => cTAnd n c a r
      | .Or, a :: r => cTOr n c a r
      | _, _ => .bad
    | .UnaryOp op a _ => match op with
      | .Not => .not_ (cT n c a)
      | _ => .bad
    | .IfExp .. => .bad
    | .Compare a ops bs _ => match ops, bs with
      | [op], [b] => if notSet b then (match dicOf c b with
          | some g => (match op with | .In => .kin g false (cE n c a) | .NotIn => .kin g true (cE n c a) | _ => .bad)
          | none => .cmp (cCmp op) (cE n c a) (cE n c b)) else .bad
      | [o1, o2], [b, d] => if !notSet d then .bad else .chain (cCmp o1) (cCmp o2) (cE n c a) (cE n c b) (cE n c d)
      | _, _ => .bad
    | e => cE n c e
def cTAnd (n : Nat) (c : Cc) (a : Expr) (r : List Expr) : C := match n with
  | 0 => .bad
  | n + 1 => match r with
    | [] => cT n c a
    | b :: s => .and_ (cT n c a) (cTAnd n c b s)
def cTOr (n : Nat) (c : Cc) (a : Expr) (r : List Expr) : C := match n with
  | 0 => .bad
  | n + 1 => match r with
    | [] => cT n c a
    | b :: s => .or_ (cT n c a) (cTOr n c b s)
def cO (n : Nat) (c : Cc) (e : Option Expr) : C := match n with
  | 0 => .bad
  | n + 1 => match e with
    | none => .absent
    | some e => if isAbs (cE n c e) then .bad else cE n c e
/-- what is walked -/
def cI (n : Nat) (c : Cc) (tp : Bool) (e : Expr) : C := match n with
  | 0 => .bad
  | n + 1 => match e with
    | .Call f es kws _ => match f, kws with
      | .Name x _, [] =>
        if x = ("range" : Str) then (if bltB c x && (es.length == 1 || es.length == 2) then .irng (cEs n c es) else .bad)
        else if x = ("reversed" : Str) then (match es with | [a] => if bltB c x && notStar a then .irev (cE n c a) else .bad | _ => .bad)
        else if x = ("enumerate" : Str) then (match es with | [a] => if tp && bltB c x && notStar a then .ienum (cE n c a) else .bad | _ => .bad)
        else if x = ("zip" : Str) then (match es with | [a, b] => if tp && bltB c x && notStar a && notStar b then .izip (cE n c a) (cE n c b) else .bad | _ => .bad)
        else .itv (cE n c e)
      | _, _ => .itv (cE n c e)
    | e => .itv (cE n c e)
end
end Tm

set_option Elab.async false
set_option linter.all false
set_option maxRecDepth 100000
set_option maxHeartbeats 4000000
namespace Tm
open PySem PySem.Spec PyProof.Rows L2

/-! ## data -/
section
variable {K : PySem.W.Frag} {ρ : List Addr} {H : Hp} {S : Store}
mutual
theorem dpG {g : Nat → Option PyData} (hg : ∀ (n : Nat) (a : Addr) (x : PyData), ρ[n]? = some a → g n = some x → Dp K H (.ref a) x) : ∀ {v : V} {d : D}, Rep K ρ H v d → ∀ {x : PyData}, pdG g d = some x → Dp K H v x
  | _, _, .non, x, h => by simp only [pdG, Option.some.injEq] at h; subst h; exact .non
  | _, _, .bl b, x, h => by simp only [pdG, Option.some.injEq] at h; subst h; exact .bl b
  | _, _, .int i, x, h => by simp only [pdG, Option.some.injEq] at h; subst h; exact .int i
  | _, _, .str z, x, h => by simp only [pdG, Option.some.injEq] at h; subst h; exact .str z
  | _, _, .tup ht r, x, h => by
    simp only [pdG, Option.map_eq_some_iff] at h
    obtain ⟨xs, h1, rfl⟩ := h
    exact .tup ht (dpsG hg r h1)
  | _, _, .ref e, x, h => by
    simp only [pdG] at h
    exact hg _ _ _ e h
theorem dpsG {g : Nat → Option PyData} (hg : ∀ (n : Nat) (a : Addr) (x : PyData), ρ[n]? = some a → g n = some x → Dp K H (.ref a) x) : ∀ {vs : List V} {ds : List D}, Reps K ρ H vs ds → ∀ {xs : List PyData}, pdsG g ds = some xs → DpAll K H vs xs
  | _, _, .nil, xs, h => by simp only [pdsG, Option.some.injEq] at h; subst h; exact .nil
  | _, _, .cons r t, xs, h => by
    simp only [pdsG, Option.bind_eq_some_iff, Option.map_eq_some_iff] at h
    obtain ⟨y, h1, ys, h2, rfl⟩ := h
    exact .cons (dpG hg r h1) (dpsG hg t h2)
end
theorem dpN (sm : Sim K ρ S H) : ∀ (k n : Nat) (a : Addr) (x : PyData), ρ[n]? = some a → pdN S k n = some x → Dp K H (.ref a) x
  | 0, n, a, x, _, h => by simp [pdN] at h
  | k + 1, n, a, x, e, h => by
    simp only [pdN, Option.bind_eq_some_iff, Option.map_eq_some_iff] at h
    obtain ⟨xs, h1, ys, h2, rfl⟩ := h
    obtain ⟨vs, hs, r⟩ := sm.list h1 e
    exact .lst hs (dpsG (fun n a x => dpN sm k n a x) r h2)
theorem dp_of (sm : Sim K ρ S H) {v : V} {d : D} {x : PyData} (r : Rep K ρ H v d) (h : pd S d = some x) : Dp K H v x := dpG (dpN sm 60) r h
theorem dps_of (sm : Sim K ρ S H) {vs : List V} {ds : List D} {xs : List PyData} (r : Reps K ρ H vs ds) (h : pds S ds = some xs) : DpAll K H vs xs := dpsG (dpN sm 60) r h
theorem rep_scal {v : V} {d : D} (r : Rep K ρ H v d) (h : isScal d = true) : flatV v = true := by
  cases r <;> first | rfl | simp [isScal] at h
theorem reps_scal : ∀ {vs : List V} {ds : List D}, Reps K ρ H vs ds → ds.all isScal = true → vs.all flatV = true
  | _, _, .nil, _ => rfl
  | _, _, .cons r t, h => by
    simp only [List.all_cons, Bool.and_eq_true] at h ⊢
    exact ⟨rep_scal r h.1, reps_scal t h.2⟩
theorem scEq_eqV {v w : V} {d f : D} (r : Rep K ρ H v d) (q : Rep K ρ H w f) (hd : isScal d = true) (hf : isScal f = true) : eqV v w = scEq d f := by
  cases r <;> cases q <;> first | rfl | (simp [isScal] at hd; done) | (simp [isScal] at hf; done) | (simp [eqV, scEq]; done) | skip
end

/-! ## operators -/
/-- what follows, once d is the answer and S' the store -/
def Aft (K : PySem.W.Frag) (ρ : List Addr) (H : Hp) (S' : Store) (d : D) (Q : VK) : Prop :=
  ∀ (ρ' : List Addr) (H' : Hp) (v : V), Pre ρ ρ' → Gro H H' → Sim K ρ' S' H' → Rep K ρ' H' v d → Q v H'
section
variable {K : PySem.W.Frag} {ρ ρ' : List Addr} {H H' : Hp} {S S' : Store} {d : D} {Q : VK}
theorem Aft.mono (k : Aft K ρ H S' d Q) (p : Pre ρ ρ') (g : Gro H H') : Aft K ρ' H' S' d Q := fun _ _ v p' g' s r => k _ _ v (p.trans p') (g.trans g') s r
theorem Aft.here (k : Aft K ρ H S' d Q) (s : Sim K ρ S' H) {v : V} (r : Rep K ρ H v d) : Q v H := k ρ H v (Pre.refl ρ) (Gro.refl H) s r
/-- a tuple is made -/
theorem Aft.tup {ds : List D} {vs : List V} (k : Aft K ρ H S' (.tup ds) Q) (s : Sim K ρ S' H) (r : Reps K ρ H vs ds) {p : Addr} (hp : H p = none) : Q (.ref p) (upd H p (.tup vs)) :=
  k ρ _ _ (Pre.refl ρ) (Gro.new hp) (s.tup hp) (.tup (SqT.of upd_same) (r.mono (Gro.new hp) (Pre.refl ρ)))
/-- a list is made -/
theorem Aft.lst {ds : List D} {vs : List V} (k : Aft K ρ H (S ++ [.lst ds]) (.ref S.length) Q) (s : Sim K ρ S H) (r : Reps K ρ H vs ds) {p : Addr} (hp : H p = none) : Q (.ref p) (upd H p (.lst vs)) :=
  k (ρ ++ [p]) _ _ (Pre.app ρ p) (Gro.new hp) (s.new hp r) (.ref (by rw [← s.len, List.getElem?_append_right (Nat.le_refl _)]; simp))
end
theorem okI_some {b : Bool} {d : D} {S : Store} {x : D × Store} (h : okI b d S = some x) : b = true ∧ x = (d, S) := by
  unfold okI at h
  split at h
  · exact ⟨by assumption, (Option.some.inj h).symm⟩
  · cases h
/-- a two-place operation by the machine's own f -/
def rOp (K : PySem.W.Frag) (f : D → D → Store → Option (D × Store)) : R2 := fun v w H Q => ∃ (ρ : List Addr) (S : Store) (a b d : D) (S' : Store), Sim K ρ S H ∧ Rep K ρ H v a ∧ Rep K ρ H w b ∧ f a b S = some (d, S') ∧ Aft K ρ H S' d Q
section
variable {X : Cx}
theorem op_bin {o : Operator} {b : Bin} (hb : cBin o = some b) : OpR X (binaryOp o) (rOp X.K (binop b)) := by
  intro pins s σ H x y v u Q I rx ry h
  obtain ⟨ρ, S, da, db, d, S', sm, ra, rb, e, k⟩ := h
  cases o <;> simp only [cBin, Option.some.injEq, reduceCtorEq] at hb <;> subst hb
  · -- Add
    cases ra with
    | int i => cases rb with
      | int j => cases e; exact op_add pins s σ H _ _ v u Q I rx ry ⟨i, j, rfl, rfl, k.here sm (.int _)⟩
      | _ => cases e
    | str i => cases rb with
      | str j =>
        obtain ⟨c, e⟩ := okI_some e
        cases e
        exact op_add_str pins s σ H _ _ v u Q I rx ry ⟨i, j, rfl, rfl, of_decide_eq_true c, k.here sm (.str _)⟩
      | _ => cases e
    | tup h1 r1 => cases rb with
      | tup h2 r2 =>
        obtain ⟨c, e⟩ := okI_some e
        cases e
        have c := of_decide_eq_true c
        rw [← r1.length, ← r2.length] at c
        refine op_catA pins s σ H _ _ v u Q I rx ry ⟨_, _, _, _, rfl, rfl, h1, h2, c, fun z => ?_, fun _ z => ?_, fun _ _ p hp => k.tup sm (r1.append r2) hp⟩
        · subst z
          cases r1
          exact k.here sm (.tup h2 r2)
        · subst z
          cases r2
          exact k.here sm (.tup h1 (by rw [List.append_nil]; exact r1))
      | _ => cases e
    | ref e1 => cases rb with
      | ref e2 =>
        simp only [binop] at e
        split at e
        · rename_i xs ys q1 q2
          split at e
          · rename_i c
            cases e
            obtain ⟨vs, h1, r1⟩ := sm.obj _ _ _ q1 e1
            obtain ⟨ws, h2, r2⟩ := sm.obj _ _ _ q2 e2
            refine op_cat pins s σ H _ _ v u Q I rx ry ⟨_, _, vs, ws, rfl, rfl, h1, h2, by rw [r1.length, r2.length]; exact c, fun p hp => k.lst sm (r1.append r2) hp⟩
          · cases e
        · cases e
      | _ => cases e
    | _ => cases e
  · cases ra with
    | int i => cases rb with
      | int j => cases e; exact op_sub pins s σ H _ _ v u Q I rx ry ⟨i, j, rfl, rfl, k.here sm (.int _)⟩
      | _ => cases e
    | _ => cases e
  · -- Mult
    cases ra with
    | int i => cases rb with
      | int j =>
        obtain ⟨c, e⟩ := okI_some e
        cases e
        have c' : i.natAbs.log2 + j.natAbs.log2 < 1000000 := of_decide_eq_true c
        exact op_mulW pins s σ H _ _ v u Q I rx ry ⟨i, j, rfl, rfl, c', k.here sm (.int _)⟩
      | _ => cases e
    | tup h1 r1 => cases rb with
      | int j =>
        obtain ⟨c, e⟩ := okI_some e
        cases e
        simp only [Bool.and_eq_true, decide_eq_true_eq, Bool.not_eq_true', List.isEmpty_eq_false_iff] at c
        obtain ⟨⟨⟨c0, c1⟩, c2⟩, c3⟩ := c
        refine op_repT pins s σ H _ _ v u Q I rx ry ⟨_, j, _, rfl, rfl, h1, fun z => ?_, c1, c2, by rw [r1.length]; exact c3, fun p hp => k.tup sm (r1.flat _) hp⟩
        subst z
        cases r1
        exact c0 rfl
      | _ => cases e
    | ref e1 => cases rb with
      | int j =>
        simp only [binop] at e
        split at e
        · rename_i xs q1
          split at e
          · rename_i c
            cases e
            simp only [Bool.and_eq_true, decide_eq_true_eq] at c
            obtain ⟨⟨c1, c2⟩, c3⟩ := c
            obtain ⟨vs, h1, r1⟩ := sm.obj _ _ _ q1 e1
            refine op_rep pins s σ H _ _ v u Q I rx ry ⟨_, j, vs, rfl, rfl, h1, c1, c2, by rw [r1.length]; exact c3, fun p hp => k.lst sm (r1.flat _) hp⟩
          · cases e
        · cases e
      | _ => cases e
    | _ => cases e
  · cases ra with
    | int i => cases rb with
      | int j => 
        obtain ⟨c, e⟩ := okI_some e
        cases e
        simp only [Bool.and_eq_true, decide_eq_true_eq] at c
        exact op_mod pins s σ H _ _ v u Q I rx ry ⟨i, j, rfl, rfl, c, k.here sm (.int _)⟩
      | _ => cases e
    | _ => cases e
  · cases ra with
    | int i => cases rb with
      | int j => 
        obtain ⟨c, e⟩ := okI_some e
        cases e
        simp only [Bool.and_eq_true, decide_eq_true_eq] at c
        exact op_pow pins s σ H _ _ v u Q I rx ry ⟨i, j, rfl, rfl, ⟨c.1.1, c.1.2, c.2⟩, k.here sm (.int _)⟩
      | _ => cases e
    | _ => cases e
  · cases ra with
    | int i => cases rb with
      | int j => 
        obtain ⟨c, e⟩ := okI_some e
        cases e
        simp only [Bool.and_eq_true, decide_eq_true_eq] at c
        exact op_shl pins s σ H _ _ v u Q I rx ry ⟨i, j, rfl, rfl, ⟨c.1.1, c.1.2, c.2⟩, k.here sm (.int _)⟩
      | _ => cases e
    | _ => cases e
  · cases ra with
    | int i => cases rb with
      | int j => 
        obtain ⟨c, e⟩ := okI_some e
        cases e
        simp only [Bool.and_eq_true, decide_eq_true_eq] at c
        exact op_shr pins s σ H _ _ v u Q I rx ry ⟨i, j, rfl, rfl, c, k.here sm (.int _)⟩
      | _ => cases e
    | _ => cases e
  · cases ra with
    | int i => cases rb with
      | int j => cases e; exact op_or pins s σ H _ _ v u Q I rx ry ⟨i, j, rfl, rfl, k.here sm (.int _)⟩
      | _ => cases e
    | _ => cases e
  · cases ra with
    | int i => cases rb with
      | int j => cases e; exact op_xor pins s σ H _ _ v u Q I rx ry ⟨i, j, rfl, rfl, k.here sm (.int _)⟩
      | _ => cases e
    | _ => cases e
  · cases ra with
    | int i => cases rb with
      | int j => cases e; exact op_and pins s σ H _ _ v u Q I rx ry ⟨i, j, rfl, rfl, k.here sm (.int _)⟩
      | _ => cases e
    | _ => cases e
  · cases ra with
    | int i => cases rb with
      | int j => 
        obtain ⟨c, e⟩ := okI_some e
        cases e
        simp only [Bool.and_eq_true, decide_eq_true_eq] at c
        exact op_fdivW pins s σ H _ _ v u Q I rx ry ⟨i, j, rfl, rfl, ⟨c.1, c.2⟩, k.here sm (.int _)⟩
      | _ => cases e
    | _ => cases e

/-- a comparison by the machine's own f -/
def rCmp (K : PySem.W.Frag) (f : D → D → Store → Option Bool) : R2 := fun v w H Q => ∃ (ρ : List Addr) (S : Store) (a b : D) (r : Bool), Sim K ρ S H ∧ Rep K ρ H v a ∧ Rep K ρ H w b ∧ f a b S = some r ∧ Q (.bl r) H
theorem op_eqM (hu : X.A.units + 64 < cLine) : OpR X (compareOp .Eq) (rCmp X.K fun a b S => eqD S a b) := by
  intro pins s σ H x y v u Q I rx ry h
  obtain ⟨ρ, S, da, db, r, sm, ra, rb, e, k⟩ := h
  have deep : ∀ {p q : PyData}, pd S da = some p → pd S db = some q → SeqAt.shaped p = true → SeqAt.shaped q = true → PyData.eqv p q = r → wpAny (model X.prog X.w) X.A (compareOp .Eq v u) (EP X pins σ Q) X.xe s := fun {p q} hp hq sp sq er => by
    subst er
    exact op_eqD hu pins s σ H x y v u Q I rx ry ⟨p, q, dp_of sm ra hp, dp_of sm rb hq, sp, sq, k⟩
  have gen : (pd S da).bind (fun x => (pd S db).bind fun y => if (SeqAt.shaped x && SeqAt.shaped y) = true then some (PyData.eqv x y) else none) = some r → wpAny (model X.prog X.w) X.A (compareOp .Eq v u) (EP X pins σ Q) X.xe s := fun g => by
    simp only [Option.bind_eq_some_iff] at g
    obtain ⟨p, hp, q, hq, g⟩ := g
    split at g
    · rename_i c
      rw [Bool.and_eq_true] at c
      exact deep hp hq c.1 c.2 (Option.some.inj g)
    · cases g
  cases ra with
  | int i => cases rb with
    | int j => cases e; exact op_eq pins s σ H _ _ v u Q I rx ry ⟨rfl, by rw [show decide (V.int i = V.int j) = decide (i = j) by simp]; exact k⟩
    | _ => exact gen e
  | str i => cases rb with
    | str j => cases e; exact op_eq pins s σ H _ _ v u Q I rx ry ⟨rfl, by rw [show decide (V.str i = V.str j) = decide (i = j) by simp]; exact k⟩
    | _ => exact gen e
  | bl i => cases rb with
    | bl j => cases e; exact op_eq pins s σ H _ _ v u Q I rx ry ⟨rfl, by rw [show decide (V.bl i = V.bl j) = decide (i = j) by simp]; exact k⟩
    | _ => exact gen e
  | non => cases rb with
    | non => cases e; exact op_eq pins s σ H _ _ v u Q I rx ry ⟨rfl, k⟩
    | _ => exact gen e
  | tup h1 r1 => exact gen (by cases rb <;> exact e)
  | ref h1 => exact gen (by cases rb <;> exact e)
theorem op_neM (hu : X.A.units + 64 < cLine) : OpR X (compareOp .NotEq) (rCmp X.K fun a b S => (eqD S a b).map (!·)) := by
  intro pins s σ H x y v u Q I rx ry h
  obtain ⟨ρ, S, da, db, r, sm, ra, rb, e, k⟩ := h
  simp only [Option.map_eq_some_iff] at e
  obtain ⟨r, e, rfl⟩ := e
  have gen : (pd S da).bind (fun x => (pd S db).bind fun y => if (SeqAt.shaped x && SeqAt.shaped y) = true then some (PyData.eqv x y) else none) = some r → wpAny (model X.prog X.w) X.A (compareOp .NotEq v u) (EP X pins σ Q) X.xe s := fun g => by
    simp only [Option.bind_eq_some_iff] at g
    obtain ⟨p, hp, q, hq, g⟩ := g
    split at g
    · rename_i c
      rw [Bool.and_eq_true] at c
      have er := Option.some.inj g
      subst er
      exact op_neD hu pins s σ H x y v u Q I rx ry ⟨p, q, dp_of sm ra hp, dp_of sm rb hq, c.1, c.2, k⟩
    · cases g
  cases ra with
  | int i => cases rb with
    | int j => cases e; exact op_ne pins s σ H _ _ v u Q I rx ry ⟨rfl, by rw [show decide (V.int i = V.int j) = decide (i = j) by simp]; exact k⟩
    | _ => exact gen e
  | str i => cases rb with
    | str j => cases e; exact op_ne pins s σ H _ _ v u Q I rx ry ⟨rfl, by rw [show decide (V.str i = V.str j) = decide (i = j) by simp]; exact k⟩
    | _ => exact gen e
  | bl i => cases rb with
    | bl j => cases e; exact op_ne pins s σ H _ _ v u Q I rx ry ⟨rfl, by rw [show decide (V.bl i = V.bl j) = decide (i = j) by simp]; exact k⟩
    | _ => exact gen e
  | non => cases rb with
    | non => cases e; exact op_ne pins s σ H _ _ v u Q I rx ry ⟨rfl, k⟩
    | _ => exact gen e
  | tup h1 r1 => exact gen (by cases rb <;> exact e)
  | ref h1 => exact gen (by cases rb <;> exact e)
theorem any_scEq {K : PySem.W.Frag} {ρ : List Addr} {H : Hp} {x : V} {d : D} (rx : Rep K ρ H x d) (hx : isScal d = true) : ∀ {vs : List V} {ds : List D}, Reps K ρ H vs ds → ds.all isScal = true → inV x vs = ds.any fun y => scEq y d
  | _, _, .nil, _ => rfl
  | _, _, .cons r t, h => by
    simp only [List.all_cons, Bool.and_eq_true] at h
    have q := any_scEq rx hx t h.2
    unfold inV at q ⊢
    rw [List.any_cons, List.any_cons, q, scEq_eqV r rx h.1 hx]
/-- x in y, x not in y by one proof: n is the sign -/
theorem op_inM (hu : X.A.units + 65 < cLine) : OpR X (compareOp .In) (rCmp X.K fun a b S => inD S a b) := by
  intro pins s σ H x y v u Q I rx ry h
  obtain ⟨ρ, S, da, db, r, sm, ra, rb, e, k⟩ := h
  cases rb with
  | tup h1 r1 =>
    simp only [inD] at e
    split at e
    · rename_i c
      rw [Bool.and_eq_true] at c
      cases e
      refine op_in_seq pins s σ H _ _ v u Q I rx ry ⟨_, _, rfl, .inr h1, rep_scal ra c.1, reps_scal r1 c.2, ?_⟩
      show Q (.bl (inV _ _)) H
      rw [any_scEq ra c.1 r1 c.2]
      exact k
    · cases e
  | ref h1 =>
    simp only [inD, Option.bind_eq_some_iff] at e
    obtain ⟨ys, hl, e⟩ := e
    obtain ⟨vs, hq, r1⟩ := sm.list hl h1
    split at e
    · rename_i c
      rw [Bool.and_eq_true] at c
      cases e
      refine op_in_seq pins s σ H _ _ v u Q I rx ry ⟨_, _, rfl, .inl hq, rep_scal ra c.1, reps_scal r1 c.2, ?_⟩
      show Q (.bl (inV _ _)) H
      rw [any_scEq ra c.1 r1 c.2]
      exact k
    · simp only [Option.bind_eq_some_iff] at e
      obtain ⟨p, hp, q, hqs, e⟩ := e
      split at e
      · rename_i c
        rw [Bool.and_eq_true] at c
        cases e
        exact op_inD hu pins s σ H _ _ v u Q I rx ry ⟨p, q, dp_of sm ra hp, .lst hq (dps_of sm r1 hqs), c.1, c.2, k⟩
      · cases e
  | str z =>
    cases ra with
    | str w =>
      simp only [inD] at e
      split at e
      · rename_i c hc
        cases e
        have hw : w = ⟨#[c]⟩ := by
          cases w with | mk a => cases a with | mk l => simp at hc; rw [hc]
        refine op_in_sign pins s σ H _ _ v u Q I rx ry ⟨c, z, by rw [hw], rfl, k⟩
      · cases e
    | _ => cases e
  | _ => cases e
theorem op_ninM (hu : X.A.units + 65 < cLine) : OpR X (compareOp .NotIn) (rCmp X.K fun a b S => (inD S a b).map (!·)) := by
  intro pins s σ H x y v u Q I rx ry h
  obtain ⟨ρ, S, da, db, r, sm, ra, rb, e, k⟩ := h
  simp only [Option.map_eq_some_iff] at e
  obtain ⟨r, e, rfl⟩ := e
  cases rb with
  | tup h1 r1 =>
    simp only [inD] at e
    split at e
    · rename_i c
      rw [Bool.and_eq_true] at c
      cases e
      refine op_notIn_seq pins s σ H _ _ v u Q I rx ry ⟨_, _, rfl, .inr h1, rep_scal ra c.1, reps_scal r1 c.2, ?_⟩
      show Q (.bl (!inV _ _)) H
      rw [any_scEq ra c.1 r1 c.2]
      exact k
    · cases e
  | ref h1 =>
    simp only [inD, Option.bind_eq_some_iff] at e
    obtain ⟨ys, hl, e⟩ := e
    obtain ⟨vs, hq, r1⟩ := sm.list hl h1
    split at e
    · rename_i c
      rw [Bool.and_eq_true] at c
      cases e
      refine op_notIn_seq pins s σ H _ _ v u Q I rx ry ⟨_, _, rfl, .inl hq, rep_scal ra c.1, reps_scal r1 c.2, ?_⟩
      show Q (.bl (!inV _ _)) H
      rw [any_scEq ra c.1 r1 c.2]
      exact k
    · simp only [Option.bind_eq_some_iff] at e
      obtain ⟨p, hp, q, hqs, e⟩ := e
      split at e
      · rename_i c
        rw [Bool.and_eq_true] at c
        cases e
        exact op_notInD hu pins s σ H _ _ v u Q I rx ry ⟨p, q, dp_of sm ra hp, .lst hq (dps_of sm r1 hqs), c.1, c.2, k⟩
      · cases e
  | str z =>
    cases ra with
    | str w =>
      simp only [inD] at e
      split at e
      · rename_i c hc
        cases e
        have hw : w = ⟨#[c]⟩ := by
          cases w with | mk a => cases a with | mk l => simp at hc; rw [hc]
        refine op_notIn_sign pins s σ H _ _ v u Q I rx ry ⟨c, z, by rw [hw], rfl, k⟩
      · cases e
    | _ => cases e
  | _ => cases e
theorem op_cmpM (hu : X.A.units + 65 < cLine) (o : CmpOp) : OpR X (compareOp o) (rCmp X.K (cmpop (cCmp o))) := by
  cases o with
  | Eq => exact op_eqM (Nat.lt_trans (Nat.lt_succ_self _) hu)
  | NotEq => exact op_neM (Nat.lt_trans (Nat.lt_succ_self _) hu)
  | In => exact op_inM hu
  | NotIn => exact op_ninM hu
  | Lt | LtE | Gt | GtE =>
    intro pins s σ H x y v u Q I rx ry h
    obtain ⟨ρ, S, da, db, r, sm, ra, rb, e, k⟩ := h
    cases ra with
    | int i => cases rb with
      | int j =>
        cases e
        first
          | exact op_lt pins s σ H _ _ v u Q I rx ry ⟨i, j, rfl, rfl, k⟩
          | exact op_le pins s σ H _ _ v u Q I rx ry ⟨i, j, rfl, rfl, k⟩
          | exact op_gt pins s σ H _ _ v u Q I rx ry ⟨i, j, rfl, rfl, k⟩
          | exact op_ge pins s σ H _ _ v u Q I rx ry ⟨i, j, rfl, rfl, k⟩
      | _ => cases e
    | _ => cases e
  | Is =>
    intro pins s σ H x y v u Q I rx ry h
    obtain ⟨ρ, S, da, db, r, sm, ra, rb, e, k⟩ := h
    cases rb with
    | non => refine op_isN pins s σ H _ _ v u Q I rx ry ⟨rfl, ?_⟩; cases ra <;> (cases e; exact k)
    | bl b => cases ra with
      | bl a => cases e; exact op_isBl pins s σ H _ _ v u Q I rx ry ⟨a, b, rfl, rfl, k⟩
      | _ => cases e
    | _ => cases ra <;> cases e
  | IsNot =>
    intro pins s σ H x y v u Q I rx ry h
    obtain ⟨ρ, S, da, db, r, sm, ra, rb, e, k⟩ := h
    cases rb with
    | non => refine op_notN pins s σ H _ _ v u Q I rx ry ⟨rfl, ?_⟩; cases ra <;> (cases e; exact k)
    | bl b => cases ra with
      | bl a => cases e; exact op_notBl pins s σ H _ _ v u Q I rx ry ⟨a, b, rfl, rfl, k⟩
      | _ => cases e
    | _ => cases ra <;> cases e
end
end Tm

set_option Elab.async false
set_option linter.all false
set_option maxRecDepth 100000
set_option maxHeartbeats 4000000
namespace Tm
open PySem PySem.Spec PyProof.Rows L2
section
variable {K : PySem.W.Frag} {ρ : List Addr} {H : Hp} {S : Store}
theorem atI_rep {vs : List V} {ds : List D} (r : Reps K ρ H vs ds) {i : Int} {d : D} (e : atI ds i = some d) : ∃ v, atI vs i = some v ∧ Rep K ρ H v d := by
  unfold atI at e ⊢
  rw [r.length]
  simp only [Option.bind_eq_some_iff] at e ⊢
  obtain ⟨j, h1, h2⟩ := e
  obtain ⟨v, h3, h4⟩ := r.get h2
  exact ⟨v, ⟨j, h1, h3⟩, h4⟩
theorem cut_rep {vs : List V} {ds : List D} (r : Reps K ρ H vs ds) (lo hi : Option Int) : Reps K ρ H (cutV vs lo hi) (cutD ds lo hi) := by
  unfold cutV cutD
  rw [r.length]
  exact (r.drop _).take _
theorem intsD_rep : ∀ {vs : List V} {ds : List D} {is : List Int}, Reps K ρ H vs ds → intsD ds = some is → vs = is.map V.int
  | _, _, is, .nil, h => by simp [intsD] at h; subst h; rfl
  | _, _, is, .cons (d := d) r t, h => by
    cases r <;> simp only [intsD, Option.map_eq_some_iff, reduceCtorEq] at h
    obtain ⟨js, h1, rfl⟩ := h
    rw [intsD_rep t h1]; rfl
theorem blsD_rep : ∀ {vs : List V} {ds : List D} {is : List Bool}, Reps K ρ H vs ds → blsD ds = some is → vs = is.map V.bl
  | _, _, is, .nil, h => by simp [blsD] at h; subst h; rfl
  | _, _, is, .cons (d := d) r t, h => by
    cases r <;> simp only [blsD, Option.map_eq_some_iff, reduceCtorEq] at h
    obtain ⟨js, h1, rfl⟩ := h
    rw [blsD_rep t h1]; rfl
end
/-- o[i] -/
def rIxM (K : PySem.W.Frag) : R2 := fun v w H Q => ∃ (ρ : List Addr) (S : Store) (a b d : D), Sim K ρ S H ∧ Rep K ρ H v a ∧ Rep K ρ H w b ∧ idxop a b S = some d ∧ ∀ x, Rep K ρ H x d → Q x H
/-- o[lo:hi] -/
def rSlM (K : PySem.W.Frag) : V → Option Int → Option Int → Hp → VK → Prop := fun v lo hi H Q => ∃ (ρ : List Addr) (S : Store) (a d : D) (S' : Store), Sim K ρ S H ∧ Rep K ρ H v a ∧ slcop a lo hi S = some (d, S') ∧ Aft K ρ H S' d Q
/-- a call by the machine's own f -/
def rCall (K : PySem.W.Frag) (f : List D → Store → Option (D × Store)) : List V → Hp → VK → Prop := fun vs H Q => ∃ (ρ : List Addr) (S : Store) (ds : List D) (d : D) (S' : Store), Sim K ρ S H ∧ Reps K ρ H vs ds ∧ f ds S = some (d, S') ∧ Aft K ρ H S' d Q
section
variable {X : Cx}
theorem ix_M : IxR X (rIxM X.K) := by
  intro ve se pins s σ H x y v u Q I rx ry h hs
  obtain ⟨ρ, S, a, b, d, sm, ra, rb, e, k⟩ := h
  cases rb with
  | int i =>
    cases ra with
    | tup h1 r1 =>
      obtain ⟨z, hz, rz⟩ := atI_rep r1 e
      exact ix_tup ve se pins s σ H _ _ v u Q I rx ry ⟨_, _, i, z, rfl, rfl, h1, hz, k z rz⟩ hs
    | ref h1 =>
      simp only [idxop, Option.bind_eq_some_iff] at e
      obtain ⟨ys, hl, e⟩ := e
      obtain ⟨vs, hq, r1⟩ := sm.list hl h1
      obtain ⟨z, hz, rz⟩ := atI_rep r1 e
      exact ix_list ve se pins s σ H _ _ v u Q I rx ry ⟨_, _, i, z, rfl, rfl, hq, hz, k z rz⟩ hs
    | str z =>
      simp only [idxop] at e
      split at e
      · rename_i c
        simp only [Option.map_eq_some_iff] at e
        obtain ⟨ch, hc, rfl⟩ := e
        exact ix_str ve se pins s σ H _ _ v u Q I rx ry ⟨z, i, ch, rfl, rfl, c, hc, k _ (.str _)⟩ hs
      · cases e
    | _ => cases e
  | _ => cases ra <;> cases e
theorem sl_M : SlR X (rSlM X.K) := by
  intro pins s σ H x v vl vu lo hi sl Q I rx hs pl pu h
  obtain ⟨ρ, S, a, d, S', sm, ra, e, k⟩ := h
  cases ra with
  | tup h1 r1 =>
    cases e
    refine sl_tupA pins s σ H _ v vl vu lo hi sl Q I rx hs pl pu ⟨_, _, rfl, h1, fun z => ?_, fun _ p hp => k.tup sm (cut_rep r1 lo hi) hp⟩
    refine k.here sm (.tup h1 ?_)
    have q := cut_rep r1 lo hi
    unfold cutV at q
    rw [z.2, z.1] at q
    simpa using q
  | ref h1 =>
    simp only [slcop, Option.map_eq_some_iff] at e
    obtain ⟨ys, hl, e⟩ := e
    cases e
    obtain ⟨vs, hq, r1⟩ := sm.list hl h1
    exact sl_list pins s σ H _ v vl vu lo hi sl Q I rx hs pl pu ⟨_, vs, rfl, hq, fun p hp => k.lst sm (cut_rep r1 lo hi) hp⟩
  | str z =>
    obtain ⟨c, e⟩ := okI_some e
    cases e
    exact sl_str pins s σ H _ v vl vu lo hi sl Q I rx hs pl pu ⟨z, rfl, of_decide_eq_true c, k.here sm (.str _)⟩
  | _ => cases e

/-! ## built-in functions -/
def biVal : Bi → Value
  | .len => .builtin "len" | .int => .type "int" | .abs => .builtin "abs" | .max => .builtin "max" | .min => .builtin "min" | .tuple => .type "tuple" | .list => .type "list"
  | .str => .type "str" | .repr => .builtin "repr" | .sum => .builtin "sum" | .all => .builtin "all" | .any => .builtin "any"
mutual
theorem dp_nodict {K : PySem.W.Frag} {H : Hp} : ∀ {v : V} {d : PyData}, Dp K H v d → d.hasDict = false
  | _, _, .non => rfl
  | _, _, .bl _ => rfl
  | _, _, .int _ => rfl
  | _, _, .str _ => rfl
  | _, _, .lst _ r => by unfold PyData.hasDict; exact dps_nodict r
  | _, _, .tup _ r => by unfold PyData.hasDict; exact dps_nodict r
theorem dps_nodict {K : PySem.W.Frag} {H : Hp} : ∀ {v : List V} {d : List PyData}, DpAll K H v d → PyData.hasDictAll d = false
  | _, _, .nil => rfl
  | _, _, .cons r t => by unfold PyData.hasDictAll; rw [dp_nodict r, dps_nodict t]; rfl
end
theorem cr_M (hc : X.calm = true) (hg : X.A.guards = some []) (hu : X.A.units + 200 < cLine) (b : Bi) : CallR X (biVal b) (rCall X.K (biop b)) := by
  intro pins s σ H xs us Q I r h
  obtain ⟨ρ, S, ds, d, S', sm, rs, e, k⟩ := h
  cases rs with
  | nil => cases b <;> cases e
  | cons r1 t1 =>
    cases t1 with
    | nil =>
      cases b with
      | len =>
        cases r1 with
        | tup h1 q1 => cases e; exact call_len_seq pins s σ H _ us Q I r ⟨_, _, rfl, .inr h1, by rw [q1.length]; exact k.here sm (.int _)⟩
        | ref h1 =>
          simp only [biop, Option.map_eq_some_iff] at e
          obtain ⟨ys, hl, e⟩ := e
          cases e
          obtain ⟨vs, hq, q1⟩ := sm.list hl h1
          exact call_len_seq pins s σ H _ us Q I r ⟨_, _, rfl, .inl hq, by rw [q1.length]; exact k.here sm (.int _)⟩
        | str z =>
          obtain ⟨c, e⟩ := okI_some e
          cases e
          exact call_len_str pins s σ H _ us Q I r ⟨z, rfl, of_decide_eq_true c, k.here sm (.int _)⟩
        | _ => cases e
      | int =>
        cases r1 with
        | int i => cases e; exact call_int1 pins s σ H _ us Q I r (.inl ⟨i, rfl, k.here sm (.int _)⟩)
        | bl b => cases e; exact call_int1 pins s σ H _ us Q I r (.inr ⟨b, rfl, k.here sm (.int _)⟩)
        | str z =>
          simp only [biop] at e
          split at e
          · rename_i n hn
            obtain ⟨c, e⟩ := okI_some e
            cases e
            exact call_int_str pins s σ H _ us Q I r ⟨z, n, rfl, hn, of_decide_eq_true c, k.here sm (.int _)⟩
          · cases e
        | _ => cases e
      | abs =>
        cases r1 with
        | int i => cases e; exact call_abs pins s σ H _ us Q I r ⟨i, rfl, k.here sm (.int _)⟩
        | _ => cases e
      | max => cases r1 <;> cases e
      | min => cases r1 <;> cases e
      | tuple =>
        cases r1 with
        | tup h1 q1 => cases e; exact call_tuple_of pins s σ H _ us Q I r ⟨_, _, rfl, .inr ⟨h1, k.here sm (.tup h1 q1)⟩⟩
        | ref h1 =>
          simp only [biop, Option.map_eq_some_iff] at e
          obtain ⟨ys, hl, e⟩ := e
          cases e
          obtain ⟨vs, hq, q1⟩ := sm.list hl h1
          exact call_tuple_of pins s σ H _ us Q I r ⟨_, _, rfl, .inl ⟨hq, fun p hp => k.tup sm q1 hp⟩⟩
        | _ => cases e
      | list =>
        cases r1 with
        | tup h1 q1 => cases e; exact call_list_of pins s σ H _ us Q I r ⟨_, _, rfl, .inr h1, fun p hp => k.lst sm q1 hp⟩
        | ref h1 =>
          simp only [biop, Option.map_eq_some_iff] at e
          obtain ⟨ys, hl, e⟩ := e
          cases e
          obtain ⟨vs, hq, q1⟩ := sm.list hl h1
          exact call_list_of pins s σ H _ us Q I r ⟨_, _, rfl, .inl hq, fun p hp => k.lst sm q1 hp⟩
        | _ => cases e
      | str =>
        cases r1 with
        | int i =>
          obtain ⟨c, e⟩ := okI_some e
          cases e
          exact call_str_int pins s σ H _ us Q I r ⟨i, rfl, of_decide_eq_true c, k.here sm (.str _)⟩
        | _ => cases e
      | sum =>
        cases r1 with
        | ref h1 =>
          simp only [biop, Option.bind_eq_some_iff, Option.map_eq_some_iff] at e
          obtain ⟨ys, hl, is, hi, e⟩ := e
          cases e
          obtain ⟨vs, hq, q1⟩ := sm.list hl h1
          rw [intsD_rep q1 hi] at hq
          exact cr_sum hc pins s σ H _ us Q I r ⟨_, is, rfl, hq, k.here sm (.int _)⟩
        | _ => cases e
      | all =>
        cases r1 with
        | ref h1 =>
          simp only [biop, Option.bind_eq_some_iff, Option.map_eq_some_iff] at e
          obtain ⟨ys, hl, is, hi, e⟩ := e
          cases e
          obtain ⟨vs, hq, q1⟩ := sm.list hl h1
          rw [blsD_rep q1 hi] at hq
          exact cr_all hc pins s σ H _ us Q I r ⟨_, is, rfl, hq, k.here sm (.bl _)⟩
        | _ => cases e
      | any =>
        cases r1 with
        | ref h1 =>
          simp only [biop, Option.bind_eq_some_iff, Option.map_eq_some_iff] at e
          obtain ⟨ys, hl, is, hi, e⟩ := e
          cases e
          obtain ⟨vs, hq, q1⟩ := sm.list hl h1
          rw [blsD_rep q1 hi] at hq
          exact cr_any hc pins s σ H _ us Q I r ⟨_, is, rfl, hq, k.here sm (.bl _)⟩
        | _ => cases e
      | repr =>
        simp only [biop, Option.bind_eq_some_iff] at e
        obtain ⟨x, hx, e⟩ := e
        split at e
        · rename_i c
          simp only [Bool.and_eq_true, decide_eq_true_eq] at c
          cases e
          have hd := dp_of sm r1 hx
          have far : ∀ {a : Addr} {u : Value}, RelV (.ref a) u → Dp X.K H (.ref a) x → wpAny (model X.prog X.w) X.A (call (.builtin "repr") [u]) (EP X pins σ Q) X.xe s := fun {a u} ru hd => by
            obtain ⟨as, rd⟩ := Dp.reads I _ _ _ hd ru
            cases ru
            exact repr_of_reads' rd c.1.1 (fun z => by rw [dp_nodict hd] at z; cases z) hg (by have := c.1.2; omega) (fun _ _ e => e)
              (fun h' tk t' hk => ⟨.str x.shown, H, I.kept (t' := t') hk, ⟨tk, rfl⟩, k.here sm (.str _)⟩) c.2
          cases r with
          | cons ru rt =>
            cases rt
            cases r1 with
            | non =>
              cases ru
              simp only [pdG, Option.some.injEq] at hx
              subst hx
              exact PySem.P.repr_of_none ⟨.str _, H, I.tok _, ⟨_, rfl⟩, k.here sm (.str _)⟩
            | bl b =>
              cases ru
              simp only [pdG, Option.some.injEq] at hx
              subst hx
              exact PySem.P.repr_of_bool ⟨.str _, H, I.tok _, ⟨_, rfl⟩, k.here sm (.str _)⟩
            | int i =>
              obtain ⟨t, rfl⟩ := ru
              simp only [pdG, Option.some.injEq] at hx
              subst hx
              exact PySem.P.repr_of_int (of_decide_eq_true c.1.1) ⟨.str _, H, I.tok _, ⟨_, rfl⟩, k.here sm (.str _)⟩
            | str z =>
              obtain ⟨t, rfl⟩ := ru
              simp only [pdG, Option.some.injEq] at hx
              subst hx
              exact PySem.P.repr_of_str (hsz := c.2) ⟨.str _, H, I.tok _, ⟨_, rfl⟩, k.here sm (.str _)⟩
            | tup h1 q1 => exact far ru hd
            | ref h1 => exact far ru hd
        · cases e
    | cons r2 t2 =>
      cases t2 with
      | nil =>
        cases b with
        | max =>
          cases r1 with
          | int i => cases r2 with
            | int j => cases e; exact call_max2 hc pins s σ H _ us Q I r ⟨i, j, rfl, k.here sm (.int _)⟩
            | _ => cases e
          | _ => cases e
        | min =>
          cases r1 with
          | int i => cases r2 with
            | int j => cases e; exact call_min2 hc pins s σ H _ us Q I r ⟨i, j, rfl, k.here sm (.int _)⟩
            | _ => cases e
          | _ => cases e
        | _ => simp [biop] at e
      | cons _ _ => cases b <;> simp [biop] at e
end
end Tm

set_option Elab.async false
set_option linter.all false
set_option maxRecDepth 100000
set_option maxHeartbeats 4000000
namespace Tm
open PySem PySem.Spec PyProof.Rows L2

/-! ## a def's promise where no text of an object is under way -/
structure FnG (P : Program) (w : World) (K : PySem.W.Frag) (mg : Str → Option Value) (base : Heap) (k : Nat) (f : Addr) (fd : FuncData) (ps : List Str) (sp : Sp) : Prop where
  many : ∀ vs H Q, sp vs H Q E0 → vs.length = ps.length
  go : ∀ (B : Around) (out : List Env) (t : Shared) (H : Hp) (as : Args) (us : List Value) (vs : List V) (Q : VK), Room k B → B.guards = some [] → Env0 P w K mg base B out t H →
    BindsTo t fd as (ps.zip us) → Vals vs us → sp vs H Q E0 → codeAny (model P w) B (.call (.ref f) as) (CR CX0 out P w H t Q E0) t
/-- the body of a def: its term and what it asks -/
theorem fnG_of {P : Program} {w : World} {K : PySem.W.Frag} {mg : Str → Option Value} {base : Heap} {k : Nat} {x qual : Str} {st : Stmt} {f : Addr} {fd : FuncData} {N ps : List Str} {sp : Sp}
    (F : Fun K x qual st f fd) (S : FnScope N ps (defScope st)) (many : ∀ vs H Q, sp vs H Q E0 → vs.length = ps.length)
    (body : ∀ (cdv : Value) (B : Around) (out : List Env) (t : Shared) (H : Hp) (vs : List V) (Q : VK), Room k (B.deeper (envOfC qual (defScope st) t.heap.objs.size f cdv)) → B.guards = some [] → sp vs H Q E0 →
      ∃ r, PSs (cxOf CX0 P w K mg base N qual (defScope st) f cdv B out t H E0).nox (defBody st) r ∧ r { nx := fun _ H' => Q .non H', rt := Q } (start N vs) H) : FnG P w K mg base (k + 1) f fd ps sp := by
  obtain ⟨oc, od, kV, doc, pm, an, cdv, ct, osl, hfd, lk, hcd⟩ := F.ex
  subst hfd
  refine ⟨many, fun B out t H as us vs Q room gd e0 bd rel h => ?_⟩
  have hlen := many _ _ _ h
  have kin : K.In t.heap := e0.mod.kin.keeps (fun b o e => (e0.bs b o e).1)
  have nolim : t.heap.NoLimit := e0.mod.nolimit.keeps (fun b o e => (e0.bs b o e).1)
  have kinds : ∀ y ∈ ps.zip us, (defScope st).names.lookup y.1 = some .local ∨ ((defScope st).names.lookup y.1 = some .cell ∧ ((cellsFrom (t.heap.objs.size + 1) (defScope st).names []).lookup y.1).isSome = true) := by
    rintro ⟨n, v⟩ hy
    rcases S.par n (List.of_mem_zip hy).1 with q | q
    · left; exact q
    · right; exact ⟨q, PySem.W.cellsFrom_some _ _ _ (Or.inl q)⟩
  apply codeAny_call_function room.depth (kin _ _ lk) rfl S.co S.gen rfl (PySem.W.codeRec_of kin hcd)
  apply bd
  apply wpAny_newFunctionEnv_cells S.kind kinds
  intro env he t1 ic
  subst he
  refine ⟨nolim.keeps ic.toInCall.keep, ?_⟩
  apply codeAny_func
  obtain ⟨r, hr, hq⟩ := body cdv B out t H vs Q (room.deeper _) gd h
  have J := inv_start (CX := CX0) (E := E0) S room.hd e0 hlen rel ic
  have fin : ∀ {σ' : L2.St} {H' : Hp} {v : V} {u : Value} {t' : Shared}, Inv (cxOf CX0 P w K mg base N qual (defScope st) f cdv B out t H E0) [] σ' H' t' → RelV v u → Q v H' → CE out P w H t Q u t' := by
    intro σ' H' v u t' J rv q
    exact ⟨v, H', J.os, J.bare, J.base, J.hok, rv, q⟩
  apply wpAny_mono (hr.nox.run [] t1 _ H _ J hq)
  · intro fl t' hs
    match fl, hs with
    | .ret u, ⟨v, σ', H', J', rv, q⟩ => exact fin J' rv q
    | .next, ⟨σ', H', J', q⟩ => exact fin (v := V.non) (u := Value.none) J' rfl q
    | .brk, ⟨_, _, _, q⟩ => exact q.elim
    | .cont, ⟨_, _, _, q⟩ => exact q.elim
  · exact fun e t' hs => hs
section
variable {X : Cx} {k : Nat} {f : Addr} {fd : FuncData} {ps : List Str} {sp : Sp}
/-- a call of such a def, its arguments bound -/
theorem callG {pins : List (Addr × Obj)} {σ : L2.St} {H : Hp} {t : Shared} {Q : VK} {us : List Value} {kw : List (Str × Value)} {bs : List Value} {vs : List V} (F : FnG X.prog X.w X.K X.mg X.base k f fd ps sp) (room : Room k X.A) (gd : X.A.guards = some [])
    (bd : BindsTo t fd ⟨us, kw⟩ (ps.zip bs)) (I : Inv X pins σ H t) (rel : Vals vs bs) (h : sp vs H Q E0) : wpAny (model X.prog X.w) X.A (call (.ref f) us kw) (EP X pins σ Q) X.xe t := by
  apply wpAny_call
  apply codeAny_mono (F.go X.A X.stack t H ⟨us, kw⟩ bs vs Q room gd I.env0 bd rel h)
  intro res t' hq
  match res, hq with
  | .ok (.ret u), hq => exact I.after hq
end
end Tm

set_option Elab.async false
set_option linter.all false
set_option maxRecDepth 100000
set_option maxHeartbeats 4000000
namespace Tm
open PySem PySem.Spec PyProof.Rows L2

/-! ## the machine's runs as readings -/
def EnvR (K : PySem.W.Frag) (ρ : List Addr) (H : Hp) (e : Env') (σ : L2.St) : Prop := e.length = σ.length ∧ ∀ (i : Nat) (d : D), e[i]? = some (some d) → ∃ v, σ[i]? = some (some v) ∧ Rep K ρ H v d
theorem EnvR.mono {K : PySem.W.Frag} {ρ ρ' : List Addr} {H H' : Hp} {e : Env'} {σ : L2.St} (h : EnvR K ρ H e σ) (p : Pre ρ ρ') (g : Gro H H') : EnvR K ρ' H' e σ :=
  ⟨h.1, fun i d q => let ⟨v, a, r⟩ := h.2 i d q; ⟨v, a, r.mono g p⟩⟩
def tE (p : Pm) (K : PySem.W.Frag) (c : C) : TE := fun σ H Q => ∃ (ρ : List Addr) (S : Store) (e : Env') (x : D × Store), Sim K ρ S H ∧ EnvR K ρ H e σ ∧ ev p c e S = some x ∧ Aft K ρ H x.2 x.1 Q
def AftA (K : PySem.W.Frag) (ρ : List Addr) (H : Hp) (S' : Store) (ds : List D) (Q : List V → Hp → Prop) : Prop :=
  ∀ (ρ' : List Addr) (H' : Hp) (vs : List V), Pre ρ ρ' → Gro H H' → Sim K ρ' S' H' → Reps K ρ' H' vs ds → Q vs H'
def tA (p : Pm) (K : PySem.W.Frag) (c : C) : TA := fun σ H Q => ∃ (ρ : List Addr) (S : Store) (e : Env') (ds : List D) (S' : Store), Sim K ρ S H ∧ EnvR K ρ H e σ ∧ ev p c e S = some (.tup ds, S') ∧ AftA K ρ H S' ds Q
def AftT (K : PySem.W.Frag) (ρ : List Addr) (H : Hp) (S' : Store) (b : Bool) (Q : Bool → Hp → Prop) : Prop :=
  ∀ (ρ' : List Addr) (H' : Hp), Pre ρ ρ' → Gro H H' → Sim K ρ' S' H' → Q b H'
def tTs (p : Pm) (K : PySem.W.Frag) (c : C) : TT := fun σ H Q => ∃ (ρ : List Addr) (S : Store) (e : Env') (b : Bool) (S' : Store), Sim K ρ S H ∧ EnvR K ρ H e σ ∧ ev p c e S = some (.bl b, S') ∧ AftT K ρ H S' b Q
def tO' (p : Pm) (K : PySem.W.Frag) (c : C) : TO := fun σ H Q => ∃ (ρ : List Addr) (S : Store) (e : Env') (x : Option Int × Store), Sim K ρ S H ∧ EnvR K ρ H e σ ∧ part (isAbs c) S (ev p c e S) = some x ∧
  ∀ (ρ' : List Addr) (H' : Hp), Pre ρ ρ' → Gro H H' → Sim K ρ' x.2 H' → Q x.1 H'
/-- what a walk of the items is -/
def ItOk (K : PySem.W.Frag) (ρ : List Addr) (H : Hp) (items cks : List D) (J : It) : Prop :=
  ∀ (ρ2 : List Addr) (S2 : Store) (H2 : Hp), Pre ρ ρ2 → Gro H H2 → Sim K ρ2 S2 H2 → chks S2 cks = true →
    ∀ i : Nat, (i = items.length → J.stop i H2) ∧ ∀ d, items[i]? = some d → J.go i H2 ∧ ∀ x H3, J.yld i H2 x H3 → Gro H2 H3 ∧ Sim K ρ2 S2 H3 ∧ Rep K ρ2 H3 x d
def tI (p : Pm) (K : PySem.W.Frag) (c : C) : TI := fun σ H R => ∃ (ρ : List Addr) (S : Store) (e : Env') (items cks : List D) (S' : Store), Sim K ρ S H ∧ EnvR K ρ H e σ ∧ ev p c e S = some (itD items cks, S') ∧
  ∀ (ρ' : List Addr) (H' : Hp) (J : It), Pre ρ ρ' → Gro H H' → Sim K ρ' S' H' → ItOk K ρ' H' items cks J → R J H'

theorem PE.imp {X : Cx} {e : Expr} {t t' : TE} (h : PE X e t) (f : ∀ σ H Q, t' σ H Q → t σ H Q) : PE X e t' := ⟨fun pins s σ H Q I q => h.run pins s σ H Q I (f σ H Q q)⟩
theorem PT.imp {X : Cx} {e : Expr} {t t' : TT} (h : PT X e t) (f : ∀ σ H Q, t' σ H Q → t σ H Q) : PT X e t' := ⟨fun pins s σ H Q I q => h.run pins s σ H Q I (f σ H Q q)⟩
theorem PW.imp {X : Cx} {e : Expr} {t t' : TT} (h : PW X e t) (f : ∀ σ H Q, t' σ H Q → t σ H Q) : PW X e t' := ⟨fun wh pins s σ H Q I q => h.run wh pins s σ H Q I (f σ H Q q)⟩
theorem PA.imp {X : Cx} {e : List Expr} {t t' : TA} (h : PA X e t) (f : ∀ σ H Q, t' σ H Q → t σ H Q) : PA X e t' := ⟨fun pos pins s σ H Q I q => h.run pos pins s σ H Q I (f σ H Q q)⟩
theorem PO.imp {X : Cx} {e : Option Expr} {t t' : TO} (h : PO X e t) (f : ∀ σ H Q, t' σ H Q → t σ H Q) : PO X e t' := ⟨fun pins s σ H Q I q => h.run pins s σ H Q I (f σ H Q q)⟩
theorem PI.imp {X : Cx} {tg e : Expr} {t t' : TI} (h : PI X tg e t) (f : ∀ σ H Q, t' σ H Q → t σ H Q) : PI X tg e t' := ⟨fun pins s σ H Q I q => h.run pins s σ H Q I (f σ H Q q)⟩

/-! ## one step after another -/
section
variable {p : Pm} {K : PySem.W.Frag} {ρ : List Addr} {S : Store} {H : Hp} {e : Env'} {σ : L2.St} {a b : C} {x y : D × Store}
theorem st1 (sm : Sim K ρ S H) (en : EnvR K ρ H e σ) (ha : ev p a e S = some x) {Q : VK} (k : ∀ (ρ' : List Addr) (H' : Hp) (v : V), Pre ρ ρ' → Gro H H' → Sim K ρ' x.2 H' → EnvR K ρ' H' e σ → Rep K ρ' H' v x.1 → Q v H') : tE p K a σ H Q :=
  ⟨ρ, S, e, x, sm, en, ha, fun ρ' H' v p1 g1 s1 r1 => k ρ' H' v p1 g1 s1 (en.mono p1 g1) r1⟩
theorem st2 (sm : Sim K ρ S H) (en : EnvR K ρ H e σ) (ha : ev p a e S = some x) (hb : ev p b e x.2 = some y) {R : V → V → Hp → Prop}
    (k : ∀ (ρ' : List Addr) (H' : Hp) (v w : V), Pre ρ ρ' → Gro H H' → Sim K ρ' y.2 H' → EnvR K ρ' H' e σ → Rep K ρ' H' v x.1 → Rep K ρ' H' w y.1 → R v w H') : tE p K a σ H fun v H1 => tE p K b σ H1 fun w H2 => R v w H2 :=
  st1 sm en ha fun ρ1 H1 v p1 g1 s1 e1 r1 => st1 s1 e1 hb fun ρ2 H2 w p2 g2 s2 e2 r2 => k ρ2 H2 v w (p1.trans p2) (g1.trans g2) s2 e2 (r1.mono g2 p2) r2
theorem stT (sm : Sim K ρ S H) (en : EnvR K ρ H e σ) {q : Bool} {S' : Store} (ha : ev p a e S = some (.bl q, S')) {Q : Bool → Hp → Prop} (k : ∀ (ρ' : List Addr) (H' : Hp), Pre ρ ρ' → Gro H H' → Sim K ρ' S' H' → EnvR K ρ' H' e σ → Q q H') : tTs p K a σ H Q :=
  ⟨ρ, S, e, q, S', sm, en, ha, fun ρ' H' p1 g1 s1 => k ρ' H' p1 g1 s1 (en.mono p1 g1)⟩
end

/-! ## what the context of a body must be -/
/-- what all of the machine's functions ask: as many arguments as parameters -/
def Arity (R : Nat → List D → Store → Option (D × Store)) (f n : Nat) : Prop := ∀ ds S x, R f ds S = some x → ds.length = n
/-- what a def of the machine promises -/
def spR (K : PySem.W.Frag) (n : Nat) (f : List D → Store → Option (D × Store)) : Sp := fun vs H Q _ => vs.length = n ∧ rCall K f vs H Q
structure GMat (P : Program) (w : World) (K : PySem.W.Frag) (mg : Str → Option Value) (base : Heap) (p : Pm) (G : Gx) (k : Nat) : Prop where
  funs : ∀ (x : Str) (f : Nat) (ps : List Str), G.funs.lookup x = some (f, ps) → ∃ (a : Addr) (fd : FuncData), mg x = some (.ref a) ∧ PySem.W.keepIn K (.ref a) = true ∧ FnG P w K mg base k a fd ps (spR K ps.length (p.R f)) ∧ Binds K fd ps [] ∧
    ∀ q ∈ G.kws, q.1 = x → ∀ (t : Shared) (us ws : List Value), us.length = q.2.1 → ws.length = q.2.2.1.length → BindsTo t fd ⟨us, q.2.2.1.zip ws⟩ (ps.zip (pick q.2.2.2 (us ++ ws)))
  cons : ∀ (x : Str) (g : Nat), G.cons.lookup x = some g → ∃ (u : Value) (v : V), mg x = some u ∧ RelV v u ∧ ∀ ρ H, Rep K ρ H v (p.gl g)
  dics : ∀ (x : Str) (g : Nat), G.dics.lookup x = some g → ∃ (a : Addr) (es : Array DictEntry) (n : Nat), mg x = some (.ref a) ∧ KDict K w a es n ∧
    ∀ z : Str, match lookK (p.kd g) z with
      | none => PySem.W.nsIn K a z = some none
      | some d => ∃ (u : Value) (v : V), PySem.W.nsIn K a z = some (some u) ∧ RelV v u ∧ ∀ ρ H, Rep K ρ H v d
  blt : ∀ x : Str, G.blt.contains x = true → mg x = none
  ar : ∀ (x : Str) (f : Nat) (ps : List Str), G.funs.lookup x = some (f, ps) → Arity p.R f ps.length
structure Mat (X : Cx) (p : Pm) (c : Cc) (k : Nat) : Prop where
  hN : X.N = c.N
  nd : c.N.Nodup
  sc : X.env.scope.names = c.names
  kind : X.env.scope.kind = .function
  calm : X.calm = true
  gd : X.A.guards = some []
  room : Room k X.A
  xe : X.xe = fun _ _ => False
  fn : ∀ x : Str, c.fnOk x = true → X.fn x = true ∨ X.env.scope.names.lookup x = some .local
  glob : GMat X.prog X.w X.K X.mg X.base p c.G k
section
variable {X : Cx} {p : Pm} {c : Cc} {k : Nat} {e : Expr}
theorem Mat.hu (M : Mat X p c k) : X.A.units + 200 < cLine := by have := M.room.un; omega
theorem Mat.vis (M : Mat X p c k) {x : Str} (h : visB c x = true) : Vis X.env.scope x := by
  unfold Vis
  rw [M.sc]
  unfold visB at h
  split at h <;> first | (exact .inl (by assumption)) | (exact .inr (.inl (by assumption))) | (exact .inr (.inr (by assumption))) | cases h
theorem Mat.loc (M : Mat X p c k) {x : Str} (h : locB c x = true) : L2.Loc X.env.scope x ∧ (X.fn x = true ∨ X.env.scope.names.lookup x = some .local) := by
  unfold locB at h
  rw [Bool.and_eq_true] at h
  refine ⟨?_, M.fn x h.2⟩
  unfold L2.Loc
  rw [M.sc]
  have h1 := h.1
  split at h1 <;> first | (exact .inl (by assumption)) | (exact .inr (by assumption)) | cases h1
theorem Mat.gl (M : Mat X p c k) {x : Str} (h : glB c x = true) : Gl X x ∧ badName x = false := by
  unfold glB at h
  split at h
  · rename_i q
    refine ⟨?_, by simpa using h⟩
    unfold Gl Env.kindOf
    rw [M.sc]
    exact q
  · cases h
theorem Mat.bl (M : Mat X p c k) {x : Str} (h : bltB c x = true) : Gl X x ∧ X.mg x = none ∧ badName x = false := by
  unfold bltB at h
  rw [Bool.and_eq_true] at h
  exact ⟨(M.gl h.1).1, M.glob.blt x h.2, (M.gl h.1).2⟩
theorem bad3 {x : Str} (h : badName x = false) : (x == ("__debug__" : Str)) = false ∧ (x == ("__classdict__" : Str)) = false ∧ x ≠ ("__name__" : Str) := by
  unfold badName at h
  simp only [Bool.or_eq_false_iff] at h
  exact ⟨h.1.1, h.1.2, fun z => by rw [z] at h; exact absurd h.2 (by decide)⟩
theorem none_bad {e : Env'} {S : Store} {x : D × Store} (h : ev p .bad e S = some x) : False := by simp [ev] at h
theorem k_bad : PE X e (tE p X.K .bad) := ⟨fun _ _ _ _ _ _ h => by obtain ⟨_, _, _, _, _, _, h, _⟩ := h; exact (none_bad h).elim⟩
theorem k_badT : PT X e (tTs p X.K .bad) := ⟨fun _ _ _ _ _ _ h => by obtain ⟨_, _, _, _, _, _, _, h, _⟩ := h; exact (none_bad h).elim⟩
theorem k_badW : PW X e (tTs p X.K .bad) := ⟨fun _ _ _ _ _ _ _ h => by obtain ⟨_, _, _, _, _, _, _, h, _⟩ := h; exact (none_bad h).elim⟩
theorem k_name (M : Mat X p c k) {x : Str} {pos : Pos} : PE X (.Name x pos) (tE p X.K (cName c x)) := by
  unfold cName
  split
  · exact k_bad
  · rename_i hb
    obtain ⟨b1, b2, b3⟩ := bad3 (by simpa using hb)
    split
    · rename_i hv
      split
      · rename_i i hi
        refine PE.imp (pe_var (i := i) (by rw [M.hN]; exact ixOf_get hi) (M.vis hv) b1 b2) fun σ H Q h => ?_
        obtain ⟨ρ, S, e, x, sm, en, h, q⟩ := h
        simp only [ev] at h
        split at h
        · rename_i d hd
          cases h
          obtain ⟨v, h1, r⟩ := en.2 i d hd
          exact ⟨v, h1, q.here sm r⟩
        · cases h
      · exact k_bad
    · split
      · rename_i hg
        split
        · rename_i g hc
          obtain ⟨u, v, h1, h2, h3⟩ := M.glob.cons x g hc
          refine PE.imp (pe_glob (M.gl hg).1 h1 h2 b1) fun σ H Q h => ?_
          obtain ⟨ρ, S, e, x, sm, en, h, q⟩ := h
          simp only [ev, Option.some.injEq] at h
          subst h
          exact q.here sm (h3 ρ H)
        · exact k_bad
      · exact k_bad
theorem k_const {kc : Const} {j : Nat} {pos : Pos} : PE X (.Constant kc j pos) (tE p X.K (cConst kc)) := by
  cases kc with
  | none => refine PE.imp pe_non fun σ H Q h => ?_; obtain ⟨ρ, S, e, x, sm, en, h, q⟩ := h; simp only [cConst, ev, isScal, if_true, Option.some.injEq] at h; subst h; exact q.here sm .non
  | bool b => refine PE.imp pe_bl fun σ H Q h => ?_; obtain ⟨ρ, S, e, x, sm, en, h, q⟩ := h; simp only [cConst, ev, isScal, if_true, Option.some.injEq] at h; subst h; exact q.here sm (.bl b)
  | int b => refine PE.imp pe_int fun σ H Q h => ?_; obtain ⟨ρ, S, e, x, sm, en, h, q⟩ := h; simp only [cConst, ev, isScal, if_true, Option.some.injEq] at h; subst h; exact q.here sm (.int b)
  | str b => refine PE.imp pe_str fun σ H Q h => ?_; obtain ⟨ρ, S, e, x, sm, en, h, q⟩ := h; simp only [cConst, ev, isScal, if_true, Option.some.injEq] at h; subst h; exact q.here sm (.str b)
  | _ => exact k_bad
variable {a b d : Expr} {ca cb cd : C} {pos : Pos}
theorem k_bin {o : Operator} {q : Bin} (ho : cBin o = some q) (ha : PE X a (tE p X.K ca)) (hb : PE X b (tE p X.K cb)) : PE X (.BinOp a o b pos) (tE p X.K (.bin q ca cb)) := by
  refine PE.imp (pe_op (op_bin ho) ha hb) fun σ H Q h => ?_
  obtain ⟨ρ, S, e, x, sm, en, h, kq⟩ := h
  simp only [ev, Option.bind_eq_some_iff] at h
  obtain ⟨x1, h1, x2, h2, h3⟩ := h
  exact st2 sm en h1 h2 fun ρ' H' v w p1 g1 s1 e1 r1 r2 => ⟨ρ', x2.2, x1.1, x2.1, x.1, x.2, s1, r1, r2, h3, kq.mono p1 g1⟩
theorem k_neg (ha : PE X a (tE p X.K ca)) : PE X (.UnaryOp .USub a pos) (tE p X.K (.neg ca)) := by
  refine PE.imp (pe_un un_neg ha) fun σ H Q h => ?_
  obtain ⟨ρ, S, e, x, sm, en, h, kq⟩ := h
  simp only [ev, Option.bind_eq_some_iff] at h
  obtain ⟨x1, h1, h2⟩ := h
  refine st1 sm en h1 fun ρ' H' v p1 g1 s1 e1 r1 => ?_
  split at h2
  · rename_i i hi
    cases h2
    rw [hi] at r1
    exact ⟨i, rep_int r1, (kq.mono p1 g1).here s1 (.int _)⟩
  · cases h2
theorem k_notE (ha : PE X a (tE p X.K ca)) : PE X (.UnaryOp .Not a pos) (tE p X.K (.not_ ca)) := by
  refine PE.imp (pe_not ha) fun σ H Q h => ?_
  obtain ⟨ρ, S, e, x, sm, en, h, kq⟩ := h
  simp only [ev, Option.bind_eq_some_iff] at h
  obtain ⟨x1, h1, h2⟩ := h
  refine st1 sm en h1 fun ρ' H' v p1 g1 s1 e1 r1 => ?_
  split at h2
  · rename_i i hi
    cases h2
    rw [hi] at r1
    exact ⟨i, rep_bl r1, (kq.mono p1 g1).here s1 (.bl _)⟩
  · cases h2
theorem noSet {b : Expr} (h : notSet b = true) (op : CmpOp) : behindInMarks op b = false := by
  cases b <;> first | rfl | (simp [notSet] at h; done)
theorem k_cmp (M : Mat X p c k) {o : CmpOp} (hs : notSet b = true) (ha : PE X a (tE p X.K ca)) (hb : PE X b (tE p X.K cb)) : PE X (.Compare a [o] [b] pos) (tE p X.K (.cmp (cCmp o) ca cb)) := by
  refine PE.imp (pe_cmpR (op_cmpM (by have := M.hu; omega) o) ha hb (noSet hs o)) fun σ H Q h => ?_
  obtain ⟨ρ, S, e, x, sm, en, h, kq⟩ := h
  simp only [ev, Option.bind_eq_some_iff, Option.map_eq_some_iff] at h
  obtain ⟨x1, h1, x2, h2, r, h3, h4⟩ := h
  subst h4
  exact st2 sm en h1 h2 fun ρ' H' v w p1 g1 s1 e1 r1 r2 => ⟨ρ', x2.2, x1.1, x2.1, r, s1, r1, r2, h3, (kq.mono p1 g1).here s1 (.bl _)⟩
theorem k_chain (M : Mat X p c k) {o1 o2 : CmpOp} (hs : notSet d = true) (ha : PE X a (tE p X.K ca)) (hb : PE X b (tE p X.K cb)) (hd : PE X d (tE p X.K cd)) :
    PE X (.Compare a [o1, o2] [b, d] pos) (tE p X.K (.chain (cCmp o1) (cCmp o2) ca cb cd)) := by
  have hu : X.A.units + 65 < cLine := by have := M.hu; omega
  refine PE.imp (pe_chain (op_cmpM hu o1) (op_cmpM hu o2) ha hb hd (by simp only [lastMarks]; exact noSet hs o2)) fun σ H Q h => ?_
  obtain ⟨ρ, S, e, x, sm, en, h, kq⟩ := h
  simp only [ev, Option.bind_eq_some_iff] at h
  obtain ⟨x1, h1, x2, h2, r, h3, h4⟩ := h
  refine st2 sm en h1 h2 fun ρ' H' v w p1 g1 s1 e1 r1 r2 => ⟨ρ', x2.2, x1.1, x2.1, r, s1, r1, r2, h3, r, rfl, ?_⟩
  cases r with
  | true =>
    simp only [if_true, Option.bind_eq_some_iff, Option.map_eq_some_iff] at h4 ⊢
    obtain ⟨x3, h5, r', h6, h7⟩ := h4
    subst h7
    exact st1 s1 e1 h5 fun ρ2 H2 z p2 g2 s2 e2 r3 => ⟨ρ2, x3.2, x2.1, x3.1, r', s2, r2.mono g2 p2, r3, h6, (kq.mono (p1.trans p2) (g1.trans g2)).here s2 (.bl _)⟩
  | false =>
    simp only [Bool.false_eq_true, if_false, Option.some.injEq] at h4 ⊢
    subst h4
    exact (kq.mono p1 g1).here s1 (.bl _)
theorem k_and1 {op : BoolOp} (ha : PE X a (tE p X.K ca)) : PE X (.BoolOp op [a] pos) (tE p X.K ca) := pe_one ha
theorem k_and {r : List Expr} (ha : PE X a (tE p X.K ca)) (hb : PE X (.BoolOp .And (b :: r) pos) (tE p X.K cb)) : PE X (.BoolOp .And (a :: b :: r) pos) (tE p X.K (.and_ ca cb)) := by
  refine PE.imp (pe_and ha hb) fun σ H Q h => ?_
  obtain ⟨ρ, S, e, x, sm, en, h, kq⟩ := h
  simp only [ev, Option.bind_eq_some_iff] at h
  obtain ⟨x1, h1, h2⟩ := h
  refine st1 sm en h1 fun ρ' H' v p1 g1 s1 e1 r1 => ?_
  split at h2
  · rename_i hi
    rw [hi] at r1
    refine ⟨true, rep_bl r1, ?_⟩
    exact ⟨ρ', x1.2, e, x, s1, e1, h2, kq.mono p1 g1⟩
  · rename_i hi
    cases h2
    rw [hi] at r1
    exact ⟨false, rep_bl r1, (kq.mono p1 g1).here s1 (.bl _)⟩
  · cases h2
theorem k_or {r : List Expr} (ha : PE X a (tE p X.K ca)) (hb : PE X (.BoolOp .Or (b :: r) pos) (tE p X.K cb)) : PE X (.BoolOp .Or (a :: b :: r) pos) (tE p X.K (.or_ ca cb)) := by
  refine PE.imp (pe_or ha hb) fun σ H Q h => ?_
  obtain ⟨ρ, S, e, x, sm, en, h, kq⟩ := h
  simp only [ev, Option.bind_eq_some_iff] at h
  obtain ⟨x1, h1, h2⟩ := h
  refine st1 sm en h1 fun ρ' H' v p1 g1 s1 e1 r1 => ?_
  split at h2
  · rename_i hi
    cases h2
    rw [hi] at r1
    exact ⟨true, rep_bl r1, (kq.mono p1 g1).here s1 (.bl _)⟩
  · rename_i hi
    rw [hi] at r1
    refine ⟨false, rep_bl r1, ?_⟩
    exact ⟨ρ', x1.2, e, x, s1, e1, h2, kq.mono p1 g1⟩
  · cases h2
theorem k_ife {t : Expr} {ct : C} (ht : PT X t (tTs p X.K ct)) (ha : PE X a (tE p X.K ca)) (hb : PE X b (tE p X.K cb)) : PE X (.IfExp t a b pos) (tE p X.K (.ife ct ca cb)) := by
  refine PE.imp (pe_ifExp ht ha hb) fun σ H Q h => ?_
  obtain ⟨ρ, S, e, x, sm, en, h, kq⟩ := h
  simp only [ev, Option.bind_eq_some_iff] at h
  obtain ⟨x1, h1, h2⟩ := h
  obtain ⟨d1, S1⟩ := x1
  split at h2
  · rename_i hi
    simp only at hi
    subst hi
    refine stT sm en h1 fun ρ' H' p1 g1 s1 e1 => ?_
    exact ⟨ρ', S1, e, x, s1, e1, h2, kq.mono p1 g1⟩
  · rename_i hi
    simp only at hi
    subst hi
    refine stT sm en h1 fun ρ' H' p1 g1 s1 e1 => ?_
    exact ⟨ρ', S1, e, x, s1, e1, h2, kq.mono p1 g1⟩
  · cases h2
/-! ### tests -/
theorem k_tval (ha : PE X e (tE p X.K ca)) (he : ∀ whole, isTrue e X.env whole = (do let v ← whole; standAt e.pos; holding [v] (truthy v))) : PT X e (tTs p X.K ca) := by
  refine PT.imp (pt_val ha he) fun σ H Q h => ?_
  obtain ⟨ρ, S, e, b, S', sm, en, h, kq⟩ := h
  exact st1 sm en h fun ρ' H' v p1 g1 s1 e1 r1 => ⟨b, rep_bl r1, kq ρ' H' p1 g1 s1⟩
theorem k_tcmp (M : Mat X p c k) {o : CmpOp} (hs : notSet b = true) (ha : PE X a (tE p X.K ca)) (hb : PE X b (tE p X.K cb)) : PT X (.Compare a [o] [b] pos) (tTs p X.K (.cmp (cCmp o) ca cb)) := by
  refine PT.imp (pt_cmpR (op_cmpM (by have := M.hu; omega) o) ha hb (noSet hs o)) fun σ H Q h => ?_
  obtain ⟨ρ, S, e, q, S', sm, en, h, kq⟩ := h
  simp only [ev, Option.bind_eq_some_iff, Option.map_eq_some_iff] at h
  obtain ⟨x1, h1, x2, h2, r, h3, h4⟩ := h
  cases h4
  exact st2 sm en h1 h2 fun ρ' H' v w p1 g1 s1 e1 r1 r2 => ⟨ρ', x2.2, x1.1, x2.1, q, s1, r1, r2, h3, q, rfl, kq ρ' H' p1 g1 s1⟩
theorem k_tnot (ha : PT X a (tTs p X.K ca)) : PT X (.UnaryOp .Not a pos) (tTs p X.K (.not_ ca)) := by
  refine PT.imp (pt_not ha) fun σ H Q h => ?_
  obtain ⟨ρ, S, e, q, S', sm, en, h, kq⟩ := h
  simp only [ev, Option.bind_eq_some_iff] at h
  obtain ⟨⟨d1, S1⟩, h1, h2⟩ := h
  split at h2
  · rename_i b hi
    simp only at hi
    subst hi
    cases h2
    exact stT sm en h1 fun ρ' H' p1 g1 s1 e1 => kq ρ' H' p1 g1 s1
  · cases h2
theorem k_tand1 (ha : PT X a (tTs p X.K ca)) : PW X (.BoolOp .And [a] pos) (tTs p X.K ca) := pw_and1 ha
theorem k_tor1 (ha : PT X a (tTs p X.K ca)) : PW X (.BoolOp .Or [a] pos) (tTs p X.K ca) := pw_or1 ha
theorem k_tand {r : List Expr} (ha : PT X a (tTs p X.K ca)) (hb : PW X (.BoolOp .And (b :: r) pos) (tTs p X.K cb)) : PW X (.BoolOp .And (a :: b :: r) pos) (tTs p X.K (.and_ ca cb)) := by
  refine PW.imp (pw_and ha hb) fun σ H Q h => ?_
  obtain ⟨ρ, S, e, q, S', sm, en, h, kq⟩ := h
  simp only [ev, Option.bind_eq_some_iff] at h
  obtain ⟨⟨d1, S1⟩, h1, h2⟩ := h
  split at h2
  · rename_i hi
    simp only at hi
    subst hi
    refine stT sm en h1 fun ρ' H' p1 g1 s1 e1 => ?_
    exact ⟨ρ', S1, e, q, S', s1, e1, h2, fun ρ2 H2 p2 g2 s2 => kq ρ2 H2 (p1.trans p2) (g1.trans g2) s2⟩
  · rename_i hi
    simp only at hi
    subst hi
    cases h2
    exact stT sm en h1 fun ρ' H' p1 g1 s1 e1 => kq ρ' H' p1 g1 s1
  · cases h2
theorem k_tor {r : List Expr} (ha : PT X a (tTs p X.K ca)) (hb : PW X (.BoolOp .Or (b :: r) pos) (tTs p X.K cb)) : PW X (.BoolOp .Or (a :: b :: r) pos) (tTs p X.K (.or_ ca cb)) := by
  refine PW.imp (pw_or ha hb) fun σ H Q h => ?_
  obtain ⟨ρ, S, e, q, S', sm, en, h, kq⟩ := h
  simp only [ev, Option.bind_eq_some_iff] at h
  obtain ⟨⟨d1, S1⟩, h1, h2⟩ := h
  split at h2
  · rename_i hi
    simp only at hi
    subst hi
    cases h2
    exact stT sm en h1 fun ρ' H' p1 g1 s1 e1 => kq ρ' H' p1 g1 s1
  · rename_i hi
    simp only at hi
    subst hi
    refine stT sm en h1 fun ρ' H' p1 g1 s1 e1 => ?_
    exact ⟨ρ', S1, e, q, S', s1, e1, h2, fun ρ2 H2 p2 g2 s2 => kq ρ2 H2 (p1.trans p2) (g1.trans g2) s2⟩
  · cases h2
end
end Tm

set_option Elab.async false
set_option linter.all false
set_option maxRecDepth 100000
set_option maxHeartbeats 4000000
namespace Tm
open PySem PySem.Spec PyProof.Rows L2
section
variable {X : Cx} {p : Pm} {c : Cc} {k : Nat} {e a b d : Expr} {es : List Expr} {ca cb cd : C} {pos : Pos}
/-! ### arguments -/
theorem star1 {e : Expr} (h : notStar e = true) (es : List Expr) (env : Env) : starEach (e :: es) env = (false, eval e env) :: starEach es env := by
  cases e <;> first | rfl | (simp [notStar] at h; done)
theorem noStars {es : List Expr} (h : es.all notStar = true) (pos : Pos) (env : Env) : (backTo pos (starEach es env)).any (·.1) = false := by
  induction es with
  | nil => rfl
  | cons e r ih =>
    rw [List.all_cons, Bool.and_eq_true] at h
    rw [star1 h.1]
    have q := ih h.2
    unfold backTo at q ⊢
    rw [List.map_cons, List.any_cons, q]
    rfl
theorem k_anil : PA X [] (tA p X.K .nil) := PA.imp pa_nil fun σ H Q h => by
  obtain ⟨ρ, S, e, ds, S', sm, en, h, q⟩ := h
  simp only [ev, Option.some.injEq, Prod.mk.injEq, D.tup.injEq] at h
  obtain ⟨h1, h2⟩ := h
  subst h1; subst h2
  exact q ρ H [] (Pre.refl ρ) (Gro.refl H) sm .nil
theorem k_acons (hs : notStar a = true) (ha : PE X a (tE p X.K ca)) (hb : PA X es (tA p X.K cb)) : PA X (a :: es) (tA p X.K (.cons ca cb)) := by
  refine PA.imp (pa_cons ha hb (star1 hs es _)) fun σ H Q h => ?_
  obtain ⟨ρ, S, e, ds, S', sm, en, h, q⟩ := h
  simp only [ev, Option.bind_eq_some_iff] at h
  obtain ⟨x1, h1, ⟨y, S2⟩, h2, h3⟩ := h
  refine st1 sm en h1 fun ρ1 H1 v p1 g1 s1 e1 r1 => ?_
  split at h3
  · rename_i fs hf
    cases h3
    simp only at hf
    subst hf
    exact ⟨ρ1, x1.2, e, fs, _, s1, e1, h2, fun ρ2 H2 vs p2 g2 s2 r2 => q ρ2 H2 (v :: vs) (p1.trans p2) (g1.trans g2) s2 (.cons (r1.mono g2 p2) r2)⟩
  · cases h3
theorem k_abad : PA X es (tA p X.K .bad) := ⟨fun _ _ _ _ _ _ _ h => by obtain ⟨_, _, _, _, _, _, _, h, _⟩ := h; exact (none_bad h).elim⟩
theorem stA {K : PySem.W.Frag} {ρ : List Addr} {S S' : Store} {H : Hp} {e : Env'} {σ : L2.St} {ds : List D} (sm : Sim K ρ S H) (en : EnvR K ρ H e σ) (ha : ev p ca e S = some (.tup ds, S')) {Q : List V → Hp → Prop}
    (q : ∀ (ρ' : List Addr) (H' : Hp) (vs : List V), Pre ρ ρ' → Gro H H' → Sim K ρ' S' H' → EnvR K ρ' H' e σ → Reps K ρ' H' vs ds → Q vs H') : tA p K ca σ H Q :=
  ⟨ρ, S, e, ds, S', sm, en, ha, fun ρ' H' vs p1 g1 s1 r1 => q ρ' H' vs p1 g1 s1 (en.mono p1 g1) r1⟩
theorem k_tup {kk : Nat} (ha : PA X es (tA p X.K ca)) : PE X (.Tuple es kk pos) (tE p X.K (.tup ca)) := by
  refine PE.imp (pe_tup ha) fun σ H Q h => ?_
  obtain ⟨ρ, S, e, x, sm, en, h, q⟩ := h
  simp only [ev, Option.bind_eq_some_iff] at h
  obtain ⟨⟨y, S1⟩, h1, h2⟩ := h
  split at h2
  · rename_i ds hd
    simp only at hd
    subst hd
    obtain ⟨hz, h3⟩ := okI_some h2
    subst h3
    refine stA sm en h1 fun ρ1 H1 vs p1 g1 s1 e1 r1 => ⟨by rw [r1.length]; exact of_decide_eq_true hz, fun pp hp => (q.mono p1 g1).tup s1 r1 hp⟩
  · cases h2
theorem k_lst (ha : PA X es (tA p X.K ca)) : PE X (.List es pos) (tE p X.K (.lst ca)) := by
  refine PE.imp (pe_lst ha) fun σ H Q h => ?_
  obtain ⟨ρ, S, e, x, sm, en, h, q⟩ := h
  simp only [ev, Option.bind_eq_some_iff] at h
  obtain ⟨⟨y, S1⟩, h1, h2⟩ := h
  split at h2
  · rename_i ds hd
    simp only at hd
    subst hd
    split at h2
    · rename_i hz
      cases h2
      exact stA sm en h1 fun ρ1 H1 vs p1 g1 s1 e1 r1 => ⟨by rw [r1.length]; exact hz, fun pp hp => (q.mono p1 g1).lst s1 r1 hp⟩
    · cases h2
  · cases h2
/-! ### subscripts -/
theorem plainIx (h : isSlice b = false) : PlainIx b := by
  intro o i
  cases b <;> first | rfl | (simp [isSlice] at h; done)
theorem k_idx (hs : isSlice b = false) (ha : PE X a (tE p X.K ca)) (hb : PE X b (tE p X.K cb)) : PE X (.Subscript a b pos) (tE p X.K (.idx ca cb)) := by
  refine PE.imp (pe_ix ix_M ha hb (plainIx hs)) fun σ H Q h => ?_
  obtain ⟨ρ, S, e, x, sm, en, h, q⟩ := h
  simp only [ev, Option.bind_eq_some_iff, Option.map_eq_some_iff] at h
  obtain ⟨x1, h1, x2, h2, d, h3, h4⟩ := h
  subst h4
  exact st2 sm en h1 h2 fun ρ' H' v w p1 g1 s1 e1 r1 r2 => ⟨ρ', x2.2, x1.1, x2.1, d, s1, r1, r2, h3, fun z rz => (q.mono p1 g1).here s1 rz⟩
theorem k_onone : PO X none (tO' p X.K .absent) := PO.imp po_none fun σ H Q h => by
  obtain ⟨ρ, S, e, x, sm, en, h, q⟩ := h
  simp only [part, isAbs, if_true, Option.some.injEq] at h
  subst h
  exact q ρ H (Pre.refl ρ) (Gro.refl H) sm
theorem k_osome (hn : isAbs ca = false) (ha : PE X a (tE p X.K ca)) : PO X (some a) (tO' p X.K ca) := PO.imp (po_some ha) fun σ H Q h => by
  obtain ⟨ρ, S, e, x, sm, en, h, q⟩ := h
  simp only [part, hn, Bool.false_eq_true, if_false, Option.bind_eq_some_iff] at h
  obtain ⟨⟨y, S1⟩, h1, h2⟩ := h
  split at h2
  · rename_i i hi
    simp only at hi
    subst hi
    cases h2
    exact st1 sm en h1 fun ρ1 H1 v p1 g1 s1 e1 r1 => ⟨i, rep_int r1, q ρ1 H1 p1 g1 s1⟩
  · cases h2
theorem k_slc {lo hi : Option Expr} {p2 : Pos} (ha : PE X a (tE p X.K ca)) (hl : PO X lo (tO' p X.K cb)) (hh : PO X hi (tO' p X.K cd)) : PE X (.Subscript a (.Slice lo hi none p2) pos) (tE p X.K (.slc ca cb cd)) := by
  refine PE.imp (pe_slice sl_M ha hl hh) fun σ H Q h => ?_
  obtain ⟨ρ, S, e, x, sm, en, h, q⟩ := h
  simp only [ev, Option.bind_eq_some_iff] at h
  obtain ⟨x1, h1, x2, h2, x3, h3, h4⟩ := h
  refine st1 sm en h1 fun ρ1 H1 v p1 g1 s1 e1 r1 => ⟨ρ1, x1.2, e, x2, s1, e1, h2, fun ρ2 H2 p2 g2 s2 => ⟨ρ2, x2.2, e, x3, s2, e1.mono p2 g2, h3, fun ρ3 H3 p3 g3 s3 => ?_⟩⟩
  exact ⟨ρ3, x3.2, x1.1, x.1, x.2, s3, r1.mono (g2.trans g3) (p2.trans p3), h4, q.mono (p1.trans (p2.trans p3)) (g1.trans (g2.trans g3))⟩
/-! ### the module's dicts -/
theorem dicOf_some {g : Nat} (h : dicOf c a = some g) : ∃ x pos, a = .Name x pos ∧ glB c x = true ∧ c.G.dics.lookup x = some g := by
  cases a with
  | Name x pos =>
    simp only [dicOf] at h
    split at h
    · exact ⟨x, pos, rfl, by assumption, h⟩
    · cases h
  | _ => simp [dicOf] at h
theorem k_kget (M : Mat X p c k) {g : Nat} (hd : dicOf c a = some g) (hs : isSlice b = false) (hb : PE X b (tE p X.K cb)) : PE X (.Subscript a b pos) (tE p X.K (.kget g cb)) := by
  obtain ⟨x, px, ea, hg, hl⟩ := dicOf_some hd
  subst ea
  obtain ⟨A, es, n, hm, hk, hz⟩ := M.glob.dics x g hl
  refine PE.imp (pe_ix ix_kdict (pe_glob (v := .ref A) (M.gl hg).1 hm rfl (bad3 (M.gl hg).2).1) hb (plainIx hs)) fun σ H Q h => ?_
  obtain ⟨ρ, S, e, x, sm, en, h, q⟩ := h
  simp only [ev, Option.bind_eq_some_iff] at h
  obtain ⟨⟨y, S1⟩, h1, h2⟩ := h
  split at h2
  · rename_i z hzz
    simp only at hzz
    subst hzz
    simp only [Option.map_eq_some_iff] at h2
    obtain ⟨d, h3, h4⟩ := h2
    subst h4
    have hz := hz z
    rw [h3] at hz
    obtain ⟨u, v, h5, h6, h7⟩ := hz
    refine st1 sm en h1 fun ρ1 H1 w p1 g1 s1 e1 r1 => ?_
    exact ⟨A, z, v, rfl, rep_str r1, ⟨es, n, u, hk.at_, hk.lit, h5, h6⟩, (q.mono p1 g1).here s1 (h7 _ _)⟩
  · cases h2
theorem k_kin (M : Mat X p c k) {g : Nat} (hd : dicOf c b = some g) (hs : notSet b = true) (ha : PE X a (tE p X.K ca)) : PE X (.Compare a [.In] [b] pos) (tE p X.K (.kin g false ca)) := by
  obtain ⟨x, px, eb, hg, hl⟩ := dicOf_some hd
  subst eb
  obtain ⟨A, es, n, hm, hk, hz⟩ := M.glob.dics x g hl
  refine PE.imp (pe_cmpR (op_in_kd hk) ha (pe_glob (v := .ref A) (M.gl hg).1 hm rfl (bad3 (M.gl hg).2).1) rfl) fun σ H Q h => ?_
  obtain ⟨ρ, S, e, x, sm, en, h, q⟩ := h
  simp only [ev, Option.bind_eq_some_iff] at h
  obtain ⟨⟨y, S1⟩, h1, h2⟩ := h
  split at h2
  · rename_i z hzz
    simp only at hzz
    subst hzz
    cases h2
    have hz := hz z
    refine st1 sm en h1 fun ρ1 H1 w p1 g1 s1 e1 r1 => ?_
    cases q1 : lookK (p.kd g) z with
    | none => rw [q1] at hz q; exact ⟨z, _, rep_str r1, rfl, hz, (q.mono p1 g1).here s1 (.bl _)⟩
    | some d =>
      rw [q1] at hz q
      obtain ⟨u, v, h5, h6, h7⟩ := hz
      exact ⟨z, _, rep_str r1, rfl, h5, (q.mono p1 g1).here s1 (.bl _)⟩
  · cases h2
theorem k_knin (M : Mat X p c k) {g : Nat} (hd : dicOf c b = some g) (hs : notSet b = true) (ha : PE X a (tE p X.K ca)) : PE X (.Compare a [.NotIn] [b] pos) (tE p X.K (.kin g true ca)) := by
  obtain ⟨x, px, eb, hg, hl⟩ := dicOf_some hd
  subst eb
  obtain ⟨A, es, n, hm, hk, hz⟩ := M.glob.dics x g hl
  refine PE.imp (pe_cmpR (op_notIn_kd hk) ha (pe_glob (v := .ref A) (M.gl hg).1 hm rfl (bad3 (M.gl hg).2).1) rfl) fun σ H Q h => ?_
  obtain ⟨ρ, S, e, x, sm, en, h, q⟩ := h
  simp only [ev, Option.bind_eq_some_iff] at h
  obtain ⟨⟨y, S1⟩, h1, h2⟩ := h
  split at h2
  · rename_i z hzz
    simp only at hzz
    subst hzz
    cases h2
    have hz := hz z
    refine st1 sm en h1 fun ρ1 H1 w p1 g1 s1 e1 r1 => ?_
    cases q1 : lookK (p.kd g) z with
    | none => rw [q1] at hz q; exact ⟨z, _, rep_str r1, rfl, hz, (q.mono p1 g1).here s1 (.bl _)⟩
    | some d =>
      rw [q1] at hz q
      obtain ⟨u, v, h5, h6, h7⟩ := hz
      exact ⟨z, _, rep_str r1, rfl, h5, (q.mono p1 g1).here s1 (.bl _)⟩
  · cases h2
theorem k_tkin (M : Mat X p c k) {g : Nat} (hd : dicOf c b = some g) (ha : PE X a (tE p X.K ca)) : PT X (.Compare a [.In] [b] pos) (tTs p X.K (.kin g false ca)) := by
  obtain ⟨x, px, eb, hg, hl⟩ := dicOf_some hd
  subst eb
  obtain ⟨A, es, n, hm, hk, hz⟩ := M.glob.dics x g hl
  refine PT.imp (pt_cmpR (op_in_kd hk) ha (pe_glob (v := .ref A) (M.gl hg).1 hm rfl (bad3 (M.gl hg).2).1) rfl) fun σ H Q h => ?_
  obtain ⟨ρ, S, e, q0, S', sm, en, h, q⟩ := h
  simp only [ev, Option.bind_eq_some_iff] at h
  obtain ⟨⟨y, S1⟩, h1, h2⟩ := h
  split at h2
  · rename_i z hzz
    simp only at hzz
    subst hzz
    cases h2
    have hz := hz z
    refine st1 sm en h1 fun ρ1 H1 w p1 g1 s1 e1 r1 => ?_
    cases q1 : lookK (p.kd g) z with
    | none => rw [q1] at hz q; exact ⟨z, _, rep_str r1, rfl, hz, _, rfl, q ρ1 H1 p1 g1 s1⟩
    | some d =>
      rw [q1] at hz q
      obtain ⟨u, v, h5, h6, h7⟩ := hz
      exact ⟨z, _, rep_str r1, rfl, h5, _, rfl, q ρ1 H1 p1 g1 s1⟩
  · cases h2
theorem k_tknin (M : Mat X p c k) {g : Nat} (hd : dicOf c b = some g) (ha : PE X a (tE p X.K ca)) : PT X (.Compare a [.NotIn] [b] pos) (tTs p X.K (.kin g true ca)) := by
  obtain ⟨x, px, eb, hg, hl⟩ := dicOf_some hd
  subst eb
  obtain ⟨A, es, n, hm, hk, hz⟩ := M.glob.dics x g hl
  refine PT.imp (pt_cmpR (op_notIn_kd hk) ha (pe_glob (v := .ref A) (M.gl hg).1 hm rfl (bad3 (M.gl hg).2).1) rfl) fun σ H Q h => ?_
  obtain ⟨ρ, S, e, q0, S', sm, en, h, q⟩ := h
  simp only [ev, Option.bind_eq_some_iff] at h
  obtain ⟨⟨y, S1⟩, h1, h2⟩ := h
  split at h2
  · rename_i z hzz
    simp only at hzz
    subst hzz
    cases h2
    have hz := hz z
    refine st1 sm en h1 fun ρ1 H1 w p1 g1 s1 e1 r1 => ?_
    cases q1 : lookK (p.kd g) z with
    | none => rw [q1] at hz q; exact ⟨z, _, rep_str r1, rfl, hz, _, rfl, q ρ1 H1 p1 g1 s1⟩
    | some d =>
      rw [q1] at hz q
      obtain ⟨u, v, h5, h6, h7⟩ := hz
      exact ⟨z, _, rep_str r1, rfl, h5, _, rfl, q ρ1 H1 p1 g1 s1⟩
  · cases h2
theorem k_tchain (M : Mat X p c k) {o1 o2 : CmpOp} (hs : notSet d = true) (ha : PE X a (tE p X.K ca)) (hb : PE X b (tE p X.K cb)) (hd : PE X d (tE p X.K cd)) :
    PT X (.Compare a [o1, o2] [b, d] pos) (tTs p X.K (.chain (cCmp o1) (cCmp o2) ca cb cd)) := by
  have hu : X.A.units + 65 < cLine := by have := M.hu; omega
  refine PT.imp (pt_chain (op_cmpM hu o1) (op_cmpM hu o2) ha hb hd (by simp only [lastMarks]; exact noSet hs o2)) fun σ H Q h => ?_
  obtain ⟨ρ, S, e, q0, S', sm, en, h, kq⟩ := h
  simp only [ev, Option.bind_eq_some_iff] at h
  obtain ⟨x1, h1, x2, h2, r, h3, h4⟩ := h
  refine st2 sm en h1 h2 fun ρ' H' v w p1 g1 s1 e1 r1 r2 => ⟨ρ', x2.2, x1.1, x2.1, r, s1, r1, r2, h3, r, rfl, ?_⟩
  cases r with
  | true =>
    simp only [if_true, Option.bind_eq_some_iff, Option.map_eq_some_iff] at h4 ⊢
    obtain ⟨x3, h5, r', h6, h7⟩ := h4
    cases h7
    exact st1 s1 e1 h5 fun ρ2 H2 z p2 g2 s2 e2 r3 => ⟨ρ2, x3.2, x2.1, x3.1, _, s2, r2.mono g2 p2, r3, h6, _, rfl, kq ρ2 H2 (p1.trans p2) (g1.trans g2) s2⟩
  | false =>
    simp only [Bool.false_eq_true, if_false, Option.some.injEq, Prod.mk.injEq, D.bl.injEq] at h4 ⊢
    obtain ⟨h5, h6⟩ := h4
    subst h5; subst h6
    exact ⟨false, rfl, kq ρ' H' p1 g1 s1⟩
theorem k_kgetd (M : Mat X p c k) {g : Nat} {o : Expr} {ap cp : Pos} (hd : dicOf c o = some g) (hap : (ap.endLine == cp.line) = true) (h1 : notStar a = true) (h2 : notStar b = true) (ha : PE X a (tE p X.K ca)) (hb : PE X b (tE p X.K cb)) :
    PE X (.Call (.Attribute o "get" ap) [a, b] [] cp) (tE p X.K (.kgetd g ca cb)) := by
  obtain ⟨x, px, eo, hg, hl⟩ := dicOf_some hd
  subst eo
  obtain ⟨A, es, n, hm, hk, hz⟩ := M.glob.dics x g hl
  have hst : starEach [a, b] X.env = [(false, eval a X.env), (false, eval b X.env)] := by rw [star1 h1, star1 h2]; rfl
  refine ⟨fun pins s σ H Q I h => ?_⟩
  obtain ⟨ρ, S, e, y, sm, en, h, q⟩ := h
  simp only [ev, Option.bind_eq_some_iff] at h
  obtain ⟨x1, e1, x2, e2, h⟩ := h
  refine wpAny_Call_method rfl (by rw [hst]; rfl) hap PySem.F.plainAttrs_dict PySem.F.slot_dict_get PySem.F.type_dict_get
    (thn ((pe_glob (v := .ref A) (M.gl hg).1 hm rfl (bad3 (M.gl hg).2).1).run pins s σ H (fun v H1 => v = .ref A ∧ H1 = H) I ⟨rfl, rfl⟩) fun u s1 ⟨v, H1, I1, rv, ev', eH⟩ => ?_)
  subst ev'
  subst eH
  cases rv
  have mo := PySem.W.mapOf_K (prog := X.prog) (w := X.w) I1.kIn hk.at_ hk.lit
  refine ⟨mo.typeIs, fun bb q' => ?_, ?_⟩
  · cases q'
    exact ⟨_, I1.kIn _ _ hk.at_, rfl⟩
  rw [hst]
  refine Calls.callWith_builtin rfl (Calls.evalArgs_plain (Calls.spliced_cons (thn (ha.run pins s1 σ H1 _ I1 (st1 sm en e1 (Q := fun v H2 => ∃ ρ2, Pre ρ ρ2 ∧ Gro H1 H2 ∧ Sim X.K ρ2 x1.2 H2 ∧ EnvR X.K ρ2 H2 e σ ∧ Rep X.K ρ2 H2 v x1.1) fun ρ' H' v p1 g1 s1 e1 r1 => ⟨ρ', p1, g1, s1, e1, r1⟩))
    fun iv s2 ⟨y1, H2, I2, ry, ρ2, p2, g2, sm2, en2, r2⟩ =>
    Calls.spliced_cons (thn (hb.run pins s2 σ H2 _ I2 (st1 sm2 en2 e2 (Q := fun v H3 => ∃ ρ3, Pre ρ2 ρ3 ∧ Gro H2 H3 ∧ Sim X.K ρ3 x2.2 H3 ∧ Rep X.K ρ3 H3 v x2.1) fun ρ' H' v p1 g1 s1 e1 r1 => ⟨ρ', p1, g1, s1, r1⟩))
    fun fv s3 ⟨z1, H3, I3, rz, ρ3, p3, g3, sm3, r3⟩ => Calls.spliced_nil ?_))))
  obtain ⟨d1, S1⟩ := x1
  split at h
  · rename_i z hzz
    simp only at hzz
    subst hzz
    cases h
    cases r2
    obtain ⟨t, rfl⟩ := ry
    have mo3 := PySem.W.mapOf_K (prog := X.prog) (w := X.w) I3.kIn hk.at_ hk.lit
    refine call_meetsIn PySem.F.slot_dict_get mo3.typeIs PySem.F.entry_dict_get (PySem.F.args_dict_get_3 _ _ _) (meets_dict_get_default (strKind X.prog X.w) A (PySem.strKind_is X.prog X.w z t) hk.low fv) ⟨_, mo3, ?_⟩
    have hz := hz z
    have kq := q.mono (p2.trans p3) (g2.trans g3)
    cases q1 : lookK (p.kd g) z with
    | none =>
      rw [q1] at hz kq
      rw [PySem.W.find_K hk.at_ hz]
      exact ⟨z1, H3, I3.tok _, rz, kq.here sm3 r3⟩
    | some d =>
      rw [q1] at hz kq
      obtain ⟨u, v, h5, h6, h7⟩ := hz
      rw [PySem.W.find_K hk.at_ h5]
      exact ⟨v, H3, I3.tok _, h6, kq.here sm3 (h7 _ _)⟩
  · cases h
end
end Tm

set_option Elab.async false
set_option linter.all false
set_option maxRecDepth 100000
set_option maxHeartbeats 4000000
namespace Tm
open PySem PySem.Spec PyProof.Rows L2
/-! ### picking arguments -/
theorem pick_rep {K : PySem.W.Frag} {ρ : List Addr} {H : Hp} {vs : List V} {ds : List D} (r : Reps K ρ H vs ds) : ∀ perm : List Nat, Reps K ρ H (pick perm vs) (pick perm ds)
  | [] => .nil
  | i :: l => by
    have ih := pick_rep r l
    unfold pick at ih ⊢
    cases e : ds[i]? with
    | none =>
      have e2 : vs[i]? = none := by
        rw [List.getElem?_eq_none_iff] at e ⊢
        rw [r.length]; exact e
      rw [List.filterMap_cons, List.filterMap_cons, e, e2]
      exact ih
    | some d =>
      obtain ⟨v, h1, h2⟩ := r.get e
      rw [List.filterMap_cons, List.filterMap_cons, e, h1]
      exact .cons h2 ih
theorem pick_vals {vs : List V} {us : List Value} (r : Vals vs us) : ∀ perm : List Nat, Vals (pick perm vs) (pick perm us)
  | [] => .nil
  | i :: l => by
    have ih := pick_vals r l
    unfold pick at ih ⊢
    cases e : vs[i]? with
    | none =>
      rw [List.filterMap_cons, List.filterMap_cons, e, r.none_of e]
      exact ih
    | some d =>
      obtain ⟨v, h1, h2⟩ := r.get e
      rw [List.filterMap_cons, List.filterMap_cons, e, h1]
      exact .cons h2 ih
theorem filterMap_range {α : Type} : ∀ l : List α, (List.range l.length).filterMap (fun i => l[i]?) = l := by
  intro l
  induction l with
  | nil => rfl
  | cons x r ih =>
    rw [List.length_cons, List.range_succ_eq_map, List.filterMap_cons]
    simp only [List.getElem?_cons_zero, List.filterMap_map]
    congr 1
theorem pick_all {α : Type} (l : List α) (n : Nat) (h : n = l.length) : pick (List.range n) l = l := by
  subst h
  exact filterMap_range l
section
variable {X : Cx} {p : Pm} {c : Cc} {k : Nat} {e a b d : Expr} {es : List Expr} {ca cb cd : C} {pos : Pos}
/-! ### keywords -/
theorem k_knil : PK X [] (tA p X.K .nil) := ⟨fun pos pins s σ H Q I h => by
  obtain ⟨ρ, S, e, ds, S', sm, en, h, q⟩ := h
  simp only [ev, Option.some.injEq, Prod.mk.injEq, D.tup.injEq] at h
  obtain ⟨h1, h2⟩ := h
  subst h1; subst h2
  exact pk_nil.run pos pins s σ H Q I (q ρ H [] (Pre.refl ρ) (Gro.refl H) sm .nil)⟩
theorem k_kcons {nm : Option Str} {kp : Pos} {kws : List Keyword} (ha : PE X a (tE p X.K ca)) (hb : PK X kws (tA p X.K cb)) : PK X (⟨nm, a, kp⟩ :: kws) (tA p X.K (.cons ca cb)) := ⟨fun pos pins s σ H Q I h => by
  refine (pk_cons ha hb).run pos pins s σ H Q I ?_
  obtain ⟨ρ, S, e, ds, S', sm, en, h, q⟩ := h
  simp only [ev, Option.bind_eq_some_iff] at h
  obtain ⟨x1, h1, ⟨y, S2⟩, h2, h3⟩ := h
  refine st1 sm en h1 fun ρ1 H1 v p1 g1 s1 e1 r1 => ?_
  split at h3
  · rename_i fs hf
    cases h3
    simp only at hf
    subst hf
    exact ⟨ρ1, x1.2, e, fs, _, s1, e1, h2, fun ρ2 H2 vs p2 g2 s2 r2 => q ρ2 H2 (v :: vs) (p1.trans p2) (g1.trans g2) s2 (.cons (r1.mono g2 p2) r2)⟩
  · cases h3⟩
theorem k_kbad {kws : List Keyword} : PK X kws (tA p X.K .bad) := ⟨fun _ _ _ _ _ _ _ h => by obtain ⟨_, _, _, _, _, _, _, h, _⟩ := h; exact (none_bad h).elim⟩
/-! ### calls -/
theorem sp_call {K : PySem.W.Frag} {f : List D → Store → Option (D × Store)} {ρ : List Addr} {S : Store} {H : Hp} {vs : List V} {ds : List D} {x : D × Store} {Q : VK} {n : Nat} (hn : ds.length = n) (sm : Sim K ρ S H) (r : Reps K ρ H vs ds) (h : f ds S = some x) (q : Aft K ρ H x.2 x.1 Q) : spR K n f vs H Q E0 :=
  ⟨by rw [r.length]; exact hn, ρ, S, ds, x.1, x.2, sm, r, h, q⟩
theorem k_call (M : Mat X p c k) {x : Str} {f : Nat} {ps : List Str} {px : Pos} (hg : glB c x = true) (hf : c.G.funs.lookup x = some (f, ps)) (har : Arity p.R f ps.length) (hst : (a :: es).all notStar = true) (hn : (a :: es).length = ps.length)
    (ha : PA X (a :: es) (tA p X.K ca)) (hl : ∀ e S ds S', ev p ca e S = some (.tup ds, S') → ds.length = (a :: es).length) : PE X (.Call (.Name x px) (a :: es) [] pos) (tE p X.K (.call f (List.range ps.length) ca .nil)) := by
  obtain ⟨A, fd, hm, hk, F, hb, _⟩ := M.glob.funs x f ps hf
  have hst2 := hst
  rw [List.all_cons, Bool.and_eq_true] at hst2
  refine ⟨fun pins s σ H Q I h => ?_⟩
  obtain ⟨ρ, S, e, y, sm, en, h, q⟩ := h
  simp only [ev, Option.bind_eq_some_iff] at h
  obtain ⟨⟨d1, S1⟩, h1, x2, h2, h3⟩ := h
  cases h2
  split at h3
  · rename_i ds fs e1 e2
    simp only at e1 e2
    subst e1
    cases e2
    rw [List.append_nil, pick_all ds ps.length (by rw [hl _ _ _ _ h1, hn])] at h3
    apply wpAny_Call_Name_kw
    apply ld_glob I (M.gl hg).1 hm _ (bad3 (M.gl hg).2).1
    apply PySem.W.callWith_K (h₀ := X.base) I.ok.mod.kin hk _ (star1 hst2.1 es X.env) (noStars hst2.2 _ _)
    refine thn (ha.run pos pins s σ H _ I (stA sm en h1 fun ρ1 H1 vs p1 g1 s1 e1 r1 => sp_call (har _ _ _ h3) s1 r1 h3 (q.mono p1 g1))) fun us s1 ⟨vs, H1, I1, rv, hsp⟩ => ⟨I1.kIn, ?_⟩
    have hz : us.length = ps.length := by
      rw [← rv.length]; exact hsp.1
    have bd := hb s1 us I1.kIn (by rw [List.append_nil]; exact hz)
    rw [List.append_nil] at bd
    exact callG F M.room M.gd bd I1 rv hsp
  · cases h3
theorem kwNames_ok : ∀ {kws : List Keyword} {ks : List Str}, kwNames kws = some ks → ∀ (pos : Pos) (env : Env), (backToKw pos (keywordEach kws env)).all (·.1.isSome) = true ∧ (backToKw pos (keywordEach kws env)).filterMap (·.1) = ks ∧ (backToKw pos (keywordEach kws env)).any (·.1.isNone) = false
  | [], ks, h, pos, env => by simp [kwNames] at h; subst h; exact ⟨rfl, rfl, rfl⟩
  | ⟨some x, v, kp⟩ :: r, ks, h, pos, env => by
    simp only [kwNames, Option.map_eq_some_iff] at h
    obtain ⟨s, h1, rfl⟩ := h
    obtain ⟨a1, a2, a3⟩ := kwNames_ok h1 pos env
    unfold backToKw at a1 a2 a3 ⊢
    refine ⟨?_, ?_, ?_⟩
    · show (true && _) = true; rw [Bool.true_and]; exact a1
    · show x :: _ = _; rw [← a2]
    · show (false || _) = false; rw [Bool.false_or]; exact a3
  | ⟨none, _, _⟩ :: _, ks, h, _, _ => by simp [kwNames] at h
theorem k_callK (M : Mat X p c k) {x : Str} {f : Nat} {ps ks : List Str} {px : Pos} {kws : List Keyword} {q : Str × Nat × List Str × List Nat} (hg : glB c x = true) (hf : c.G.funs.lookup x = some (f, ps)) (har : Arity p.R f ps.length) (hst : es.all notStar = true)
    (hks : kwNames kws = some ks) (hq : q ∈ c.G.kws) (hx : q.1 = x) (hnp : q.2.1 = es.length) (hqk : q.2.2.1 = ks)
    (ha : PA X es (tA p X.K ca)) (hb : PK X kws (tA p X.K cb)) (hl : ∀ e S ds S', ev p ca e S = some (.tup ds, S') → ds.length = es.length) (hl2 : ∀ e S ds S', ev p cb e S = some (.tup ds, S') → ds.length = ks.length)
    (hnil : es = [] → ∀ e S x, ev p ca e S = some x → x.2 = S) :
    PE X (.Call (.Name x px) es kws pos) (tE p X.K (.call f q.2.2.2 ca cb)) := by
  obtain ⟨A, fd, hm, hk, F, _, hbk⟩ := M.glob.funs x f ps hf
  have hbk := hbk q hq hx
  rw [hnp, hqk] at hbk
  refine ⟨fun pins s σ H Q I h => ?_⟩
  obtain ⟨ρ, S, e, y, sm, en, h, kq⟩ := h
  simp only [ev, Option.bind_eq_some_iff] at h
  obtain ⟨⟨d1, S1⟩, h1, ⟨d2, S2⟩, h2, h3⟩ := h
  obtain ⟨n1, n2, n3⟩ := kwNames_ok hks pos X.env
  split at h3
  · rename_i ds fs e1 e2
    simp only at e1 e2
    subst e1
    subst e2
    have fin : ∀ (s2 : Shared) (H2 : Hp) (us ws : List Value) (vs zs : List V) (ρ2 : List Addr), Inv X pins σ H2 s2 → Vals vs us → Vals zs ws → Pre ρ ρ2 → Gro H H2 → Sim X.K ρ2 S2 H2 → Reps X.K ρ2 H2 vs ds → Reps X.K ρ2 H2 zs fs →
        wpAny (model X.prog X.w) X.A (call (.ref A) ([] ++ us) (((backToKw pos (keywordEach kws X.env)).filterMap (·.1)).zip ws)) (EP X pins σ Q) X.xe s2 := by
      intro s2 H2 us ws vs zs ρ2 I2 rv rz p2 g2 s2' r1 r2
      rw [n2]
      have hu : us.length = es.length := by rw [← rv.length, r1.length, hl _ _ _ _ h1]
      have hw : ws.length = ks.length := by rw [← rz.length, r2.length, hl2 _ _ _ _ h2]
      exact callG F M.room M.gd (hbk s2 us ws hu hw) I2 (pick_vals (rv.append rz) _) (sp_call (har _ _ _ h3) s2' (pick_rep (r1.append r2) _) h3 (kq.mono p2 g2))
    apply wpAny_Call_Name_kw
    apply ld_glob I (M.gl hg).1 hm _ (bad3 (M.gl hg).2).1
    cases es with
    | nil =>
      refine PySem.W.callWith_KW0 (h₀ := X.base) I.ok.mod.kin hk n1 ?_ (by rw [n3]; rfl)
      have h0 := hl _ _ _ _ h1
      simp only [List.length_nil, List.length_eq_zero_iff] at h0
      subst h0
      have hS := hnil rfl _ _ _ h1
      simp only at hS
      subst hS
      refine thn (hb.run pos pins s σ H (fun zs H1 => ∃ ρ1, Pre ρ ρ1 ∧ Gro H H1 ∧ Sim X.K ρ1 S2 H1 ∧ Reps X.K ρ1 H1 zs fs) I (stA sm en h2 fun ρ1 H1 vs p1 g1 s1 e1 r1 => ⟨ρ1, p1, g1, s1, r1⟩))
        fun ws s1 ⟨zs, H1, I1, rz, ρ1, p1, g1, s1', r1⟩ => ⟨I1.kIn, fin s1 H1 [] ws [] zs ρ1 I1 .nil rz p1 g1 s1' .nil r1⟩
    | cons e1 er =>
      have hst2 := hst
      rw [List.all_cons, Bool.and_eq_true] at hst2
      refine PySem.W.callWith_KW (h₀ := X.base) I.ok.mod.kin hk n1 ?_ (by rw [noStars hst, n3]; rfl) (star1 hst2.1 er X.env)
      refine thn (ha.run pos pins s σ H (fun vs H1 => ∃ ρ1, Pre ρ ρ1 ∧ Gro H H1 ∧ Sim X.K ρ1 S1 H1 ∧ EnvR X.K ρ1 H1 e σ ∧ Reps X.K ρ1 H1 vs ds) I (stA sm en h1 fun ρ1 H1 vs p1 g1 s1 e1 r1 => ⟨ρ1, p1, g1, s1, e1, r1⟩))
        fun us s1 ⟨vs, H1, I1, rv, ρ1, p1, g1, sm1, en1, r1⟩ => ?_
      refine thn (hb.run pos pins s1 σ H1 (fun zs H2 => ∃ ρ2, Pre ρ1 ρ2 ∧ Gro H1 H2 ∧ Sim X.K ρ2 S2 H2 ∧ Reps X.K ρ2 H2 zs fs) I1 (stA sm1 en1 h2 fun ρ2 H2 vs p2 g2 s2 e2 r2 => ⟨ρ2, p2, g2, s2, r2⟩))
        fun ws s2 ⟨zs, H2, I2, rz, ρ2, p2, g2, sm2, r2⟩ => ⟨I2.kIn, fin s2 H2 us ws vs zs ρ2 I2 rv rz (p1.trans p2) (g1.trans g2) sm2 (r1.mono g2 p2) r2⟩
  · cases h3
end
end Tm

set_option Elab.async false
set_option linter.all false
set_option maxRecDepth 100000
set_option maxHeartbeats 4000000
namespace Tm
open PySem PySem.Spec PyProof.Rows L2
section
variable {X : Cx} {p : Pm} {c : Cc} {k : Nat} {e a b d : Expr} {es : List Expr} {ca cb cd : C} {pos : Pos}
/-! ### built-in functions -/
theorem biOf_val {x : Str} {q : Bi} (h : biOf x = some q) : bootBuiltins x = some (biVal q) := by
  unfold biOf at h
  repeat' (split at h; · rename_i e; subst e; cases h; decide +kernel)
  cases h
theorem sp_bi {K : PySem.W.Frag} {q : Bi} {ρ : List Addr} {S : Store} {H : Hp} {vs : List V} {ds : List D} {x : D × Store} {Q : VK} (sm : Sim K ρ S H) (r : Reps K ρ H vs ds) (h : biop q ds S = some x) (k : Aft K ρ H x.2 x.1 Q) : rCall K (biop q) vs H Q :=
  ⟨ρ, S, ds, x.1, x.2, sm, r, h, k⟩
theorem k_bi (M : Mat X p c k) {x : Str} {q : Bi} {px : Pos} (hg : bltB c x = true) (hq : biOf x = some q) (hst : (a :: es).all notStar = true) (ha : PA X (a :: es) (tA p X.K ca)) : PE X (.Call (.Name x px) (a :: es) [] pos) (tE p X.K (.bi q ca)) := by
  have hst2 := hst
  rw [List.all_cons, Bool.and_eq_true] at hst2
  have step : ∀ σ H (Q : VK), tE p X.K (.bi q ca) σ H Q → tCB (rCall X.K (biop q)) (tA p X.K ca) σ H Q := fun σ H Q h => by
    obtain ⟨ρ, S, e, y, sm, en, h, kq⟩ := h
    simp only [ev, Option.bind_eq_some_iff] at h
    obtain ⟨⟨d1, S1⟩, h1, h2⟩ := h
    split at h2
    · rename_i ds e1
      simp only at e1
      subst e1
      exact stA sm en h1 fun ρ1 H1 vs p1 g1 s1 e1 r1 => sp_bi s1 r1 h2 (kq.mono p1 g1)
    · cases h2
  have cr := cr_M M.calm M.gd M.hu q
  have bv := biOf_val hq
  obtain ⟨g1, g2, g3⟩ := M.bl hg
  obtain ⟨b1, b2, b3⟩ := bad3 g3
  cases q <;> first
    | exact PE.imp (pe_callB cr g1 g2 bv ha b3 b1 (star1 hst2.1 es X.env) (noStars hst2.2 _ _)) step
    | exact PE.imp (pe_callTy cr g1 g2 bv ha b3 b1 (star1 hst2.1 es X.env) (noStars hst2.2 _ _)) step
/-! ### isinstance -/
def tyName : Ty → String
  | .int => "int" | .str => "str" | .tuple => "tuple" | .list => "list" | .bool => "bool" | .dict => "dict"
theorem tyOf_val {t : Ty} (h : tyOf c d = some t) : ∃ x px, d = .Name x px ∧ bltB c x = true ∧ bootBuiltins x = some (.type (tyName t)) := by
  cases d with
  | Name x px =>
    simp only [tyOf] at h
    split at h
    · rename_i hb
      refine ⟨x, px, rfl, hb, ?_⟩
      repeat' (split at h; · rename_i e; subst e; cases h; decide +kernel)
      cases h
    · cases h
  | _ => simp [tyOf] at h
theorem ty_fix {K : PySem.W.Frag} {ρ : List Addr} {S : Store} {H : Hp} {n : Nat} {x : Addr} {ys : List D} (sm : Sim K ρ S H) (hl : listAt S n = some ys) (hr : ρ[n]? = some x) : TyX K H (.ref x) (.type "list") := by
  unfold listAt at hl
  split at hl
  · rename_i zs hz
    obtain ⟨vs, h1, _⟩ := sm.obj n _ x hz hr
    exact .base (.lst h1)
  · rename_i zs hz
    obtain ⟨vs, h1, _⟩ := sm.obj n _ x hz hr
    rcases h1 with ⟨o, h1⟩ | (h1 | ⟨o, h1⟩) | ⟨o, its, m, h1, h2, _⟩
    · exact .base (.frz h1)
    · cases h1
    · cases h1
    · exact .kList h1 h2
  · cases hl
theorem ty_tup {K : PySem.W.Frag} {H : Hp} {x : Addr} {vs : List V} (h : SqT K H x vs) : TyX K H (.ref x) (.type "tuple") := by
  rcases h with (h | ⟨o, h⟩) | ⟨o, its, n, h1, h2, _⟩
  · exact .base (.tup h)
  · exact .fTuple h
  · exact .kTuple h1 h2
theorem k_isty (M : Mat X p c k) {t : Ty} {px : Pos} (hg : bltB c ("isinstance" : Str) = true) (hs : notStar a = true) (ht : tyOf c d = some t) (ha : PE X a (tE p X.K ca)) :
    PE X (.Call (.Name "isinstance" px) [a, d] [] pos) (tE p X.K (.isty ca t)) := by
  obtain ⟨x, pd, ed, hd, hv⟩ := tyOf_val ht
  subst ed
  obtain ⟨g1, g2, g3⟩ := M.bl hg
  obtain ⟨b1, b2, b3⟩ := bad3 g3
  obtain ⟨f1, f2, f3⟩ := M.bl hd
  obtain ⟨c1, c2, c3⟩ := bad3 f3
  have hN : PE X (.Name x pd) (tC (.ty (tyName t))) := pe_bltn f1 f2 hv rfl c3 c1
  refine PE.imp (pe_callB call_isi g1 g2 (by decide +kernel) (pa_cons ha (pa_cons hN pa_nil) (star1 hs _ _)) b3 b1 (star1 hs _ _) rfl) fun σ H Q h => ?_
  obtain ⟨ρ, S, e, y, sm, en, h, kq⟩ := h
  simp only [ev, Option.bind_eq_some_iff, Option.map_eq_some_iff] at h
  obtain ⟨⟨d1, S1⟩, h1, b, h2, h3⟩ := h
  subst h3
  refine st1 sm en h1 fun ρ1 H1 v p1 g1 s1 e1 r1 => ?_
  have fin : ∀ {T : String}, TyX X.K H1 v (.type T) → kitB T (tyName t) = some b → ∃ (x c : V) (t' u : Value) (b : Bool), [v, V.ty (tyName t)] = [x, c] ∧ ClsV c u ∧ TyX X.K H1 x t' ∧ PySem.W.kitOne X.K t' u = some b ∧ Q (.bl b) H1 :=
    fun {T} ty hk => ⟨v, .ty (tyName t), .type T, .type (tyName t), b, rfl, .ty _, ty, kit_ty hk, (kq.mono p1 g1).here s1 (.bl _)⟩
  cases r1 with
  | non => simp only [tyop, Option.some.injEq] at h2; subst h2; exact fin (.base .non) (by cases t <;> decide +kernel)
  | bl q => simp only [tyop, Option.some.injEq] at h2; subst h2; exact fin (.base (.bl q)) (by cases t <;> decide +kernel)
  | int q => simp only [tyop, Option.some.injEq] at h2; subst h2; exact fin (.base (.int q)) (by cases t <;> decide +kernel)
  | str q => simp only [tyop, Option.some.injEq] at h2; subst h2; exact fin (.base (.str q)) (by cases t <;> decide +kernel)
  | tup q1 q2 => simp only [tyop, Option.some.injEq] at h2; subst h2; exact fin (ty_tup q1) (by cases t <;> decide +kernel)
  | ref q1 =>
    simp only [tyop, Option.map_eq_some_iff] at h2
    obtain ⟨ys, hl, h2⟩ := h2
    subst h2
    exact fin (ty_fix s1 hl q1) (by cases t <;> decide +kernel)
/-! ### append -/
theorem plainBase_ok (h : plainBase a = true) (m : Str) (env : Env) (w : Sem Value) : attributeBase a m env w = w := by
  cases a <;> first | rfl | (simp [plainBase] at h; done)
theorem k_app {o : Expr} {ap cp : Pos} (hap : (ap.endLine == cp.line) = true) (h1 : notStar a = true) (hb : plainBase o = true) (ho : PE X o (tE p X.K ca)) (ha : PE X a (tE p X.K cb)) :
    PE X (.Call (.Attribute o "append" ap) [a] [] cp) (tE p X.K (.app ca cb)) := by
  refine PE.imp (pe_bm PySem.F.plainAttrs_list PySem.F.slot_list_append PySem.F.type_list_append mt_append ho (pa_cons ha pa_nil (star1 h1 _ _)) (plainBase_ok hb _ _ _) (by rw [star1 h1]; rfl) hap (star1 h1 _ _) rfl) fun σ H Q h => ?_
  obtain ⟨ρ, S, e, y, sm, en, h, kq⟩ := h
  simp only [ev, Option.bind_eq_some_iff] at h
  obtain ⟨⟨d1, S1⟩, h1, ⟨d2, S2⟩, h2, h3⟩ := h
  split at h3
  · rename_i n hn
    simp only at hn
    subst hn
    simp only [Option.map_eq_some_iff] at h3
    obtain ⟨S3, h4, h5⟩ := h3
    subst h5
    unfold push at h4
    split at h4
    · rename_i xs hx
      split at h4
      · rename_i hz
        cases h4
        refine st1 sm en h1 fun ρ1 H1 v p1 g1 s1 e1 r1 => ?_
        obtain ⟨A, eA, hA⟩ := rep_ref r1
        subst eA
        refine ⟨.inl ⟨rfl, ?_⟩, st1 s1 e1 h2 fun ρ2 H2 w p2 g2 s2 e2 r2 => ?_⟩
        · obtain ⟨o1, ho1, hr1⟩ := s1.at' hA
          cases o1 with
          | lst zs => obtain ⟨vs, q1, _⟩ := hr1; exact ⟨vs, SqL.of q1⟩
          | ro zs => obtain ⟨vs, q1, _⟩ := hr1; exact ⟨vs, q1.sql⟩
        · have hA2 := p2 _ _ hA
          obtain ⟨vs, q1, q2⟩ := s2.obj n _ A hx hA2
          refine ⟨A, vs, w, rfl, rfl, q1, by rw [q2.length]; exact hz, ?_⟩
          have rr := q2.append (.cons r2 .nil)
          exact ((kq.mono (p1.trans p2) (g1.trans g2)).mono (Pre.refl _) (Gro.mut q1)).here (s2.put hx hA2 q1 rr) .non
      · cases h4
    · cases h4
  · cases h3
end
end Tm

set_option Elab.async false
set_option linter.all false
set_option maxRecDepth 100000
set_option maxHeartbeats 4000000
namespace Tm
open PySem PySem.Spec PyProof.Rows L2
/-! ## targets -/
def tG (K : PySem.W.Frag) (t : Tg) : TG := fun v σ H Q => ∃ (ρ : List Addr) (S : Store) (e : Env') (d : D) (e1 : Env'), Sim K ρ S H ∧ EnvR K ρ H e σ ∧ Rep K ρ H v d ∧ bindT t d S e = some e1 ∧
  ∀ σ' : L2.St, EnvR K ρ H e1 σ' → (∀ own : List Nat, tgIn own t = true → wipe σ' own = wipe σ own) → Q σ' H
def tGs (K : PySem.W.Frag) (t : Tg) : TGs := fun vs σ H Q => ∃ (ρ : List Addr) (S : Store) (e : Env') (ds : List D) (e1 : Env'), Sim K ρ S H ∧ EnvR K ρ H e σ ∧ Reps K ρ H vs ds ∧ bindTs t ds S e = some e1 ∧
  ∀ σ' : L2.St, EnvR K ρ H e1 σ' → (∀ own : List Nat, tgIn own t = true → wipe σ' own = wipe σ own) → Q σ' H
theorem PG.imp {X : Cx} {e : Expr} {t t' : TG} (h : PG X e t) (f : ∀ v σ H Q, t' v σ H Q → t v σ H Q) : PG X e t' := ⟨fun pins s σ H v u Q I r q => h.run pins s σ H v u Q I r (f v σ H Q q)⟩
theorem PGs.imp {X : Cx} {e : List Expr} {t t' : TGs} (h : PGs X e t) (f : ∀ v σ H Q, t' v σ H Q → t v σ H Q) : PGs X e t' := ⟨fun pins s σ H v u Q I r q => h.run pins s σ H v u Q I r (f v σ H Q q)⟩
theorem PG.or {X : Cx} {e : Expr} {t t' : TG} (h : PG X e t) (h' : PG X e t') : PG X e (fun v σ H Q => t v σ H Q ∨ t' v σ H Q) := ⟨fun pins s σ H v u Q I r q => q.elim (h.run pins s σ H v u Q I r) (h'.run pins s σ H v u Q I r)⟩
theorem wipe_set {σ : L2.St} {i : Nat} {x : Option V} : ∀ {own : List Nat}, i ∈ own → wipe (σ.set i x) own = wipe σ own
  | v :: vs, h => by
    unfold wipe
    by_cases e : i ∈ vs
    · rw [wipe_set e]
    · have hv : i = v := by
        rcases List.mem_cons.mp h with z | z
        · exact z
        · exact absurd z e
      subst hv
      have comm : ∀ (l : List Nat) (σ : L2.St), i ∉ l → wipe (σ.set i x) l = (wipe σ l).set i x := by
        intro l
        induction l with
        | nil => intro σ _; rfl
        | cons w ws ih =>
          intro σ hn
          rw [List.mem_cons, not_or] at hn
          unfold wipe
          rw [ih σ hn.2, List.set_comm _ _ hn.1]
      rw [comm vs σ e, List.set_set]
theorem EnvR.set {K : PySem.W.Frag} {ρ : List Addr} {H : Hp} {e : Env'} {σ : L2.St} (h : EnvR K ρ H e σ) {v : V} {d : D} (r : Rep K ρ H v d) (i : Nat) : EnvR K ρ H (e.set i (some d)) (σ.set i (some v)) := by
  refine ⟨by rw [List.length_set, List.length_set]; exact h.1, fun j f hj => ?_⟩
  by_cases q : i = j
  · subst q
    by_cases hl : i < e.length
    · rw [List.getElem?_set_self hl] at hj
      cases hj
      exact ⟨v, by rw [List.getElem?_set_self (by rw [← h.1]; exact hl)], r⟩
    · rw [List.getElem?_eq_none (by rw [List.length_set]; omega)] at hj
      cases hj
  · rw [List.getElem?_set_ne q] at hj ⊢
    exact h.2 j f hj
theorem EnvR.drop {K : PySem.W.Frag} {ρ : List Addr} {H : Hp} {e : Env'} {σ : L2.St} (h : EnvR K ρ H e σ) (i : Nat) : EnvR K ρ H (e.set i none) (σ.set i none) := by
  refine ⟨by rw [List.length_set, List.length_set]; exact h.1, fun j f hj => ?_⟩
  by_cases q : i = j
  · subst q
    by_cases hl : i < e.length
    · rw [List.getElem?_set_self hl] at hj
      cases hj
    · rw [List.getElem?_eq_none (by rw [List.length_set]; omega)] at hj
      cases hj
  · rw [List.getElem?_set_ne q] at hj ⊢
    exact h.2 j f hj
theorem EnvR.wipe {K : PySem.W.Frag} {ρ : List Addr} {H : Hp} {e : Env'} {σ : L2.St} (h : EnvR K ρ H e σ) : ∀ own : List Nat, EnvR K ρ H (wipeE e own) (L2.wipe σ own)
  | [] => h
  | v :: vs => (EnvR.wipe h vs).drop v
section
variable {X : Cx} {p : Pm} {c : Cc} {k : Nat} {e a b d : Expr} {es : List Expr} {ca cb cd : C} {pos : Pos}
theorem k_gbad : PG X e (tG X.K .bad) := ⟨fun _ _ _ _ _ _ _ _ _ h => by obtain ⟨_, _, _, _, _, _, _, _, h, _⟩ := h; simp [bindT] at h⟩
theorem k_gsbad : PGs X es (tGs X.K .bad) := ⟨fun _ _ _ _ _ _ _ _ _ h => by obtain ⟨_, _, _, ds, _, _, _, _, h, _⟩ := h; cases ds <;> simp [bindTs] at h⟩
theorem k_gname (M : Mat X p c k) {x : Str} {i : Nat} (hl : locB c x = true) (hi : ixOf c.N x = some i) : PG X (.Name x pos) (tG X.K (.nm i)) := by
  obtain ⟨h1, h2⟩ := M.loc hl
  refine PG.imp (pg_name (i := i) (by rw [M.hN]; exact M.nd) (by rw [M.hN]; exact ixOf_get hi) h1 h2) fun v σ H Q h => ?_
  obtain ⟨ρ, S, e, d, e1, sm, en, r, h, q⟩ := h
  simp only [bindT] at h
  split at h
  · cases h
    refine q _ (en.set r i) fun own ho => wipe_set ?_
    simpa [tgIn] using ho
  · cases h
theorem assign_each (h : es.all notStar = true) (env : Env) : (assignEach es env).length = es.length ∧ (assignEach es env).findIdx? (·.1) = none ∧ ∀ e r, es = e :: r → (assignEach (e :: r) env).map (·.2) = assign e env :: (assignEach r env).map (·.2) := by
  have one : ∀ (e : Expr) (r : List Expr), notStar e = true → assignEach (e :: r) env = (false, assign e env) :: assignEach r env := by
    intro e r he
    cases e <;> first | rfl | (simp [notStar] at he; done)
  induction es with
  | nil => exact ⟨rfl, rfl, fun e r z => by cases z⟩
  | cons e r ih =>
    rw [List.all_cons, Bool.and_eq_true] at h
    obtain ⟨i1, i2, i3⟩ := ih h.2
    refine ⟨by rw [one e r h.1, List.length_cons, List.length_cons, i1], ?_, fun e' r' z => ?_⟩
    · rw [one e r h.1, List.findIdx?_cons, i2]; rfl
    · cases z
      rw [one e r h.1]; rfl
theorem k_gtup (M : Mat X p c k) {kk : Nat} {t : Tg} (hst : es.all notStar = true) (h : PGs X es (tGs X.K t)) : PG X (.Tuple es kk pos) (tG X.K (.tp es.length t)) := by
  obtain ⟨a1, a2, _⟩ := assign_each hst X.env
  refine PG.imp (PG.or (pg_tup (n := es.length) M.calm h a1 a2) (pg_lst (n := es.length) M.calm h a1 a2)) fun v σ H Q h => ?_
  obtain ⟨ρ, S, e, d, e1, sm, en, r, h, q⟩ := h
  cases r with
  | tup h1 r1 =>
    simp only [bindT] at h
    split at h
    · rename_i hn
      exact .inl ⟨_, _, rfl, h1, by rw [r1.length]; exact hn, ρ, S, e, _, e1, sm, en, r1, h, q⟩
    · cases h
  | ref h1 =>
    simp only [bindT, Option.bind_eq_some_iff] at h
    obtain ⟨ys, hl, h⟩ := h
    obtain ⟨vs, hq, r1⟩ := sm.list hl h1
    split at h
    · rename_i hn
      exact .inr ⟨_, vs, rfl, hq, by rw [r1.length]; exact hn, ρ, S, e, ys, e1, sm, en, r1, h, q⟩
    · cases h
  | _ => simp [bindT] at h
theorem k_gsnil : PGs X [] (tGs X.K .nil) := PGs.imp pgs_nil fun vs σ H Q h => by
  obtain ⟨ρ, S, e, ds, e1, sm, en, r, h, q⟩ := h
  cases r with
  | nil => simp only [bindTs, Option.some.injEq] at h; subst h; exact ⟨rfl, q σ en fun _ _ => rfl⟩
  | cons _ _ => simp [bindTs] at h
theorem k_gscons {t u : Tg} (hs : notStar a = true) (ha : PG X a (tG X.K t)) (hb : PGs X es (tGs X.K u)) (hst : es.all notStar = true) : PGs X (a :: es) (tGs X.K (.cons t u)) := by
  have hst2 : (a :: es).all notStar = true := by rw [List.all_cons, Bool.and_eq_true]; exact ⟨hs, hst⟩
  obtain ⟨_, _, a3⟩ := assign_each hst2 X.env
  refine PGs.imp (pgs_cons ha hb (a3 a es rfl)) fun vs σ H Q h => ?_
  obtain ⟨ρ, S, e, ds, e1, sm, en, r, h, q⟩ := h
  cases r with
  | nil => simp [bindTs] at h
  | cons r1 r2 =>
    simp only [bindTs, Option.bind_eq_some_iff] at h
    obtain ⟨e2, h1, h2⟩ := h
    refine ⟨_, _, rfl, ρ, S, e, _, e2, sm, en, r1, h1, fun σ1 en1 w1 => ⟨ρ, S, e2, _, e1, sm, en1, r2, h2, fun σ2 en2 w2 => q σ2 en2 fun own ho => ?_⟩⟩
    simp only [tgIn, Bool.and_eq_true] at ho
    rw [w2 own ho.2, w1 own ho.1]
/-! ## what is walked -/
theorem chks_app {S : Store} : ∀ {l m : List D}, chks S (l ++ m) = true → chks S l = true ∧ chks S m = true
  | [], m, h => ⟨rfl, h⟩
  | x :: l, m, h => by
    simp only [List.cons_append, chks, Bool.and_eq_true] at h ⊢
    exact ⟨⟨h.1, (chks_app h.2).1⟩, (chks_app h.2).2⟩
/-- a list or a tuple that is walked: what it is, at every turn -/
theorem src_list {K : PySem.W.Frag} {ρ ρ2 : List Addr} {S S2 : Store} {H H2 : Hp} {n : Nat} {A : Addr} {ys : List D} (hA : ρ[n]? = some A) (p2 : Pre ρ ρ2) (s2 : Sim K ρ2 S2 H2) (hc : chks S2 [.tup [.ref n, .tup ys]] = true) :
    ∃ vs, SqL K H2 A vs ∧ Reps K ρ2 H2 vs ys := by
  simp only [chks, chk1, Bool.and_true] at hc
  split at hc
  · rename_i zs hz
    have e := D.beqs_eq _ _ hc
    subst e
    exact s2.list hz (p2 _ _ hA)
  · cases hc
theorem it_list {K : PySem.W.Frag} {ρ : List Addr} {H : Hp} {n : Nat} {A : Addr} {ys : List D} (hA : ρ[n]? = some A) :
    ItOk K ρ H ys [.tup [.ref n, .tup ys]] (Itl K A) := by
  intro ρ2 S2 H2 p2 g2 s2 hc i
  obtain ⟨vs, hq, r⟩ := src_list (H := H) (S := S2) hA p2 s2 hc
  refine ⟨fun e => ⟨vs, hq, by rw [r.length, e]; exact Nat.le_refl _⟩, fun d hd => ?_⟩
  obtain ⟨v, hv, rv⟩ := r.get hd
  refine ⟨⟨vs, v, hq, hv⟩, fun x H3 hy => ?_⟩
  obtain ⟨e, hx⟩ := hy
  subst e
  have q := hx vs hq
  rw [hv] at q
  cases q
  exact ⟨Gro.refl _, s2, rv⟩
theorem it_tup {K : PySem.W.Frag} {ρ : List Addr} {H : Hp} {A : Addr} {vs : List V} {ys cks : List D} (h : SqT K H A vs) (r : Reps K ρ H vs ys) : ItOk K ρ H ys cks (Itt K A) := by
  intro ρ2 S2 H2 p2 g2 s2 hc i
  have hq := g2.sqt h
  have r := r.mono g2 p2
  refine ⟨fun e => ⟨vs, hq, by rw [r.length, e]; exact Nat.le_refl _⟩, fun d hd => ?_⟩
  obtain ⟨v, hv, rv⟩ := r.get hd
  refine ⟨⟨vs, v, hq, hv⟩, fun x H3 hy => ?_⟩
  obtain ⟨e, hx⟩ := hy
  subst e
  have q := hx vs hq
  rw [hv] at q
  cases q
  exact ⟨Gro.refl _, s2, rv⟩
theorem it_rng {K : PySem.W.Frag} {ρ : List Addr} {H : Hp} {lo : Int} {n : Nat} {cks : List D} : ItOk K ρ H (rng lo n) cks (Itr lo n) := by
  intro ρ2 S2 H2 p2 g2 s2 hc i
  have hl : (rng lo n).length = n := by simp [rng]
  refine ⟨fun e => by show n ≤ i; omega, fun d hd => ?_⟩
  have hi : i < n := by have := (List.getElem?_eq_some_iff.mp hd).1; omega
  refine ⟨hi, fun x H3 hy => ?_⟩
  obtain ⟨e, hx⟩ := hy
  subst e; subst hx
  have : d = .int (lo + (i : Int)) := by
    simp [rng, hi] at hd
    exact hd.symm
  subst this
  exact ⟨Gro.refl _, s2, .int _⟩
theorem it_revL {K : PySem.W.Frag} {ρ : List Addr} {H : Hp} {n : Nat} {A : Addr} {ys : List D} {m : Nat} (hm : m = ys.length) (hA : ρ[n]? = some A) : ItOk K ρ H ys.reverse [.tup [.ref n, .tup ys]] (Itv K A m) := by
  subst hm
  intro ρ2 S2 H2 p2 g2 s2 hc i
  obtain ⟨vs, hq, r⟩ := src_list (H := H) (S := S2) hA p2 s2 hc
  refine ⟨fun e => by show _ ≤ i; rw [e, List.length_reverse]; exact Nat.le_refl _, fun d hd => ?_⟩
  have hi : i < ys.length := by have := (List.getElem?_eq_some_iff.mp hd).1; rw [List.length_reverse] at this; exact this
  rw [List.getElem?_reverse hi] at hd
  obtain ⟨v, hv, rv⟩ := r.get hd
  refine ⟨⟨hi, vs, v, hq, hv⟩, fun x H3 hy => ?_⟩
  obtain ⟨e, hx⟩ := hy
  subst e
  have q := hx vs hq
  rw [hv] at q
  cases q
  exact ⟨Gro.refl _, s2, rv⟩
theorem it_revT {K : PySem.W.Frag} {ρ : List Addr} {H : Hp} {A : Addr} {vs : List V} {ys cks : List D} {m : Nat} (hm : m = ys.length) (h : SqT K H A vs) (r : Reps K ρ H vs ys) : ItOk K ρ H ys.reverse cks (RT.ItvT K A m) := by
  subst hm
  intro ρ2 S2 H2 p2 g2 s2 hc i
  have hq := g2.sqt h
  have r := r.mono g2 p2
  refine ⟨fun e => by show _ ≤ i; rw [e, List.length_reverse]; exact Nat.le_refl _, fun d hd => ?_⟩
  have hi : i < ys.length := by have := (List.getElem?_eq_some_iff.mp hd).1; rw [List.length_reverse] at this; exact this
  rw [List.getElem?_reverse hi] at hd
  obtain ⟨v, hv, rv⟩ := r.get hd
  refine ⟨⟨hi, vs, v, hq, hv⟩, fun x H3 hy => ?_⟩
  obtain ⟨e, hx⟩ := hy
  subst e
  have q := hx vs hq
  rw [hv] at q
  cases q
  exact ⟨Gro.refl _, s2, rv⟩
theorem enumF_len : ∀ (i : Nat) (l : List D), (enumF i l).length = l.length
  | _, [] => rfl
  | i, d :: l => by simp [enumF, enumF_len (i + 1) l]
theorem enumF_get : ∀ (l : List D) (i j : Nat) (d : D), (enumF i l)[j]? = some d → ∃ f, l[j]? = some f ∧ d = .tup [.int ((i + j : Nat) : Int), f]
  | [], i, j, d, h => by simp [enumF] at h
  | x :: l, i, 0, d, h => by
    simp [enumF] at h
    exact ⟨x, rfl, h.symm⟩
  | x :: l, i, j + 1, d, h => by
    simp only [enumF, List.getElem?_cons_succ] at h
    obtain ⟨f, h1, h2⟩ := enumF_get l (i + 1) j d h
    exact ⟨f, by simpa using h1, by rw [h2, show i + 1 + j = i + (j + 1) by omega]⟩
theorem it_enum {K : PySem.W.Frag} {ρ : List Addr} {H : Hp} {n : Nat} {A : Addr} {ys : List D} (hA : ρ[n]? = some A) : ItOk K ρ H (enumF 0 ys) [.tup [.ref n, .tup ys]] (Ite K A) := by
  intro ρ2 S2 H2 p2 g2 s2 hc i
  obtain ⟨vs, hq, r⟩ := src_list (H := H) (S := S2) hA p2 s2 hc
  refine ⟨fun e => ⟨vs, hq, by rw [r.length, e, enumF_len]; exact Nat.le_refl _⟩, fun d hd => ?_⟩
  obtain ⟨f, hf, ed⟩ := enumF_get ys 0 i d hd
  obtain ⟨v, hv, rv⟩ := r.get hf
  refine ⟨⟨vs, v, hq, hv⟩, fun x H3 hy => ?_⟩
  obtain ⟨T, y, ex, hT, eH, hx⟩ := hy
  have q := hx vs hq
  rw [hv] at q
  cases q
  subst ex; subst eH; subst ed
  rw [Nat.zero_add]
  exact ⟨Gro.new hT, s2.tup hT, .tup (SqT.of upd_same) (.cons (.int _) (.cons (rv.mono (Gro.new hT) (Pre.refl _)) .nil))⟩
theorem zipF_get : ∀ (l m : List D) (j : Nat) (d : D), (zipF l m)[j]? = some d → ∃ f g, l[j]? = some f ∧ m[j]? = some g ∧ d = .tup [f, g]
  | [], _, j, d, h => by simp [zipF] at h
  | _ :: _, [], j, d, h => by simp [zipF] at h
  | x :: l, y :: m, 0, d, h => by simp [zipF] at h; exact ⟨x, y, rfl, rfl, h.symm⟩
  | x :: l, y :: m, j + 1, d, h => by
    simp only [zipF, List.getElem?_cons_succ] at h
    obtain ⟨f, g, h1, h2, h3⟩ := zipF_get l m j d h
    exact ⟨f, g, by simpa using h1, by simpa using h2, h3⟩
theorem zipF_len : ∀ (l m : List D), (zipF l m).length = min l.length m.length
  | [], m => by simp [zipF]
  | _ :: _, [] => by simp [zipF]
  | x :: l, y :: m => by simp only [zipF, List.length_cons, zipF_len l m]; omega
theorem it_zipL {K : PySem.W.Frag} {ρ : List Addr} {H : Hp} {n m : Nat} {A B : Addr} {ys zs : List D} (hA : ρ[n]? = some A) (hB : ρ[m]? = some B) : ItOk K ρ H (zipF ys zs) ([.tup [.ref n, .tup ys]] ++ [.tup [.ref m, .tup zs]]) (Itz K A B) := by
  intro ρ2 S2 H2 p2 g2 s2 hc i
  obtain ⟨hc1, hc2⟩ := chks_app hc
  obtain ⟨vs, hq, r⟩ := src_list (H := H) (S := S2) hA p2 s2 hc1
  obtain ⟨ws, hw, r2⟩ := src_list (H := H) (S := S2) hB p2 s2 hc2
  refine ⟨fun e => ⟨vs, ws, hq, hw, by rw [r.length, r2.length, e, zipF_len]; omega⟩, fun d hd => ?_⟩
  obtain ⟨f, g, hf, hg, ed⟩ := zipF_get ys zs i d hd
  obtain ⟨v, hv, rv⟩ := r.get hf
  obtain ⟨w, hv2, rv2⟩ := r2.get hg
  refine ⟨⟨vs, ws, v, w, hq, hw, hv, hv2⟩, fun x H3 hy => ?_⟩
  obtain ⟨T, y, z, ex, hT, eH, hx, hx2⟩ := hy
  have q := hx vs hq
  have q2 := hx2 ws hw
  rw [hv] at q
  rw [hv2] at q2
  cases q; cases q2
  subst ex; subst eH; subst ed
  exact ⟨Gro.new hT, s2.tup hT, .tup (SqT.of upd_same) (.cons (rv.mono (Gro.new hT) (Pre.refl _)) (.cons (rv2.mono (Gro.new hT) (Pre.refl _)) .nil))⟩
theorem it_zipT {K : PySem.W.Frag} {ρ : List Addr} {H : Hp} {A B : Addr} {vs ws : List V} {ys zs cks : List D} (hq : SqT K H A vs) (r : Reps K ρ H vs ys) (hw : SqT K H B ws) (r2 : Reps K ρ H ws zs) : ItOk K ρ H (zipF ys zs) cks (RZ.ItzT K A B) := by
  intro ρ2 S2 H2 p2 g2 s2 hc i
  have hq := g2.sqt hq
  have r := r.mono g2 p2
  have hw := g2.sqt hw
  have r2 := r2.mono g2 p2
  refine ⟨fun e => ⟨vs, ws, hq, hw, by rw [r.length, r2.length, e, zipF_len]; omega⟩, fun d hd => ?_⟩
  obtain ⟨f, g, hf, hg, ed⟩ := zipF_get ys zs i d hd
  obtain ⟨v, hv, rv⟩ := r.get hf
  obtain ⟨w, hv2, rv2⟩ := r2.get hg
  refine ⟨⟨vs, ws, v, w, hq, hw, hv, hv2⟩, fun x H3 hy => ?_⟩
  obtain ⟨T, y, z, ex, hT, eH, hx, hx2⟩ := hy
  have q := hx vs hq
  have q2 := hx2 ws hw
  rw [hv] at q
  rw [hv2] at q2
  cases q; cases q2
  subst ex; subst eH; subst ed
  exact ⟨Gro.new hT, s2.tup hT, .tup (SqT.of upd_same) (.cons (rv.mono (Gro.new hT) (Pre.refl _)) (.cons (rv2.mono (Gro.new hT) (Pre.refl _)) .nil))⟩
end
end Tm

set_option Elab.async false
set_option linter.all false
set_option maxRecDepth 100000
set_option maxHeartbeats 4000000
namespace Tm
open PySem PySem.Spec PyProof.Rows L2
section
variable {X : Cx} {p : Pm} {c : Cc} {k : Nat} {tg e a b d : Expr} {es : List Expr} {ca cb cd : C} {pos : Pos}
theorem k_ibad : PI X tg e (tI p X.K .bad) := ⟨fun _ _ _ _ _ _ h => by obtain ⟨_, _, _, _, _, _, _, _, h, _⟩ := h; exact (none_bad h).elim⟩
theorem PI.or {t t' : TI} (h : PI X tg e t) (h' : PI X tg e t') : PI X tg e (fun σ H R => t σ H R ∨ t' σ H R) := ⟨fun pins s σ H R I q => q.elim (h.run pins s σ H R I) (h'.run pins s σ H R I)⟩
theorem itD_inj {x1 x2 y1 y2 : List D} (h : itD x1 x2 = itD y1 y2) : x1 = y1 ∧ x2 = y2 := by
  unfold itD at h
  injection h with h
  injection h with h1 h2
  injection h2 with h2 _
  injection h1 with h1
  injection h2 with h2
  exact ⟨h1, h2⟩
/-- over a value: a list or a tuple -/
theorem k_ival (ha : PE X a (tE p X.K ca)) : PI X tg a (tI p X.K (.itv ca)) := by
  have h1 : PI X tg a (fun σ H R => tI p X.K (.itv ca) σ H R ∧ ∃ ρ S e n S', Sim X.K ρ S H ∧ EnvR X.K ρ H e σ ∧ ev p ca e S = some (.ref n, S')) → True := fun _ => trivial
  refine ⟨fun pins s σ H R I h => ?_⟩
  obtain ⟨ρ, S, e, items, cks, S', sm, en, h, q⟩ := h
  simp only [ev, Option.bind_eq_some_iff, Option.map_eq_some_iff] at h
  obtain ⟨⟨d1, S1⟩, h1, ⟨r1, r2⟩, h2, h3⟩ := h
  simp only [Prod.mk.injEq] at h3
  obtain ⟨h3, h4⟩ := h3
  obtain ⟨e1, e2⟩ := itD_inj h3
  subst e1; subst e2; subst h4
  cases d1 with
  | tup ys =>
    simp only [itOf, Option.some.injEq, Prod.mk.injEq] at h2
    obtain ⟨e1, e2⟩ := h2
    subst e1; subst e2
    refine (pi_tup (tg := tg) ha).run pins s σ H R I (st1 sm en h1 fun ρ1 H1 v p1 g1 s1 e1 r1 => ?_)
    obtain ⟨A, vs, ev1, hq, hr⟩ := rep_tup r1
    exact ⟨A, ev1, ⟨vs, hq⟩, q ρ1 H1 _ p1 g1 s1 (it_tup hq hr)⟩
  | ref n =>
    simp only [itOf, Option.map_eq_some_iff, Prod.mk.injEq] at h2
    obtain ⟨ys, hl, e1, e2⟩ := h2
    subst e1; subst e2
    refine (pi_list (tg := tg) ha).run pins s σ H R I (st1 sm en h1 fun ρ1 H1 v p1 g1 s1 e1 r1 => ?_)
    obtain ⟨A, ev1, hA⟩ := rep_ref r1
    obtain ⟨vs, hq, hr⟩ := s1.list hl hA
    exact ⟨A, ev1, ⟨vs, hq⟩, q ρ1 H1 _ p1 g1 s1 (it_list hA)⟩
  | _ => simp [itOf] at h2
theorem k_irng1 (M : Mat X p c k) {px : Pos} (hg : bltB c ("range" : Str) = true) (hs : notStar a = true) (ha : PA X [a] (tA p X.K ca)) (hl : ∀ e S ds S', ev p ca e S = some (.tup ds, S') → ds.length = 1) :
    PI X tg (.Call (.Name "range" px) [a] [] pos) (tI p X.K (.irng ca)) := by
  obtain ⟨g1, g2, g3⟩ := M.bl hg
  refine PI.imp (pi_range1 (tg := tg) g1 g2 ha (star1 hs _ _)) fun σ H R h => ?_
  obtain ⟨ρ, S, e, items, cks, S', sm, en, h, q⟩ := h
  simp only [ev, Option.bind_eq_some_iff] at h
  obtain ⟨⟨d1, S1⟩, h1, h2⟩ := h
  split at h2
  · rename_i ds hd
    simp only at hd
    subst hd
    simp only [Option.map_eq_some_iff, Prod.mk.injEq] at h2
    obtain ⟨r, hr, h3, h4⟩ := h2
    obtain ⟨e1, e2⟩ := itD_inj h3
    subst e1; subst e2; subst h4
    have hz := hl _ _ _ _ h1
    match ds, hz with
    | [d], _ =>
      refine stA sm en h1 fun ρ1 H1 vs p1 g1 s1 e1 r1 => ?_
      cases r1 with
      | cons r1 r2 =>
        cases r2
        cases r1 <;> simp only [rngs, reduceCtorEq] at hr
        split at hr
        · rename_i hz
          cases hr
          simp only [Bool.and_eq_true, decide_eq_true_eq] at hz
          exact ⟨_, rfl, hz.1, hz.2, q ρ1 H1 _ p1 g1 s1 it_rng⟩
        · cases hr
  · cases h2
theorem k_irng2 (M : Mat X p c k) {px : Pos} (hg : bltB c ("range" : Str) = true) (hs : notStar a = true) (hs2 : notStar b = true) (ha : PA X [a, b] (tA p X.K ca)) (hl : ∀ e S ds S', ev p ca e S = some (.tup ds, S') → ds.length = 2) :
    PI X tg (.Call (.Name "range" px) [a, b] [] pos) (tI p X.K (.irng ca)) := by
  obtain ⟨g1, g2, g3⟩ := M.bl hg
  refine PI.imp (pi_range2 (tg := tg) g1 g2 ha (by rw [star1 hs, star1 hs2]; rfl) (star1 hs2 _ _)) fun σ H R h => ?_
  obtain ⟨ρ, S, e, items, cks, S', sm, en, h, q⟩ := h
  simp only [ev, Option.bind_eq_some_iff] at h
  obtain ⟨⟨d1, S1⟩, h1, h2⟩ := h
  split at h2
  · rename_i ds hd
    simp only at hd
    subst hd
    simp only [Option.map_eq_some_iff, Prod.mk.injEq] at h2
    obtain ⟨r, hr, h3, h4⟩ := h2
    obtain ⟨e1, e2⟩ := itD_inj h3
    subst e1; subst e2; subst h4
    have hz := hl _ _ _ _ h1
    match ds, hz with
    | [d, f], _ =>
      refine stA sm en h1 fun ρ1 H1 vs p1 g1 s1 e1 r1 => ?_
      cases r1 with
      | cons r1 r2 =>
        cases r2 with
        | cons r2 r3 =>
          cases r3
          cases r1 <;> cases r2 <;> simp only [rngs, reduceCtorEq] at hr
          split at hr
          · rename_i hz
            cases hr
            simp only [Bool.and_eq_true, decide_eq_true_eq] at hz
            exact ⟨_, _, rfl, ⟨hz.1.1.1, hz.1.1.2, hz.1.2, hz.2⟩, q ρ1 H1 _ p1 g1 s1 it_rng⟩
          · cases hr
  · cases h2
theorem k_irev (M : Mat X p c k) {px : Pos} (hg : bltB c ("reversed" : Str) = true) (hs : notStar a = true) (ha : PE X a (tE p X.K ca)) : PI X tg (.Call (.Name "reversed" px) [a] [] pos) (tI p X.K (.irev ca)) := by
  obtain ⟨g1, g2, g3⟩ := M.bl hg
  refine PI.imp (RT.pi_revA (tg := tg) g1 g2 ha (star1 hs _ _)) fun σ H R h => ?_
  obtain ⟨ρ, S, e, items, cks, S', sm, en, h, q⟩ := h
  simp only [ev, Option.bind_eq_some_iff, Option.map_eq_some_iff] at h
  obtain ⟨⟨d1, S1⟩, h1, ⟨r1, r2⟩, h2, h3⟩ := h
  simp only [Prod.mk.injEq] at h3
  obtain ⟨h3, h4⟩ := h3
  obtain ⟨e1, e2⟩ := itD_inj h3
  subst e1; subst e2; subst h4
  cases d1 with
  | tup ys =>
    simp only [itOf, Option.some.injEq, Prod.mk.injEq] at h2
    obtain ⟨e1, e2⟩ := h2
    subst e1; subst e2
    refine st1 sm en h1 fun ρ1 H1 v p1 g1 s1 e1 r1 => ?_
    obtain ⟨A, vs, ev1, hq, hr⟩ := rep_tup r1
    exact ⟨A, vs, ev1, .inr ⟨hq, q ρ1 H1 _ p1 g1 s1 (it_revT hr.length hq hr)⟩⟩
  | ref n =>
    simp only [itOf, Option.map_eq_some_iff, Prod.mk.injEq] at h2
    obtain ⟨ys, hl, e1, e2⟩ := h2
    subst e1; subst e2
    refine st1 sm en h1 fun ρ1 H1 v p1 g1 s1 e1 r1 => ?_
    obtain ⟨A, ev1, hA⟩ := rep_ref r1
    obtain ⟨vs, hq, hr⟩ := s1.list hl hA
    exact ⟨A, vs, ev1, .inl ⟨hq, q ρ1 H1 _ p1 g1 s1 (it_revL hr.length hA)⟩⟩
  | _ => simp [itOf] at h2
theorem k_ienum (M : Mat X p c k) {px : Pos} (ht : isTup tg = true) (hg : bltB c ("enumerate" : Str) = true) (hs : notStar a = true) (ha : PE X a (tE p X.K ca)) : PI X tg (.Call (.Name "enumerate" px) [a] [] pos) (tI p X.K (.ienum ca)) := by
  obtain ⟨g1, g2, g3⟩ := M.bl hg
  cases tg with
  | Tuple elts kk tpos =>
    refine PI.imp (pi_enum (tpos := tpos) (elts := elts) (kk := kk) g1 g2 (pa_cons ha pa_nil (star1 hs _ _)) (star1 hs _ _)) fun σ H R h => ?_
    obtain ⟨ρ, S, e, items, cks, S', sm, en, h, q⟩ := h
    simp only [ev, Option.bind_eq_some_iff, Option.map_eq_some_iff] at h
    obtain ⟨⟨d1, S1⟩, h1, ⟨r1, r2⟩, h2, h3⟩ := h
    simp only [Prod.mk.injEq] at h3
    obtain ⟨h3, h4⟩ := h3
    obtain ⟨e1, e2⟩ := itD_inj h3
    subst e1; subst e2; subst h4
    cases d1 with
    | ref n =>
      simp only [itOfL, Option.map_eq_some_iff, Prod.mk.injEq] at h2
      obtain ⟨ys, hl, e1, e2⟩ := h2
      subst e1; subst e2
      refine st1 sm en h1 fun ρ1 H1 v p1 g1 s1 e1 r1 => ?_
      obtain ⟨A, ev1, hA⟩ := rep_ref r1
      obtain ⟨vs, hq, hr⟩ := s1.list hl hA
      subst ev1
      exact ⟨A, vs, rfl, hq, q ρ1 H1 _ p1 g1 s1 (it_enum hA)⟩
    | _ => simp [itOfL] at h2
  | _ => simp [isTup] at ht
theorem k_izip (M : Mat X p c k) {px : Pos} (ht : isTup tg = true) (hg : bltB c ("zip" : Str) = true) (hs : notStar a = true) (hs2 : notStar b = true) (ha : PE X a (tE p X.K ca)) (hb : PE X b (tE p X.K cb)) :
    PI X tg (.Call (.Name "zip" px) [a, b] [] pos) (tI p X.K (.izip ca cb)) := by
  obtain ⟨g1, g2, g3⟩ := M.bl hg
  cases tg with
  | Tuple elts kk tpos =>
    refine PI.imp (RZ.pi_zipA (tpos := tpos) (elts := elts) (kk := kk) g1 g2 (pa_cons ha (pa_cons hb pa_nil (star1 hs2 _ _)) (star1 hs _ _)) (star1 hs _ _) (by rw [star1 hs2]; rfl)) fun σ H R h => ?_
    obtain ⟨ρ, S, e, items, cks, S', sm, en, h, q⟩ := h
    simp only [ev, Option.bind_eq_some_iff] at h
    obtain ⟨⟨d1, S1⟩, h1, ⟨d2, S2⟩, h2, h⟩ := h
    split at h
    · rename_i xs ys e1 e2
      simp only at e1 e2
      subst e1; subst e2
      simp only [Option.some.injEq, Prod.mk.injEq] at h
      obtain ⟨h3, h4⟩ := h
      obtain ⟨e1, e2⟩ := itD_inj h3
      subst e1; subst e2; subst h4
      refine st1 sm en h1 fun ρ1 H1 v p1 g1 s1 en1 r1 => st1 s1 en1 h2 fun ρ2 H2 w p2 g2 s2 en2 r2 => ?_
      obtain ⟨A, vs, ev1, hq, hr⟩ := rep_tup r1
      obtain ⟨B, ws, ev2, hq2, hr2⟩ := rep_tup r2
      subst ev1; subst ev2
      exact ⟨A, B, vs, ws, rfl, .inr ⟨g2.sqt hq, hq2, q ρ2 H2 _ (p1.trans p2) (g1.trans g2) s2 (it_zipT (g2.sqt hq) (hr.mono g2 p2) hq2 hr2)⟩⟩
    · rename_i m n e1 e2
      simp only at e1 e2
      subst e1; subst e2
      simp only [Option.bind_eq_some_iff, Option.map_eq_some_iff, Prod.mk.injEq] at h
      obtain ⟨xs, hx, ys, hy, h3, h4⟩ := h
      obtain ⟨e1, e2⟩ := itD_inj h3
      subst e1; subst e2; subst h4
      refine st1 sm en h1 fun ρ1 H1 v p1 g1 s1 en1 r1 => st1 s1 en1 h2 fun ρ2 H2 w p2 g2 s2 en2 r2 => ?_
      obtain ⟨A, ev1, hA⟩ := rep_ref r1
      obtain ⟨B, ev2, hB⟩ := rep_ref r2
      subst ev1; subst ev2
      obtain ⟨vs, hq, hr⟩ := s2.list hx (p2 _ _ hA)
      obtain ⟨ws, hq2, hr2⟩ := s2.list hy hB
      exact ⟨A, B, vs, ws, rfl, .inl ⟨hq, hq2, q ρ2 H2 _ (p1.trans p2) (g1.trans g2) s2 (it_zipL (p2 _ _ hA) hB)⟩⟩
    · cases h
  | _ => simp [isTup] at ht
end
end Tm

set_option Elab.async false
set_option linter.all false
set_option maxRecDepth 100000
set_option maxHeartbeats 4000000
namespace Tm
open PySem PySem.Spec PyProof.Rows L2
section
variable {X : Cx} {p : Pm} {c : Cc} {k : Nat} {tg e a b d it : Expr} {es : List Expr} {ca cb cd ci : C} {pos : Pos}
/-! ## the comprehension -/
/-- the tests of a clause as one -/
def tCond (p : Pm) (K : PySem.W.Frag) (c : C) : TT := tTs p K c
theorem k_ifs0 : PTs X [] (tTs p X.K (.lit (.bl true))) := ⟨fun pins s σ H Q I h => by
  obtain ⟨ρ, S, e, b, S', sm, en, h, q⟩ := h
  simp only [ev, isScal, if_true, Option.some.injEq, Prod.mk.injEq, D.bl.injEq] at h
  obtain ⟨h1, h2⟩ := h
  subst h1; subst h2
  exact pts_nil.run pins s σ H Q I (q ρ H (Pre.refl ρ) (Gro.refl H) sm)⟩
theorem k_ifs1 (h : PT X e (tTs p X.K ca)) : PTs X [e] (tTs p X.K ca) := pts_one h
theorem drop_cons {α : Type} {l : List α} {i : Nat} {x : α} {r : List α} (h : l.drop i = x :: r) : l[i]? = some x ∧ l.drop (i + 1) = r ∧ i < l.length := by
  have hi : i < l.length := by
    by_cases q : i < l.length
    · exact q
    · rw [List.drop_eq_nil_of_le (by omega)] at h; cases h
  rw [List.drop_eq_getElem_cons hi] at h
  injection h with h1 h2
  exact ⟨by rw [List.getElem?_eq_getElem hi, h1], h2, hi⟩
theorem drop_nil {α : Type} {l : List α} {i : Nat} (h : l.drop i = []) (hi : i ≤ l.length) : i = l.length := by
  have := congrArg List.length h
  rw [List.length_drop, List.length_nil] at this
  omega
theorem wipe_at {v : Nat} : ∀ {l : List Nat} (σ : L2.St), v ∈ l → (wipe σ l).set v none = wipe σ l
  | u :: us, σ, h => by
    show ((wipe σ us).set u none).set v none = (wipe σ us).set u none
    by_cases q : u = v
    · rw [q, List.set_set]
    · rw [List.set_comm _ _ q, wipe_at σ ((List.mem_cons.mp h).resolve_left fun z => q z.symm)]
theorem wipe_sub : ∀ (m l : List Nat) (σ : L2.St), (∀ v ∈ m, v ∈ l) → wipe (wipe σ l) m = wipe σ l
  | [], l, σ, _ => rfl
  | v :: vs, l, σ, h => by
    show (wipe (wipe σ l) vs).set v none = wipe σ l
    rw [wipe_sub vs l σ fun u hu => h u (List.mem_cons_of_mem _ hu), wipe_at σ (h v List.mem_cons_self)]
theorem wipe_wipe (l : List Nat) (σ : L2.St) : wipe (wipe σ l) l = wipe σ l := wipe_sub l l σ fun _ h => h
theorem lc_read {K : PySem.W.Frag} {t : Tg} {own : List Nat} (ht : tgIn own t = true) {σ : L2.St} {H : Hp} {Q : VK} (h : tE p K (.lc ci t cb ca own) σ H Q) : tLc (tI p K ci) (tG K t) (tTs p K cb) (tE p K ca) own σ H Q := by
  obtain ⟨ρ, S, e, y, sm, en, h, kq⟩ := h
  simp only [ev, Option.bind_eq_some_iff] at h
  obtain ⟨⟨d1, S1⟩, h1, h2⟩ := h
  split at h2
  · rename_i items cks hd
    simp only at hd
    subst hd
    simp only [Option.map_eq_some_iff] at h2
    obtain ⟨S9, h3, h4⟩ := h2
    subst h4
    refine ⟨ρ, S, e, items, cks, S1, sm, en, h1, fun ρ1 H1 J p1 g1 s1 ok => fun D hD => ?_⟩
    have gD : Gro H1 (upd H1 D (.lst [])) := Gro.new hD
    have sD : Sim K (ρ1 ++ [D]) (S1 ++ [.lst []]) (upd H1 D (.lst [])) := s1.new hD .nil
    have pD : Pre ρ1 (ρ1 ++ [D]) := Pre.app ρ1 D
    have hnD : (ρ1 ++ [D])[S1.length]? = some D := by rw [← s1.len, List.getElem?_append_right (Nat.le_refl _)]; simp
    have enw : ∀ {ρ2 : List Addr} {H2 : Hp}, Pre (ρ1 ++ [D]) ρ2 → Gro (upd H1 D (.lst [])) H2 → EnvR K ρ2 H2 (wipeE e own) (wipe σ own) := fun p2 g2 => ((en.mono (p1.trans (pD.trans p2)) (g1.trans (gD.trans g2))).wipe own)
    refine ⟨fun i m H2 => m = items.length - i ∧ i ≤ items.length ∧ ∃ (ρ2 : List Addr) (S2 : Store), Pre (ρ1 ++ [D]) ρ2 ∧ Gro (upd H1 D (.lst [])) H2 ∧ Sim K ρ2 S2 H2 ∧ lcL (ev p cb) (ev p ca) t cks (wipeE e own) S1.length (items.drop i) S2 = some S9,
      ⟨items.length, by simp, Nat.zero_le _, ρ1 ++ [D], S1 ++ [.lst []], Pre.refl _, Gro.refl _, sD, by simpa using h3⟩, ?_⟩
    rintro i m H2 ⟨rfl, hi, ρ2, S2, p2, g2, s2, h5⟩
    cases hdr : items.drop i with
    | nil =>
      rw [hdr] at h5
      simp only [lcL] at h5
      split at h5
      · rename_i hc
        cases h5
        exact .inl ⟨((ok ρ2 S9 H2 (pD.trans p2) (gD.trans g2) s2 hc) i).1 (drop_nil hdr hi), kq ρ2 H2 _ (p1.trans (pD.trans p2)) (g1.trans (gD.trans g2)) s2 (.ref (p2 _ _ hnD))⟩
      · cases h5
    | cons d r =>
      obtain ⟨hdi, hdr2, hlt⟩ := drop_cons hdr
      rw [hdr] at h5
      simp only [lcL] at h5
      split at h5
      · rename_i hc
        obtain ⟨go, yl⟩ := ((ok ρ2 S2 H2 (pD.trans p2) (gD.trans g2) s2 hc) i).2 d hdi
        simp only [Option.bind_eq_some_iff] at h5
        obtain ⟨e1, hb, ⟨bv, S3⟩, hcnd, h6⟩ := h5
        refine .inr ⟨go, fun H3 => (items.length - (i + 1)) = items.length - (i + 1) ∧ i + 1 ≤ items.length ∧ ∃ (ρ3 : List Addr) (S3 : Store), Pre (ρ1 ++ [D]) ρ3 ∧ Gro (upd H1 D (.lst [])) H3 ∧ Sim K ρ3 S3 H3 ∧ lcL (ev p cb) (ev p ca) t cks (wipeE e own) S1.length r S3 = some S9,
          fun H3 q => ⟨items.length - (i + 1), by omega, rfl, q.2.1, by rw [hdr2]; exact q.2.2⟩, fun x H3 hy => ?_⟩
        obtain ⟨g3, s3, r3⟩ := yl x H3 hy
        have g3' := g2.trans g3
        refine ⟨ρ2, S2, wipeE e own, d, e1, s3, enw p2 g3', r3, hb, fun σ2 en2 hw => ⟨?_, ?_⟩⟩
        · have := hw own ht
          rw [this]
          exact wipe_wipe own σ
        · split at h6
          · rename_i hbv
            simp only at hbv
            subst hbv
            simp only [Option.bind_eq_some_iff] at h6
            obtain ⟨⟨yv, S4⟩, hel, S5, hpu, h7⟩ := h6
            refine stT s3 en2 hcnd fun ρ4 H4 p4 g4 s4 en4 => ?_
            rw [if_pos rfl]
            refine st1 s4 en4 hel fun ρ5 H5 w p5 g5 s5 en5 r5 => ?_
            unfold push at hpu
            split at hpu
            · rename_i xs hx
              split at hpu
              · rename_i hz
                cases hpu
                have hA := p5 _ _ (p4 _ _ (p2 _ _ hnD))
                obtain ⟨vs, q1, q2⟩ := s5.obj _ _ D hx hA
                have rr := q2.append (.cons r5 .nil)
                refine ⟨vs, q1, by rw [q2.length]; exact hz, rfl, hlt, ρ5, _, p2.trans (p4.trans p5), (g3'.trans (g4.trans g5)).trans (Gro.mut q1), s5.put hx hA q1 rr, h7⟩
              · cases hpu
            · cases hpu
          · rename_i hbv
            simp only at hbv
            subst hbv
            refine stT s3 en2 hcnd fun ρ4 H4 p4 g4 s4 en4 => ?_
            rw [if_neg (by decide)]
            exact ⟨rfl, hlt, ρ4, S3, p2.trans p4, g3'.trans g4, s4, h6⟩
          · cases h6
      · cases h5
  · cases h2
end
end Tm

set_option Elab.async false
set_option linter.all false
set_option maxRecDepth 100000
set_option maxHeartbeats 4000000
namespace Tm
open PySem PySem.Spec PyProof.Rows L2
section
variable {X : Cx} {p : Pm} {c : Cc} {k : Nat} {tg e a b d it elt : Expr} {es : List Expr} {ca cb cd ci : C} {pos : Pos}
theorem foldNo (h : notSet it = true) (env : Env) : ∀ x, foldedSetIterable it env x = pure x := by
  intro x
  cases it <;> first | rfl | (simp [notSet] at h; done)
theorem Mat.blk (M : Mat X p c k) {scope : Scope} (hk : scope.kind = .function) (s : Shared) (H : Hp) (C : Addr) (cl : List (Str × Addr)) (fp : List Addr) : Mat (X.blk s H scope (compEnvC scope cl C X.env) fp) p (blkCc c scope.names) k where
  hN := M.hN
  nd := M.nd
  sc := by
    show scope.names.map _ = relN c.names scope.names
    unfold relN
    congr 1
    funext ⟨n, kd⟩
    show (if (kd == NameKind.free && X.env.scope.kind == .function && X.env.kindOf n == some .cell) = true then _ else _) = _
    unfold Env.kindOf
    rw [M.kind, M.sc]
    simp
  kind := hk
  calm := M.calm
  gd := M.gd
  room := M.room
  xe := rfl
  fn := fun x h => by
    have h2 : (scope.names.lookup x == some .cell || (relN c.names scope.names).lookup x == some .local) = true := h
    rw [Bool.or_eq_true] at h2
    rcases h2 with q | q
    · exact .inl q
    · refine .inr ?_
      have e : (compEnvC scope cl C X.env).scope.names = relN c.names scope.names := by
        show scope.names.map _ = relN c.names scope.names
        unfold relN
        congr 1
        funext ⟨n, kd⟩
        show (if (kd == NameKind.free && X.env.scope.kind == .function && X.env.kindOf n == some .cell) = true then _ else _) = _
        unfold Env.kindOf
        rw [M.kind, M.sc]
        simp
      show (compEnvC scope cl C X.env).scope.names.lookup x = some .local
      rw [e]
      exact eq_of_beq q
  glob := M.glob
theorem k_lc (M : Mat X p c k) {scope : Scope} {ifs : List Expr} {t : Tg} {cif : C} (hb : blkC c.N { kind := .function, names := c.names, isGenerator := false, isCoroutine := false } scope (ownOf c.N scope.names) = true)
    (ht : tgIn ((ownOf c.N scope.names).map (·.2)) t = true) (hs : notSet it = true) (hi : PI X tg it (tI p X.K ci))
    (hg : ∀ X', Mat X' p (blkCc c scope.names) k → PG X' tg (tG X'.K t)) (hif : ∀ X', Mat X' p (blkCc c scope.names) k → PTs X' ifs (tTs p X'.K cif))
    (he : ∀ X', Mat X' p (blkCc c scope.names) k → PE X' elt (tE p X'.K ca)) : PE X (.ListComp elt [⟨tg, it, ifs, 0⟩] scope pos) (tE p X.K (.lc ci t cif ca ((ownOf c.N scope.names).map (·.2)))) := by
  have ok1 := blkOk_by hb
  have hk : scope.kind = .function := ok1.kind
  have ok : BlkOk X.N X.env.scope scope (ownOf c.N scope.names) := ⟨ok1.kind, ok1.uniq, by rw [M.hN]; exact ok1.ix, by rw [M.sc]; exact ok1.free, by rw [M.hN]; exact ok1.own⟩
  exact PE.imp (pe_lc M.calm (by rw [M.hN]; exact M.nd) hi ok (fun s H C cl fp => hg _ (M.blk hk s H C cl fp)) (fun s H C cl fp => hif _ (M.blk hk s H C cl fp)) (fun s H C cl fp => he _ (M.blk hk s H C cl fp)) (foldNo hs _)) fun σ H Q h => lc_read ht h
end
/-! ## the text and its core -/
section
variable {p : Pm} {k : Nat}
theorem cEs_len : ∀ (n : Nat) (c : Cc) (es : List Expr) (e : Env') (S : Store) (ds : List D) (S' : Store), ev p (cEs n c es) e S = some (.tup ds, S') → ds.length = es.length
  | 0, c, es, e, S, ds, S', h => by unfold cEs at h; exact (none_bad h).elim
  | n + 1, c, [], e, S, ds, S', h => by
    simp only [cEs, ev, Option.some.injEq, Prod.mk.injEq, D.tup.injEq] at h
    rw [← h.1]; rfl
  | n + 1, c, a :: r, e, S, ds, S', h => by
    simp only [cEs] at h
    split at h
    · simp only [ev, Option.bind_eq_some_iff] at h
      obtain ⟨x1, h1, ⟨y, S2⟩, h2, h3⟩ := h
      split at h3
      · rename_i fs hf
        simp only at hf
        subst hf
        cases h3
        rw [List.length_cons, List.length_cons, cEs_len n c r _ _ _ _ h2]
      · cases h3
    · exact (none_bad h).elim
theorem cKs_len : ∀ (n : Nat) (c : Cc) (kws : List Keyword) (e : Env') (S : Store) (ds : List D) (S' : Store), ev p (cKs n c kws) e S = some (.tup ds, S') → ds.length = kws.length
  | 0, c, es, e, S, ds, S', h => by unfold cKs at h; exact (none_bad h).elim
  | n + 1, c, [], e, S, ds, S', h => by
    simp only [cKs, ev, Option.some.injEq, Prod.mk.injEq, D.tup.injEq] at h
    rw [← h.1]; rfl
  | n + 1, c, ⟨nm, a, kp⟩ :: r, e, S, ds, S', h => by
    simp only [cKs, ev, Option.bind_eq_some_iff] at h
    obtain ⟨x1, h1, ⟨y, S2⟩, h2, h3⟩ := h
    split at h3
    · rename_i fs hf
      simp only at hf
      subst hf
      cases h3
      rw [List.length_cons, List.length_cons, cKs_len n c r _ _ _ _ h2]
    · cases h3
theorem kwNames_len : ∀ {kws : List Keyword} {ks : List Str}, kwNames kws = some ks → kws.length = ks.length
  | [], ks, h => by simp [kwNames] at h; subst h; rfl
  | ⟨some x, _, _⟩ :: r, ks, h => by
    simp only [kwNames, Option.map_eq_some_iff] at h
    obtain ⟨s, h1, rfl⟩ := h
    rw [List.length_cons, List.length_cons, kwNames_len h1]
  | ⟨none, _, _⟩ :: _, ks, h => by simp [kwNames] at h
theorem cEs_nil (n : Nat) (c : Cc) (e : Env') (S : Store) (x : D × Store) (h : ev p (cEs n c []) e S = some x) : x.2 = S := by
  cases n with
  | zero => unfold cEs at h; exact (none_bad h).elim
  | succ n => simp only [cEs, ev, Option.some.injEq] at h; rw [← h]
/-- the machine's words about all texts, to a depth -/
structure Snd (p : Pm) (k n : Nat) : Prop where
  e : ∀ (X : Cx) (c : Cc), Mat X p c k → ∀ e, PE X e (tE p X.K (cE n c e))
  es : ∀ (X : Cx) (c : Cc), Mat X p c k → ∀ es, PA X es (tA p X.K (cEs n c es))
  ks : ∀ (X : Cx) (c : Cc), Mat X p c k → ∀ kws, PK X kws (tA p X.K (cKs n c kws))
  and : ∀ (X : Cx) (c : Cc), Mat X p c k → ∀ a r pos, PE X (.BoolOp .And (a :: r) pos) (tE p X.K (cAnd n c a r))
  or : ∀ (X : Cx) (c : Cc), Mat X p c k → ∀ a r pos, PE X (.BoolOp .Or (a :: r) pos) (tE p X.K (cOr n c a r))
  t : ∀ (X : Cx) (c : Cc), Mat X p c k → ∀ e, PT X e (tTs p X.K (cT n c e))
  tand : ∀ (X : Cx) (c : Cc), Mat X p c k → ∀ a r pos, PW X (.BoolOp .And (a :: r) pos) (tTs p X.K (cTAnd n c a r))
  tor : ∀ (X : Cx) (c : Cc), Mat X p c k → ∀ a r pos, PW X (.BoolOp .Or (a :: r) pos) (tTs p X.K (cTOr n c a r))
  o : ∀ (X : Cx) (c : Cc), Mat X p c k → ∀ o, PO X o (tO' p X.K (cO n c o))
  i : ∀ (X : Cx) (c : Cc), Mat X p c k → ∀ tg e, PI X tg e (tI p X.K (cI n c (isTup tg) e))
theorem k_obad {X : Cx} {o : Option Expr} : PO X o (tO' p X.K .bad) := ⟨fun _ _ _ _ _ _ h => by
  obtain ⟨_, _, _, _, _, _, h, _⟩ := h
  simp [part, isAbs, ev] at h⟩
theorem snd_zero : Snd p k 0 where
  e := fun X c M e => by unfold cE; exact k_bad
  es := fun X c M e => by unfold cEs; exact k_abad
  ks := fun X c M e => by unfold cKs; exact k_kbad
  and := fun X c M a r pos => by unfold cAnd; exact k_bad
  or := fun X c M a r pos => by unfold cOr; exact k_bad
  t := fun X c M e => by unfold cT; exact k_badT
  tand := fun X c M a r pos => by unfold cTAnd; exact k_badW
  tor := fun X c M a r pos => by unfold cTOr; exact k_badW
  o := fun X c M o => by unfold cO; exact k_obad
  i := fun X c M tg e => by unfold cI; exact k_ibad
theorem tgs_star : ∀ (n : Nat) (c : Cc) (es : List Expr) (ds : List D) (S : Store) (e e1 : Env'), bindTs (cTgs n c es) ds S e = some e1 → es.all notStar = true
  | n, c, [], ds, S, e, e1, h => rfl
  | 0, c, a :: r, ds, S, e, e1, h => by unfold cTgs at h; cases ds <;> simp [bindTs] at h
  | n + 1, c, a :: r, ds, S, e, e1, h => by
    unfold cTgs at h
    simp only at h
    split at h
    · rename_i hs
      cases ds with
      | nil => simp [bindTs] at h
      | cons d ds =>
        simp only [bindTs, Option.bind_eq_some_iff] at h
        obtain ⟨e2, _, h2⟩ := h
        rw [List.all_cons, hs, tgs_star n c r _ _ _ _ h2]; rfl
    · cases ds <;> simp [bindTs] at h
theorem k_gtup' {X : Cx} {c : Cc} {kk n : Nat} {pos : Pos} {es : List Expr} (M : Mat X p c k) (h : es.all notStar = true → PGs X es (tGs X.K (cTgs n c es))) : PG X (.Tuple es kk pos) (tG X.K (.tp es.length (cTgs n c es))) := by
  by_cases hst : es.all notStar = true
  · exact k_gtup M hst (h hst)
  · refine ⟨fun pins s σ H v u Q I r h => ?_⟩
    obtain ⟨ρ, S, e, d, e1, _, _, _, h, _⟩ := h
    exfalso
    cases d with
    | tup ds =>
      simp only [bindT] at h
      split at h
      · exact hst (tgs_star _ _ _ _ _ _ _ h)
      · cases h
    | ref m =>
      simp only [bindT, Option.bind_eq_some_iff] at h
      obtain ⟨ys, _, h⟩ := h
      split at h
      · exact hst (tgs_star _ _ _ _ _ _ _ h)
      · cases h
    | _ => simp [bindT] at h
theorem k_tg_all {X : Cx} {c : Cc} (M : Mat X p c k) : ∀ n : Nat, (∀ e : Expr, PG X e (tG X.K (cTg n c e))) ∧ ∀ es : List Expr, es.all notStar = true → PGs X es (tGs X.K (cTgs n c es)) := by
  intro n
  induction n with
  | zero =>
    constructor
    · intro e
      unfold cTg
      split
      · split
        · rename_i hl
          split
          · rename_i i hi; exact k_gname M hl hi
          · exact k_gbad
        · exact k_gbad
      · exact k_gbad
      · exact k_gbad
    · intro es hst
      cases es with
      | nil => unfold cTgs; exact k_gsnil
      | cons a r => unfold cTgs; exact k_gsbad
  | succ n ih =>
    constructor
    · intro e
      unfold cTg
      split
      · split
        · rename_i hl
          split
          · rename_i i hi; exact k_gname M hl hi
          · exact k_gbad
        · exact k_gbad
      · exact k_gtup' M fun h => ih.2 _ h
      · exact k_gbad
    · intro es hst
      cases es with
      | nil => unfold cTgs; exact k_gsnil
      | cons a r =>
        unfold cTgs
        simp only
        rw [List.all_cons, Bool.and_eq_true] at hst
        rw [if_pos hst.1]
        exact k_gscons hst.1 (ih.1 a) (ih.2 r hst.2) hst.2
theorem cEs_star : ∀ (n : Nat) (c : Cc) (es : List Expr) (e : Env') (S : Store) (x : D × Store), ev p (cEs n c es) e S = some x → ∀ a ∈ es, notStar a = true
  | 0, c, es, e, S, x, h => by unfold cEs at h; exact (none_bad h).elim
  | n + 1, c, [], e, S, x, h => by intro a ha; cases ha
  | n + 1, c, b :: r, e, S, x, h => by
    intro a ha
    simp only [cEs] at h
    split at h
    · rename_i hs
      simp only [ev, Option.bind_eq_some_iff] at h
      obtain ⟨x1, h1, x2, h2, h3⟩ := h
      rcases List.mem_cons.mp ha with z | z
      · rw [z]; exact hs
      · exact cEs_star n c r _ _ _ h2 a z
    · exact (none_bad h).elim
theorem k_irngbad {X : Cx} {tg e : Expr} {ca : C} (h : ∀ e S x, ¬ ev p ca e S = some x) : PI X tg e (tI p X.K (.irng ca)) := ⟨fun _ _ _ _ _ _ q => by
  obtain ⟨ρ, S, e, items, cks, S', _, _, q, _⟩ := q
  simp only [ev, Option.bind_eq_some_iff] at q
  obtain ⟨x, h1, _⟩ := q
  exact (h _ _ _ h1).elim⟩
theorem k_ifsbad {X : Cx} {ifs : List Expr} : PTs X ifs (tTs p X.K .bad) := ⟨fun _ _ _ _ _ _ q => by obtain ⟨_, _, _, _, _, _, _, q, _⟩ := q; exact (none_bad q).elim⟩
theorem k_callbad {X : Cx} {e : Expr} {f : Nat} {pm : List Nat} {ca cb : C} (h : ∀ e S x, ¬ ev p ca e S = some x) : PE X e (tE p X.K (.call f pm ca cb)) := ⟨fun _ _ _ _ _ _ q => by
  obtain ⟨ρ, S, e, y, _, _, q, _⟩ := q
  simp only [ev, Option.bind_eq_some_iff] at q
  obtain ⟨x, h1, _⟩ := q
  exact (h _ _ _ h1).elim⟩
theorem k_bibad {X : Cx} {e : Expr} {b : Bi} {ca : C} (h : ∀ e S x, ¬ ev p ca e S = some x) : PE X e (tE p X.K (.bi b ca)) := ⟨fun _ _ _ _ _ _ q => by
  obtain ⟨ρ, S, e, y, _, _, q, _⟩ := q
  simp only [ev, Option.bind_eq_some_iff] at q
  obtain ⟨x, h1, _⟩ := q
  exact (h _ _ _ h1).elim⟩
theorem k_ccall {X : Cx} {c : Cc} (M : Mat X p c k) {n : Nat} {x : Str} {px pos : Pos} {es : List Expr} (h0 : ¬ es.length = 0) (ha : PA X es (tA p X.K (cEs n c es))) : PE X (.Call (.Name x px) es [] pos) (tE p X.K (cCall c x es.length (cEs n c es))) := by
  cases es with
  | nil => exact (h0 rfl).elim
  | cons a r =>
    have star : (a :: r).all notStar = true ∨ ∀ e S x, ¬ ev p (cEs n c (a :: r)) e S = some x := by
      by_cases q : (a :: r).all notStar = true
      · exact .inl q
      · exact .inr fun e S x z => q (List.all_eq_true.mpr (cEs_star n c _ e S x z))
    unfold cCall
    split
    · rename_i hg
      split
      · rename_i f ps hf
        split
        · rename_i hn
          rcases star with hs | hs
          · rw [hn]
            exact k_call M hg hf (M.glob.ar x f ps hf) hs hn ha (fun e S ds S' q => cEs_len n c _ e S ds S' q)
          · exact k_callbad hs
        · exact k_bad
      · split
        · rename_i hb
          split
          · rename_i b hq
            rcases star with hs | hs
            · exact k_bi M (by unfold bltB; rw [Bool.and_eq_true]; exact ⟨hg, hb⟩) hq hs ha
            · exact k_bibad hs
          · exact k_bad
        · exact k_bad
    · exact k_bad
theorem snd_succ {n : Nat} (h : Snd p k n) : Snd p k (n + 1) where
  es := fun X c M es => by
    cases es with
    | nil => unfold cEs; exact k_anil
    | cons a r =>
      unfold cEs
      simp only
      split
      · rename_i hs; exact k_acons hs (h.e X c M a) (h.es X c M r)
      · exact k_abad
  ks := fun X c M kws => by
    cases kws with
    | nil => unfold cKs; exact k_knil
    | cons a r => obtain ⟨nm, v, kp⟩ := a; unfold cKs; exact k_kcons (h.e X c M v) (h.ks X c M r)
  and := fun X c M a r pos => by
    cases r with
    | nil => unfold cAnd; exact k_and1 (h.e X c M a)
    | cons b s => unfold cAnd; exact k_and (h.e X c M a) (h.and X c M b s pos)
  or := fun X c M a r pos => by
    cases r with
    | nil => unfold cOr; exact k_and1 (h.e X c M a)
    | cons b s => unfold cOr; exact k_or (h.e X c M a) (h.or X c M b s pos)
  tand := fun X c M a r pos => by
    cases r with
    | nil => unfold cTAnd; exact k_tand1 (h.t X c M a)
    | cons b s => unfold cTAnd; exact k_tand (h.t X c M a) (h.tand X c M b s pos)
  tor := fun X c M a r pos => by
    cases r with
    | nil => unfold cTOr; exact k_tor1 (h.t X c M a)
    | cons b s => unfold cTOr; exact k_tor (h.t X c M a) (h.tor X c M b s pos)
  o := fun X c M o => by
    cases o with
    | none => unfold cO; exact k_onone
    | some e =>
      unfold cO
      simp only
      split
      · exact k_obad
      · rename_i q; exact k_osome (by simpa using q) (h.e X c M e)
  t := fun X c M e => by
    have val : (∀ whole, isTrue e X.env whole = (do let v ← whole; standAt e.pos; holding [v] (truthy v))) → PT X e (tTs p X.K (cE n c e)) := fun he => k_tval (h.e X c M e) he
    cases e with
    | BoolOp op es pos =>
      cases es with
      | nil => unfold cT; cases op <;> exact k_badT
      | cons a r =>
        unfold cT
        cases op with
        | And => exact (h.tand X c M a r pos).pt
        | Or => exact (h.tor X c M a r pos).pt
    | UnaryOp op a pos =>
      unfold cT
      cases op <;> first | exact k_badT | exact k_tnot (h.t X c M a)
    | IfExp t a b pos => unfold cT; exact k_badT
    | Compare a ops bs pos =>
      unfold cT
      simp only
      split
      · rename_i op b
        split
        · rename_i hs
          split
          · rename_i g hg
            split
            · exact k_tkin M hg (h.e X c M a)
            · exact k_tknin M hg (h.e X c M a)
            · exact k_badT
          · exact k_tcmp M hs (h.e X c M a) (h.e X c M b)
        · exact k_badT
      · rename_i o1 o2 b d
        split
        · exact k_badT
        · rename_i hs
          exact k_tchain M (by simpa using hs) (h.e X c M a) (h.e X c M b) (h.e X c M d)
      · exact k_badT
    | _ => exact val (fun _ => rfl)
  i := fun X c M tg e => by
    cases e with
    | Call f es kws pos =>
      unfold cI
      simp only
      split
      · rename_i x px
        split
        · rename_i hx
          subst hx
          split
          · rename_i hb
            rw [Bool.and_eq_true, Bool.or_eq_true] at hb
            obtain ⟨hb, hn⟩ := hb
            rcases hn with hn | hn
            · match es, hn with
              | [a], _ =>
                by_cases hs : notStar a = true
                · exact k_irng1 M hb hs (h.es X c M [a]) (fun e S ds S' q => cEs_len n c [a] e S ds S' q)
                · exact k_irngbad (fun e S x => by
                    intro q
                    exact hs (cEs_star n c [a] e S x q a List.mem_cons_self))
            · match es, hn with
              | [a, b], _ =>
                by_cases hs : notStar a = true
                · by_cases hs2 : notStar b = true
                  · exact k_irng2 M hb hs hs2 (h.es X c M [a, b]) (fun e S ds S' q => cEs_len n c [a, b] e S ds S' q)
                  · exact k_irngbad (fun e S x => by
                      intro q
                      exact hs2 (cEs_star n c [a, b] e S x q b (List.mem_cons_of_mem _ List.mem_cons_self)))
                · exact k_irngbad (fun e S x => by
                    intro q
                    exact hs (cEs_star n c [a, b] e S x q a List.mem_cons_self))
          · exact k_ibad
        · split
          · rename_i hx
            subst hx
            split
            · split
              · rename_i hb
                rw [Bool.and_eq_true] at hb
                exact k_irev M hb.1 hb.2 (h.e X c M _)
              · exact k_ibad
            · exact k_ibad
          · split
            · rename_i hx
              subst hx
              split
              · split
                · rename_i hb
                  rw [Bool.and_eq_true, Bool.and_eq_true] at hb
                  exact k_ienum M hb.1.1 hb.1.2 hb.2 (h.e X c M _)
                · exact k_ibad
              · exact k_ibad
            · split
              · rename_i hx
                subst hx
                split
                · split
                  · rename_i hb
                    rw [Bool.and_eq_true, Bool.and_eq_true, Bool.and_eq_true] at hb
                    exact k_izip M hb.1.1.1 hb.1.1.2 hb.1.2 hb.2 (h.e X c M _) (h.e X c M _)
                  · exact k_ibad
                · exact k_ibad
              · exact k_ival (h.e X c M _)
      · exact k_ival (h.e X c M _)
    | _ => exact k_ival (h.e X c M _)
  e := fun X c M e => by
    cases e with
    | Name x pos => exact k_name M
    | Constant kc j pos => exact k_const
    | BinOp a op b pos =>
      unfold cE
      simp only
      split
      · rename_i o ho; exact k_bin ho (h.e X c M a) (h.e X c M b)
      · exact k_bad
    | UnaryOp op a pos =>
      unfold cE
      cases op <;> first | exact k_bad | exact k_neg (h.e X c M a) | exact k_notE (h.e X c M a)
    | Compare a ops bs pos =>
      unfold cE
      simp only
      split
      · rename_i op b
        split
        · rename_i hs
          split
          · rename_i g hg
            split
            · exact k_kin M hg hs (h.e X c M a)
            · exact k_knin M hg hs (h.e X c M a)
            · exact k_bad
          · exact k_cmp M hs (h.e X c M a) (h.e X c M b)
        · exact k_bad
      · rename_i o1 o2 b d
        split
        · exact k_bad
        · rename_i hs
          exact k_chain M (by simpa using hs) (h.e X c M a) (h.e X c M b) (h.e X c M d)
      · exact k_bad
    | BoolOp op es pos =>
      unfold cE
      cases es with
      | nil => cases op <;> exact k_bad
      | cons a r =>
        cases op with
        | And => exact h.and X c M a r pos
        | Or => exact h.or X c M a r pos
    | IfExp t a b pos => exact k_ife (h.t X c M t) (h.e X c M a) (h.e X c M b)
    | Tuple es kk pos => exact k_tup (h.es X c M es)
    | List es pos => exact k_lst (h.es X c M es)
    | Subscript a b pos =>
      by_cases hs : isSlice b = true
      · cases b with
        | Slice lo hi st p2 =>
          unfold cE
          simp only
          split
          · exact k_slc (h.e X c M a) (h.o X c M lo) (h.o X c M hi)
          · exact k_bad
        | _ => simp [isSlice] at hs
      · have hs' : isSlice b = false := by simpa using hs
        have ee : cE (n + 1) c (.Subscript a b pos) = (match dicOf c a with
            | some g => .kget g (cE n c b)
            | none => .idx (cE n c a) (cE n c b)) := by
          cases b <;> first | rfl | (simp [isSlice] at hs; done)
        rw [ee]
        split
        · rename_i g hg; exact k_kget M hg hs' (h.e X c M b)
        · exact k_idx hs' (h.e X c M a) (h.e X c M b)
    | Call f es kws pos =>
      cases kws with
      | nil =>
        unfold cE
        simp only
        split
        · rename_i x px
          split
          · rename_i hx
            subst hx
            split
            · rename_i hb
              split
              · rename_i a t
                split
                · rename_i hs
                  unfold cIsTy
                  split
                  · rename_i t' ht; exact k_isty M hb hs ht (h.e X c M a)
                  · exact k_bad
                · exact k_bad
              · exact k_bad
            · exact k_bad
          · split
            · exact k_bad
            · rename_i h0; exact k_ccall M h0 (h.es X c M es)
        · rename_i o m ap
          split
          · exact k_bad
          · rename_i hap
            have hap' : (ap.endLine == pos.line) = true := by simpa using hap
            split
            · rename_i hm
              subst hm
              split
              · rename_i v
                split
                · rename_i hs
                  rw [Bool.and_eq_true] at hs
                  exact k_app hap' hs.1 hs.2 (h.e X c M o) (h.e X c M v)
                · exact k_bad
              · exact k_bad
            · split
              · rename_i hm
                subst hm
                split
                · rename_i g a b hg
                  split
                  · rename_i hs
                    rw [Bool.and_eq_true] at hs
                    exact k_kgetd M hg hap' hs.1 hs.2 (h.e X c M a) (h.e X c M b)
                  · exact k_bad
                · exact k_bad
              · exact k_bad
        · exact k_bad
      | cons kw kr =>
        unfold cE
        simp only
        split
        · rename_i x px
          split
          · rename_i hg
            rw [Bool.and_eq_true] at hg
            split
            · rename_i f ps ks hf hks
              split
              · rename_i q hq
                have hm := List.mem_of_find?_eq_some hq
                have hp := List.find?_some hq
                simp only [Bool.and_eq_true, decide_eq_true_eq] at hp
                exact k_callK M hg.1 hf (M.glob.ar x f ps hf) hg.2 hks hm hp.1.1 hp.1.2 hp.2 (h.es X c M es) (h.ks X c M _) (fun e S ds S' z => cEs_len n c _ e S ds S' z)
                  (fun e S ds S' z => by rw [cKs_len n c _ e S ds S' z, kwNames_len hks]) (fun he e S x z => by subst he; exact cEs_nil n c e S x z)
              · exact k_bad
            · exact k_bad
          · exact k_bad
        · exact k_bad
    | ListComp elt gs scope pos =>
      unfold cE
      simp only
      split
      · rename_i tg it ifs
        split
        · rename_i hb
          rw [Bool.and_eq_true, Bool.and_eq_true] at hb
          refine k_lc M hb.1.1 hb.1.2 hb.2 (h.i X c M tg it) (fun X' M' => (k_tg_all M' n).1 tg) (fun X' M' => ?_) (fun X' M' => h.e X' _ M' elt)
          split
          · exact k_ifs0
          · exact k_ifs1 (h.t X' _ M' _)
          · exact k_ifsbad
        · exact k_bad
      · exact k_bad
    | _ => exact k_bad
end
end Tm

set_option Elab.async false
set_option linter.all false
set_option maxRecDepth 100000
set_option maxHeartbeats 4000000
namespace Tm
open PySem PySem.Spec PyProof.Rows L2
theorem snd_all (p : Pm) (k : Nat) : ∀ n, Snd p k n
  | 0 => snd_zero
  | n + 1 => snd_succ (snd_all p k n)
/-! ## statements -/
def isComp : Expr → Bool
  | .ListComp .. | .SetComp .. | .DictComp .. => true
  | _ => false
def onlyLc : Expr → Bool
  | .ListComp .. => true
  | _ => false
def isTupE : Expr → Bool
  | .Tuple .. | .List .. => true
  | _ => false
/-- y = [..] on one line, y a plain local -/
def swapC (c : Cc) (y : Str) (py : Pos) : Expr → Bool
  | .ListComp _ _ scope pos => (c.names.lookup y == some .local) && (py.line == pos.line) && !(scope.names.any fun (n, k) => n == y && (k == .local || k == .cell))
  | _ => false
/-- a, b = x, y with plain local names of one line -/
def parN (c : Cc) : Expr → Expr → Option (List Str)
  | .Tuple ts _ _, .Tuple vs _ _ =>
    if !(ts.length == 2 || ts.length == 3) || vs.length != ts.length then none
    else if vs.any fun | .Starred .. => true | _ => false then none
    else
      let line := (ts.head?.map (·.pos.line)).getD 0
      let names := ts.filterMap fun
        | .Name id pos => if c.names.lookup id == some .local && pos.line == line then some id else none
        | _ => none
      if names.length != ts.length || names.eraseDups.length != names.length then none
      else if vs.all (foldedForSure 8) then none
      else if vs.all (constantsAlone 8) then none
      else some names
  | _, _ => none
/-- is it stored one by one, from the left? none: not known -/
def noPar (c : Cc) (t v : Expr) : Bool := match t, v with
  | .Tuple ts _ _, .Tuple vs _ _ =>
    if !(ts.length == 2 || ts.length == 3) || vs.length != ts.length then true
    else if vs.any fun | .Starred .. => true | _ => false then true
    else
      let line := (ts.head?.map (·.pos.line)).getD 0
      let names := ts.filterMap fun
        | .Name id pos => if c.names.lookup id == some .local && pos.line == line then some id else none
        | _ => none
      if names.length != ts.length || names.eraseDups.length != names.length then true
      else if vs.all (foldedForSure 8) then true
      else false
  | .List .., _ => false
  | _, _ => true
def cPar (n : Nat) (c : Cc) (t v : Expr) (names : List Str) : St := match t, v with
  | .Tuple [.Name x _, .Name y _] _ _, .Tuple [a, b] _ _ => (match ixOf c.N x, ixOf c.N y with
    | some i, some j => if decide (names = [x, y]) && (c.names.lookup x == some .local) && (c.names.lookup y == some .local) && !(i == j) && notStar a && notStar b then .asg (.tp 2 (.cons (.nm i) (.cons (.nm j) .nil))) (.tup (.cons (cE n c a) (.cons (cE n c b) .nil))) else .bad
    | _, _ => .bad)
  | .Tuple [.Name x _, .Name y _, .Name z _] _ _, .Tuple [a, b, d] _ _ => (match ixOf c.N x, ixOf c.N y, ixOf c.N z with
    | some i, some j, some l => if decide (names = [x, y, z]) && (c.names.lookup x == some .local) && (c.names.lookup y == some .local) && (c.names.lookup z == some .local) && !(i == j) && !(i == l) && !(j == l) && notStar a && notStar b && notStar d then
        .asg (.tp 3 (.cons (.nm i) (.cons (.nm j) (.cons (.nm l) .nil)))) (.tup (.cons (cE n c a) (.cons (cE n c b) (.cons (cE n c d) .nil)))) else .bad
    | _, _, _ => .bad)
  | _, _ => .bad
mutual
def cS (n : Nat) (c : Cc) (s : Stmt) : St := match n with
  | 0 => .bad
  | n + 1 => match s with
    | .Expr e _ => if isComp e then .bad else .drop (cE n c e)
    | .Return e _ => (match e with
      | none => .ret (.lit .non)
      | some e => .ret (cE n c e))
    | .Assign ts e _ => (match ts with
      | [t] => (match t with
        | .Name y py => if isComp e && !onlyLc e then .bad else .asg (cTg n c t) (cE n c e)
        | .Tuple .. => if isComp e then .bad else if noPar c t e then .asg (cTg n c t) (cE n c e) else (match parN c t e with
          | some names => cPar n c t e names
          | none => .bad)
        | .Subscript o i _ => if isSlice i || isComp e then .bad else .seti (cE n c e) (cE n c o) (cE n c i)
        | _ => .bad)
      | _ => .bad)
    | .If t a b _ => .ifs (cT n c t) (cSs n c a) (cSs n c b)
    | .For t it b o _ => (match o with
      | [] => if notSet it then .for_ (cI n c (isTup t) it) (cTg n c t) (cSs n c b) else .bad
      | _ => .bad)
    | .While t b o _ => (match o with
      | [] => .whl (cT n c t) (cSs n c b)
      | _ => .bad)
    | .Pass _ => .skip
    | .Break _ => .brk
    | .Continue _ => .cont
    | _ => .bad
def cSs (n : Nat) (c : Cc) (s : List Stmt) : St := match n with
  | 0 => .bad
  | n + 1 => match s with
    | [] => .skip
    | s :: r => .seq (cS n c s) (cSs n c r)
end
def AftS (K : PySem.W.Frag) (ρ : List Addr) (H : Hp) (r : Fl × Env' × Store) (D : Ends) : Prop := ∀ (ρ' : List Addr) (H' : Hp), Pre ρ ρ' → Gro H H' → Sim K ρ' r.2.2 H' → match r.1 with
  | .nx => ∀ σ', EnvR K ρ' H' r.2.1 σ' → D.nx σ' H'
  | .bk => ∀ σ', EnvR K ρ' H' r.2.1 σ' → D.bk σ' H'
  | .ct => ∀ σ', EnvR K ρ' H' r.2.1 σ' → D.ct σ' H'
  | .rt d => ∀ v, Rep K ρ' H' v d → D.rt v H'
theorem AftS.mono {K : PySem.W.Frag} {ρ ρ' : List Addr} {H H' : Hp} {r : Fl × Env' × Store} {D : Ends} (k : AftS K ρ H r D) (p : Pre ρ ρ') (g : Gro H H') : AftS K ρ' H' r D := fun _ _ p' g' s => k _ _ (p.trans p') (g.trans g') s
def tS (p : Pm) (K : PySem.W.Frag) (s : St) : TS := fun D σ H => ∃ (ρ : List Addr) (S : Store) (e : Env') (r : Fl × Env' × Store), Sim K ρ S H ∧ EnvR K ρ H e σ ∧ ex p s e S = some r ∧ AftS K ρ H r D
theorem PS.imp {X : Cx} {e : Stmt} {t t' : TS} (h : PS X e t) (f : ∀ D σ H, t' D σ H → t D σ H) : PS X e t' := ⟨fun pins s σ H D I q => h.run pins s σ H D I (f D σ H q)⟩
theorem PSs.imp {X : Cx} {e : List Stmt} {t t' : TS} (h : PSs X e t) (f : ∀ D σ H, t' D σ H → t D σ H) : PSs X e t' := ⟨fun pins s σ H D I q => h.run pins s σ H D I (f D σ H q)⟩
section
variable {X : Cx} {p : Pm} {c : Cc} {k : Nat} {e a b d it : Expr} {st : Stmt} {sts : List Stmt} {ca cb cd : C} {sa sb : St} {pos : Pos}
theorem k_sbad : PS X st (tS p X.K .bad) := ⟨fun _ _ _ _ _ _ h => by obtain ⟨_, _, _, _, _, _, h, _⟩ := h; simp [ex] at h⟩
theorem k_ssbad : PSs X sts (tS p X.K .bad) := ⟨fun _ _ _ _ _ _ h => by obtain ⟨_, _, _, _, _, _, h, _⟩ := h; simp [ex] at h⟩
theorem k_sskip : PSs X [] (tS p X.K .skip) := PSs.imp pss_nil fun D σ H h => by
  obtain ⟨ρ, S, e, r, sm, en, h, q⟩ := h
  simp only [ex, Option.some.injEq] at h
  subst h
  exact q ρ H (Pre.refl ρ) (Gro.refl H) sm σ en
theorem k_pass : PS X (.Pass pos) (tS p X.K .skip) := PS.imp ps_pass fun D σ H h => by
  obtain ⟨ρ, S, e, r, sm, en, h, q⟩ := h
  simp only [ex, Option.some.injEq] at h
  subst h
  exact q ρ H (Pre.refl ρ) (Gro.refl H) sm σ en
theorem k_brk : PS X (.Break pos) (tS p X.K .brk) := PS.imp ps_break fun D σ H h => by
  obtain ⟨ρ, S, e, r, sm, en, h, q⟩ := h
  simp only [ex, Option.some.injEq] at h
  subst h
  exact q ρ H (Pre.refl ρ) (Gro.refl H) sm σ en
theorem k_cont : PS X (.Continue pos) (tS p X.K .cont) := PS.imp ps_continue fun D σ H h => by
  obtain ⟨ρ, S, e, r, sm, en, h, q⟩ := h
  simp only [ex, Option.some.injEq] at h
  subst h
  exact q ρ H (Pre.refl ρ) (Gro.refl H) sm σ en
theorem k_seq (ha : PS X st (tS p X.K sa)) (hb : PSs X sts (tS p X.K sb)) : PSs X (st :: sts) (tS p X.K (.seq sa sb)) := by
  refine PSs.imp (pss_cons ha hb) fun D σ H h => ?_
  obtain ⟨ρ, S, e, r, sm, en, h, q⟩ := h
  simp only [ex, Option.bind_eq_some_iff] at h
  obtain ⟨⟨f1, e1, S1⟩, h1, h2⟩ := h
  refine ⟨ρ, S, e, _, sm, en, h1, fun ρ1 H1 p1 g1 s1 => ?_⟩
  cases f1 with
  | nx => exact fun σ1 en1 => ⟨ρ1, S1, e1, r, s1, en1, h2, q.mono p1 g1⟩
  | bk => simp only [Option.some.injEq] at h2; subst h2; exact q ρ1 H1 p1 g1 s1
  | ct => simp only [Option.some.injEq] at h2; subst h2; exact q ρ1 H1 p1 g1 s1
  | rt v => simp only [Option.some.injEq] at h2; subst h2; exact q ρ1 H1 p1 g1 s1
theorem k_drop (hs : isComp e = false) (ha : PE X e (tE p X.K ca)) : PS X (.Expr e pos) (tS p X.K (.drop ca)) := by
  refine PS.imp (ps_expr ha (by cases e <;> first | rfl | (simp [isComp] at hs; done))) fun D σ H h => ?_
  obtain ⟨ρ, S, e, r, sm, en, h, q⟩ := h
  simp only [ex, Option.map_eq_some_iff] at h
  obtain ⟨x, h1, h2⟩ := h
  subst h2
  exact st1 sm en h1 fun ρ1 H1 v p1 g1 s1 e1 r1 => q ρ1 H1 p1 g1 s1 σ e1
theorem k_ret (ha : PE X e (tE p X.K ca)) : PS X (.Return (some e) pos) (tS p X.K (.ret ca)) := by
  refine PS.imp (ps_ret ha) fun D σ H h => ?_
  obtain ⟨ρ, S, e, r, sm, en, h, q⟩ := h
  simp only [ex, Option.map_eq_some_iff] at h
  obtain ⟨x, h1, h2⟩ := h
  subst h2
  exact st1 sm en h1 fun ρ1 H1 v p1 g1 s1 e1 r1 => q ρ1 H1 p1 g1 s1 v r1
theorem k_retN : PS X (.Return none pos) (tS p X.K (.ret (.lit .non))) := by
  refine PS.imp ps_retN fun D σ H h => ?_
  obtain ⟨ρ, S, e, r, sm, en, h, q⟩ := h
  simp only [ex, ev, isScal, if_true, Option.map_some, Option.some.injEq] at h
  subst h
  exact q ρ H (Pre.refl ρ) (Gro.refl H) sm .non .non
theorem k_if (ht : PT X e (tTs p X.K ca)) (ha : PSs X sts (tS p X.K sa)) {sts2 : List Stmt} (hb : PSs X sts2 (tS p X.K sb)) : PS X (.If e sts sts2 pos) (tS p X.K (.ifs ca sa sb)) := by
  refine PS.imp (ps_if ht ha hb) fun D σ H h => ?_
  obtain ⟨ρ, S, e, r, sm, en, h, q⟩ := h
  simp only [ex, Option.bind_eq_some_iff] at h
  obtain ⟨⟨d1, S1⟩, h1, h2⟩ := h
  split at h2
  · rename_i hi
    simp only at hi
    subst hi
    refine stT sm en h1 fun ρ' H' p1 g1 s1 e1 => ?_
    rw [if_pos rfl]
    exact ⟨ρ', S1, e, r, s1, e1, h2, q.mono p1 g1⟩
  · rename_i hi
    simp only at hi
    subst hi
    refine stT sm en h1 fun ρ' H' p1 g1 s1 e1 => ?_
    rw [if_neg (by decide)]
    exact ⟨ρ', S1, e, r, s1, e1, h2, q.mono p1 g1⟩
  · cases h2
theorem asg_read {K : PySem.W.Frag} {t : Tg} {D : Ends} {σ : L2.St} {H : Hp} (h : tS p K (.asg t ca) D σ H) : tAsg (tE p K ca) (tG K t) D σ H := by
  obtain ⟨ρ, S, e, r, sm, en, h, q⟩ := h
  simp only [ex, Option.bind_eq_some_iff, Option.map_eq_some_iff] at h
  obtain ⟨x, h1, e1, h2, h3⟩ := h
  subst h3
  exact st1 sm en h1 fun ρ1 H1 v p1 g1 s1 en1 r1 => ⟨ρ1, x.2, e, x.1, e1, s1, en1, r1, h2, fun σ' en2 _ => q ρ1 H1 p1 g1 s1 σ' en2⟩
end
end Tm

set_option Elab.async false
set_option linter.all false
set_option maxRecDepth 100000
set_option maxHeartbeats 4000000
namespace Tm
open PySem PySem.Spec PyProof.Rows L2
section
variable {X : Cx} {p : Pm} {c : Cc} {k : Nat} {e a b d it : Expr} {st : Stmt} {sts : List Stmt} {ca cb cd ci : C} {sa sb : St} {pos : Pos}
theorem Mat.block (M : Mat X p c k) : X.env.blockKind = .function := by
  unfold Env.blockKind
  rw [M.kind]; rfl
theorem Mat.kindOf (M : Mat X p c k) (y : Str) : X.env.kindOf y = c.names.lookup y := by
  unfold Env.kindOf
  rw [M.sc]
theorem noPar_ok (M : Mat X p c k) {ts : List Expr} {k1 : Nat} {p1 : Pos} {v : Expr} (h : noPar c (.Tuple ts k1 p1) v = true) : swappedStores [.Tuple ts k1 p1] v X.env = pure none := by
  cases v with
  | Tuple vs k2 p2 =>
    unfold swappedStores
    unfold noPar at h
    simp only [M.block, M.kindOf, bne_self_eq_false, Bool.or_false] at h ⊢
    split
    · rfl
    · rename_i c1
      split
      · rfl
      · rename_i c2
        split
        · rfl
        · rename_i c3
          split
          · rfl
          · rename_i c4
            have z := ((if_neg c1).trans ((if_neg c2).trans ((if_neg c3).trans (if_neg c4)))).symm.trans h
            exact Bool.noConfusion z
  | _ => rfl
theorem parN_ok (M : Mat X p c k) {ts vs names : List Expr} {k1 k2 : Nat} {p1 p2 : Pos} {nm : List Str} (h : parN c (.Tuple ts k1 p1) (.Tuple vs k2 p2) = some nm) : swappedStores [.Tuple ts k1 p1] (.Tuple vs k2 p2) X.env = pure (some nm) := by
  unfold swappedStores
  unfold parN at h
  simp only [M.block, M.kindOf, bne_self_eq_false, Bool.or_false] at h ⊢
  split
  · rename_i c1
    have z := ((if_pos c1).symm.trans h)
    cases z
  · rename_i c1
    split
    · rename_i c2
      have z := (((if_neg c1).trans (if_pos c2)).symm.trans h)
      cases z
    · rename_i c2
      split
      · rename_i c3
        have z := (((if_neg c1).trans ((if_neg c2).trans (if_pos c3))).symm.trans h)
        cases z
      · rename_i c3
        split
        · rename_i c4
          have z := (((if_neg c1).trans ((if_neg c2).trans ((if_neg c3).trans (if_pos c4)))).symm.trans h)
          cases z
        · rename_i c4
          split
          · rename_i c5
            have z := (((if_neg c1).trans ((if_neg c2).trans ((if_neg c3).trans ((if_neg c4).trans (if_pos c5))))).symm.trans h)
            cases z
          · rename_i c5
            have z := Option.some.inj (((if_neg c1).trans ((if_neg c2).trans ((if_neg c3).trans ((if_neg c4).trans (if_neg c5))))).symm.trans h)
            rw [← z]
            rfl
theorem swaps_lc (M : Mat X p c k) {elt : Expr} {gs : List Comprehension} {scope : Scope} {ps py : Pos} {y : Str} (l : Nat) :
    swapsWith (.ListComp elt gs scope ps) (some (.Name y py)) l X.env = pure (swapC c y py (.ListComp elt gs scope ps)) := by
  unfold swapsWith swapC
  simp only [M.block, M.kindOf]
  rfl
theorem k_asgN (M : Mat X p c k) {x : Str} {i : Nat} {px : Pos} (hl : locB c x = true) (hi : ixOf c.N x = some i) (hs : swapsWith e (some (.Name x px)) pos.line X.env = pure false) (ha : PE X e (tE p X.K ca)) : PS X (.Assign [.Name x px] e pos) (tS p X.K (.asg (.nm i) ca)) := by
  obtain ⟨h1, h2⟩ := M.loc hl
  refine PS.imp (ps_set (i := i) (by rw [M.hN]; exact M.nd) (by rw [M.hN]; exact ixOf_get hi) h1 ha hs h2) fun D σ H h => ?_
  obtain ⟨ρ, S, e, r, sm, en, h, q⟩ := h
  simp only [ex, Option.bind_eq_some_iff, Option.map_eq_some_iff] at h
  obtain ⟨x, h1, e1, h2, h3⟩ := h
  subst h3
  refine st1 sm en h1 fun ρ1 H1 v p1 g1 s1 en1 r1 => ?_
  simp only [bindT] at h2
  split at h2
  · cases h2
    exact q ρ1 H1 p1 g1 s1 _ (en1.set r1 i)
  · cases h2
theorem k_asgLc (M : Mat X p c k) {x : Str} {i : Nat} {px : Pos} {elt tg it : Expr} {scope : Scope} {ps : Pos} {ifs : List Expr} {t : Tg} {cif : C} (hl : locB c x = true) (hi : ixOf c.N x = some i)
    (hb : blkC c.N { kind := .function, names := c.names, isGenerator := false, isCoroutine := false } scope (ownOf c.N scope.names) = true)
    (ht : tgIn ((ownOf c.N scope.names).map (·.2)) t = true) (hs : notSet it = true) (hi2 : PI X tg it (tI p X.K ci))
    (hg : ∀ X', Mat X' p (blkCc c scope.names) k → PG X' tg (tG X'.K t)) (hif : ∀ X', Mat X' p (blkCc c scope.names) k → PTs X' ifs (tTs p X'.K cif))
    (he : ∀ X', Mat X' p (blkCc c scope.names) k → PE X' elt (tE p X'.K ca)) : PS X (.Assign [.Name x px] (.ListComp elt [⟨tg, it, ifs, 0⟩] scope ps) pos) (tS p X.K (.asg (.nm i) (.lc ci t cif ca ((ownOf c.N scope.names).map (·.2))))) := by
  by_cases sw : swapC c x px (.ListComp elt [⟨tg, it, ifs, 0⟩] scope ps) = true
  · have ok1 := blkOk_by hb
    have hk : scope.kind = .function := ok1.kind
    have ok : BlkOk X.N X.env.scope scope (ownOf c.N scope.names) := ⟨ok1.kind, ok1.uniq, by rw [M.hN]; exact ok1.ix, by rw [M.sc]; exact ok1.free, by rw [M.hN]; exact ok1.own⟩
    have hloc : X.env.scope.names.lookup x = some .local := by
      simp only [swapC, Bool.and_eq_true] at sw
      rw [M.sc]
      exact eq_of_beq sw.1.1
    refine PS.imp (ps_setLc (i := i) (te := tE p X.K ca) (tt := tTs p X.K cif) (g := tG X.K t) (wi := tI p X.K ci) M.calm (by rw [M.hN]; exact M.nd) (by rw [M.hN]; exact ixOf_get hi) hloc (by rw [swaps_lc M, sw]) hi2 ok (fun s H C cl fp => hg _ (M.blk hk s H C cl fp)) (fun s H C cl fp => hif _ (M.blk hk s H C cl fp)) (fun s H C cl fp => he _ (M.blk hk s H C cl fp)) (foldNo hs _)) fun D σ H h => ?_
    obtain ⟨ρ, S, e, r, sm, en, h, q⟩ := h
    simp only [ex, Option.bind_eq_some_iff, Option.map_eq_some_iff] at h
    obtain ⟨x, h1, e1, h2, h3⟩ := h
    subst h3
    refine lc_read ht (st1 sm en h1 fun ρ1 H1 v p1 g1 s1 en1 r1 => ?_)
    simp only [bindT] at h2
    split at h2
    · cases h2
      exact q ρ1 H1 p1 g1 s1 _ (en1.set r1 i)
    · cases h2
  · exact k_asgN M hl hi (by rw [swaps_lc M]; simp [sw]) (k_lc M hb ht hs hi2 hg hif he)
theorem k_asgT (M : Mat X p c k) {ts : List Expr} {k1 : Nat} {p1 : Pos} {t : Tg} (hn : noPar c (.Tuple ts k1 p1) e = true) (hc : isComp e = false) (hg : PG X (.Tuple ts k1 p1) (tG X.K t)) (ha : PE X e (tE p X.K ca)) :
    PS X (.Assign [.Tuple ts k1 p1] e pos) (tS p X.K (.asg t ca)) :=
  PS.imp (ps_asg ha hg (by cases e <;> first | rfl | (simp [isComp] at hc; done)) (noPar_ok M hn) rfl) fun D σ H h => asg_read h
theorem k_seti {o i : Expr} {p1 : Pos} (hs : isSlice i = false) (hc : isComp e = false) (ho : PE X o (tE p X.K ca)) (hi : PE X i (tE p X.K cb)) (hv : PE X e (tE p X.K cd)) :
    PS X (.Assign [.Subscript o i p1] e pos) (tS p X.K (.seti cd ca cb)) := by
  refine PS.imp (ps_asg hv (pg_sub ho hi set_list (by intro v; cases i <;> first | rfl | (simp [isSlice] at hs; done))) (by cases e <;> first | rfl | (simp [isComp] at hc; done)) (by cases e <;> rfl) rfl) fun D σ H h => ?_
  obtain ⟨ρ, S, e, r, sm, en, h, q⟩ := h
  simp only [ex, Option.bind_eq_some_iff, Option.map_eq_some_iff] at h
  obtain ⟨x1, h1, x2, h2, x3, h3, S', h4, h5⟩ := h
  subst h5
  refine st1 sm en h1 fun ρ1 H1 v p1 g1 s1 e1 r1 => st1 s1 e1 h2 fun ρ2 H2 w p2 g2 s2 e2 r2 => st1 s2 e2 h3 fun ρ3 H3 z p3 g3 s3 e3 r3 => ?_
  obtain ⟨d2, S2⟩ := x2
  obtain ⟨d3, S3⟩ := x3
  unfold setS at h4
  split at h4
  · rename_i n kk hn hk
    simp only at hn hk
    subst hn; subst hk
    split at h4
    · rename_i xs hx
      simp only [Option.map_eq_some_iff] at h4
      obtain ⟨j, hj, h6⟩ := h4
      subst h6
      obtain ⟨A, ev1, hA⟩ := rep_ref r2
      have hA3 := p3 _ _ hA
      obtain ⟨vs, q1, q2⟩ := s3.obj n _ A hx hA3
      refine ⟨A, vs, kk, j, ev1, rep_int r3, q1, by rw [q2.length]; exact hj, ?_⟩
      have rr := Reps.set ((r1.mono g2 p2).mono g3 p3) j q2
      have gm : Gro H3 (upd H3 A (.lst (vs.set j v))) := Gro.mut q1
      exact q ρ3 _ (p1.trans (p2.trans p3)) ((g1.trans (g2.trans g3)).trans gm) (s3.put hx hA3 q1 rr) σ (e3.mono (Pre.refl _) gm)
    · cases h4
  · cases h4
theorem k_for (M : Mat X p c k) {tg it : Expr} {t : Tg} (hs : notSet it = true) (hi : PI X tg it (tI p X.K ci)) (hg : PG X tg (tG X.K t)) (hb : PSs X sts (tS p X.K sb)) : PS X (.For tg it sts [] pos) (tS p X.K (.for_ ci t sb)) := by
  refine PS.imp (ps_for (by rw [M.xe]; exact PassesOwn.never) M.calm hi hg hb (foldNo hs _)) fun D σ H h => ?_
  obtain ⟨ρ, S, e, r, sm, en, h, q⟩ := h
  simp only [ex, Option.bind_eq_some_iff] at h
  obtain ⟨⟨d1, S1⟩, h1, h2⟩ := h
  split at h2
  · rename_i items cks hd
    simp only at hd
    subst hd
    refine ⟨ρ, S, e, items, cks, S1, sm, en, h1, fun ρ1 H1 J p1 g1 s1 ok => ?_⟩
    refine ⟨fun i m σ2 H2 => m = items.length - i ∧ i ≤ items.length ∧ ∃ (ρ2 : List Addr) (S2 : Store) (e2 : Env'), Pre ρ1 ρ2 ∧ Gro H1 H2 ∧ Sim X.K ρ2 S2 H2 ∧ EnvR X.K ρ2 H2 e2 σ2 ∧ forL (ex p sb) t cks (items.drop i) e2 S2 = some r,
      ⟨items.length, by simp, Nat.zero_le _, ρ1, S1, e, Pre.refl _, Gro.refl _, s1, en.mono p1 g1, by simpa using h2⟩, ?_⟩
    rintro i m σ2 H2 ⟨rfl, hle, ρ2, S2, e2, p2, g2, s2, en2, h5⟩
    cases hdr : items.drop i with
    | nil =>
      rw [hdr] at h5
      simp only [forL] at h5
      split at h5
      · rename_i hc
        cases h5
        exact .inl ⟨((ok ρ2 S2 H2 p2 g2 s2 hc) i).1 (drop_nil hdr hle), q ρ2 H2 (p1.trans p2) (g1.trans g2) s2 σ2 en2⟩
      · cases h5
    | cons d rr =>
      obtain ⟨hdi, hdr2, hlt⟩ := drop_cons hdr
      rw [hdr] at h5
      simp only [forL] at h5
      split at h5
      · rename_i hc
        obtain ⟨go, yl⟩ := ((ok ρ2 S2 H2 p2 g2 s2 hc) i).2 d hdi
        simp only [Option.bind_eq_some_iff] at h5
        obtain ⟨e3, hbd, ⟨f4, e4, S4⟩, hbo, h6⟩ := h5
        refine .inr ⟨go, fun σ' H' => ∃ m', m' < items.length - i ∧ (m' = items.length - (i + 1) ∧ i + 1 ≤ items.length ∧ ∃ (ρ2 : List Addr) (S2 : Store) (e2 : Env'), Pre ρ1 ρ2 ∧ Gro H1 H' ∧ Sim X.K ρ2 S2 H' ∧ EnvR X.K ρ2 H' e2 σ' ∧ forL (ex p sb) t cks (items.drop (i + 1)) e2 S2 = some r), fun σ' H' z => z, fun x H3 hy => ?_⟩
        obtain ⟨g3, s3, r3⟩ := yl x H3 hy
        refine ⟨ρ2, S2, e2, d, e3, s3, en2.mono (Pre.refl _) g3, r3, hbd, fun σ4 en4 _ => ⟨ρ2, S2, e3, _, s3, en4, hbo, fun ρ5 H5 p5 g5 s5 => ?_⟩⟩
        cases f4 with
        | nx => exact fun σ6 en6 => ⟨items.length - (i + 1), by omega, rfl, hlt, ρ5, S4, e4, p2.trans p5, (g2.trans g3).trans g5, s5, en6, by rw [hdr2]; exact h6⟩
        | ct => exact fun σ6 en6 => ⟨items.length - (i + 1), by omega, rfl, hlt, ρ5, S4, e4, p2.trans p5, (g2.trans g3).trans g5, s5, en6, by rw [hdr2]; exact h6⟩
        | bk =>
          simp only [Option.some.injEq] at h6
          subst h6
          exact fun σ6 en6 => q ρ5 H5 (p1.trans (p2.trans p5)) (g1.trans ((g2.trans g3).trans g5)) s5 σ6 en6
        | rt v =>
          simp only [Option.some.injEq] at h6
          subst h6
          exact fun w rw' => q ρ5 H5 (p1.trans (p2.trans p5)) (g1.trans ((g2.trans g3).trans g5)) s5 w rw'
      · cases h5
  · cases h2
theorem k_while (M : Mat X p c k) (ht : PT X e (tTs p X.K ca)) (hb : PSs X sts (tS p X.K sb)) : PS X (.While e sts [] pos) (tS p X.K (.whl ca sb)) := by
  refine PS.imp (ps_while (by rw [M.xe]; exact PassesOwn.never) ht hb) fun D σ H h => ?_
  obtain ⟨ρ, S, e, r, sm, en, h, q⟩ := h
  simp only [ex] at h
  refine ⟨fun m σ2 H2 => ∃ (ρ2 : List Addr) (S2 : Store) (e2 : Env'), Pre ρ ρ2 ∧ Gro H H2 ∧ Sim X.K ρ2 S2 H2 ∧ EnvR X.K ρ2 H2 e2 σ2 ∧ whL (ev p ca) (ex p sb) m e2 S2 = some r, ⟨p.W, ρ, S, e, Pre.refl _, Gro.refl _, sm, en, h⟩, ?_⟩
  rintro m σ2 H2 ⟨ρ2, S2, e2, p2, g2, s2, en2, h5⟩
  cases m with
  | zero => simp [whL] at h5
  | succ m =>
    simp only [whL, Option.bind_eq_some_iff] at h5
    obtain ⟨⟨bv, S3⟩, hcnd, h6⟩ := h5
    split at h6
    · rename_i hbv
      simp only at hbv
      subst hbv
      simp only [Option.bind_eq_some_iff] at h6
      obtain ⟨⟨f4, e4, S4⟩, hbo, h7⟩ := h6
      refine stT s2 en2 hcnd fun ρ3 H3 p3 g3 s3 en3 => ?_
      rw [if_pos rfl]
      refine ⟨fun σ' H' => ∃ m', m' < m + 1 ∧ ∃ (ρ2 : List Addr) (S2 : Store) (e2 : Env'), Pre ρ ρ2 ∧ Gro H H' ∧ Sim X.K ρ2 S2 H' ∧ EnvR X.K ρ2 H' e2 σ' ∧ whL (ev p ca) (ex p sb) m' e2 S2 = some r, fun σ' H' z => z, ρ3, S3, e2, _, s3, en3, hbo, fun ρ5 H5 p5 g5 s5 => ?_⟩
      cases f4 with
      | nx => exact fun σ6 en6 => ⟨m, by omega, ρ5, S4, e4, p2.trans (p3.trans p5), (g2.trans g3).trans g5, s5, en6, h7⟩
      | ct => exact fun σ6 en6 => ⟨m, by omega, ρ5, S4, e4, p2.trans (p3.trans p5), (g2.trans g3).trans g5, s5, en6, h7⟩
      | bk =>
        simp only [Option.some.injEq] at h7
        subst h7
        exact fun σ6 en6 => q ρ5 H5 (p2.trans (p3.trans p5)) ((g2.trans g3).trans g5) s5 σ6 en6
      | rt v =>
        simp only [Option.some.injEq] at h7
        subst h7
        exact fun w rw' => q ρ5 H5 (p2.trans (p3.trans p5)) ((g2.trans g3).trans g5) s5 w rw'
    · rename_i hbv
      simp only at hbv
      subst hbv
      simp only [Option.some.injEq] at h6
      subst h6
      refine stT s2 en2 hcnd fun ρ3 H3 p3 g3 s3 en3 => ?_
      rw [if_neg (by decide)]
      exact q ρ3 H3 (p2.trans p3) (g2.trans g3) s3 σ2 en3
    · cases h6
theorem k_par2 (M : Mat X p c k) {x y : Str} {i j : Nat} {px py pt p2 : Pos} {kt k2 : Nat} (hp : parN c (.Tuple [.Name x px, .Name y py] kt pt) (.Tuple [a, b] k2 p2) = some [x, y]) (hi : ixOf c.N x = some i) (hj : ixOf c.N y = some j) (hij : i ≠ j)
    (h1 : notStar a = true) (h2 : notStar b = true) (hx : c.names.lookup x = some .local) (hy : c.names.lookup y = some .local) (ha : PE X a (tE p X.K ca)) (hb : PE X b (tE p X.K cb)) :
    PS X (.Assign [.Tuple [.Name x px, .Name y py] kt pt] (.Tuple [a, b] k2 p2) pos) (tS p X.K (.asg (.tp 2 (.cons (.nm i) (.cons (.nm j) .nil))) (.tup (.cons ca (.cons cb .nil))))) := by
  have hA : PA X [a, b] (tA p X.K (.cons ca (.cons cb .nil))) := k_acons h1 ha (k_acons h2 hb k_anil)
  refine PS.imp (ps_par (i := i) (j := j) M.calm (by rw [M.hN]; exact M.nd) (by rw [M.hN]; exact ixOf_get hi) (by rw [M.hN]; exact ixOf_get hj) hij (by rw [M.sc]; exact hx) (by rw [M.sc]; exact hy) hA (parN_ok (names := []) M hp)) fun D σ H h => ?_
  obtain ⟨ρ, S, e, r, sm, en, h, q⟩ := h
  simp only [ex, Option.bind_eq_some_iff, Option.map_eq_some_iff] at h
  obtain ⟨⟨d0, S0⟩, h1, e1, h2, h3⟩ := h
  subst h3
  rw [ev] at h1
  simp only [Option.bind_eq_some_iff] at h1
  obtain ⟨⟨dd, S1⟩, h4, h5⟩ := h1
  split at h5
  · rename_i ds hd
    simp only at hd
    subst hd
    obtain ⟨hz, h6⟩ := okI_some h5
    cases h6
    refine stA sm en h4 fun ρ1 H1 vs p1 g1 s1 en1 r1 => ?_
    simp only [bindT] at h2
    split at h2
    · rename_i hn
      match ds, hn, r1 with
      | [d1, d2], _, .cons r1 (.cons r2 .nil) =>
        simp only [bindTs, bindT, Option.bind_eq_some_iff] at h2
        obtain ⟨e2, h6, e3, h7, h8⟩ := h2
        split at h6
        · cases h6
          split at h7
          · cases h7
            cases h8
            exact ⟨_, _, rfl, q ρ1 H1 p1 g1 s1 _ ((en1.set r1 i).set r2 j)⟩
          · cases h7
        · cases h6
    · cases h2
  · cases h5
theorem k_par3 (M : Mat X p c k) {x y z : Str} {i j l : Nat} {px py pz pt p2 : Pos} {kt k2 : Nat} (hp : parN c (.Tuple [.Name x px, .Name y py, .Name z pz] kt pt) (.Tuple [a, b, d] k2 p2) = some [x, y, z])
    (hi : ixOf c.N x = some i) (hj : ixOf c.N y = some j) (hl : ixOf c.N z = some l) (hij : i ≠ j) (hil : i ≠ l) (hjl : j ≠ l)
    (h1 : notStar a = true) (h2 : notStar b = true) (h3 : notStar d = true) (hx : c.names.lookup x = some .local) (hy : c.names.lookup y = some .local) (hz : c.names.lookup z = some .local) (ha : PE X a (tE p X.K ca)) (hb : PE X b (tE p X.K cb)) (hd : PE X d (tE p X.K cd)) :
    PS X (.Assign [.Tuple [.Name x px, .Name y py, .Name z pz] kt pt] (.Tuple [a, b, d] k2 p2) pos) (tS p X.K (.asg (.tp 3 (.cons (.nm i) (.cons (.nm j) (.cons (.nm l) .nil)))) (.tup (.cons ca (.cons cb (.cons cd .nil)))))) := by
  have hA : PA X [a, b, d] (tA p X.K (.cons ca (.cons cb (.cons cd .nil)))) := k_acons h1 ha (k_acons h2 hb (k_acons h3 hd k_anil))
  refine PS.imp (ps_par3 (i := i) (j := j) (l := l) M.calm (by rw [M.hN]; exact M.nd) (by rw [M.hN]; exact ixOf_get hi) (by rw [M.hN]; exact ixOf_get hj) (by rw [M.hN]; exact ixOf_get hl) hij hil hjl (by rw [M.sc]; exact hx) (by rw [M.sc]; exact hy) (by rw [M.sc]; exact hz) hA (parN_ok (names := []) M hp)) fun D σ H h => ?_
  obtain ⟨ρ, S, e, r, sm, en, h, q⟩ := h
  simp only [ex, Option.bind_eq_some_iff, Option.map_eq_some_iff] at h
  obtain ⟨⟨d0, S0⟩, h1, e1, h2, h3⟩ := h
  subst h3
  rw [ev] at h1
  simp only [Option.bind_eq_some_iff] at h1
  obtain ⟨⟨dd, S1⟩, h4, h5⟩ := h1
  split at h5
  · rename_i ds hd
    simp only at hd
    subst hd
    obtain ⟨hz, h6⟩ := okI_some h5
    cases h6
    refine stA sm en h4 fun ρ1 H1 vs p1 g1 s1 en1 r1 => ?_
    simp only [bindT] at h2
    split at h2
    · rename_i hn
      match ds, hn, r1 with
      | [d1, d2, d3], _, .cons r1 (.cons r2 (.cons r3 .nil)) =>
        simp only [bindTs, bindT, Option.bind_eq_some_iff] at h2
        obtain ⟨e2, h6, e3, h7, e4, h8, h9⟩ := h2
        split at h6
        · cases h6
          split at h7
          · cases h7
            split at h8
            · cases h8
              cases h9
              exact ⟨_, _, _, rfl, q ρ1 H1 p1 g1 s1 _ (((en1.set r1 i).set r2 j).set r3 l)⟩
            · cases h8
          · cases h7
        · cases h6
    · cases h2
  · cases h5
end
end Tm

set_option Elab.async false
set_option linter.all false
set_option maxRecDepth 100000
set_option maxHeartbeats 4000000
namespace Tm
open PySem PySem.Spec PyProof.Rows L2
section
variable {X : Cx} {p : Pm} {c : Cc} {k : Nat}
theorem k_cPar (M : Mat X p c k) (n : Nat) {t v : Expr} {nm : List Str} {pos : Pos} (hp : parN c t v = some nm) : PS X (.Assign [t] v pos) (tS p X.K (cPar n c t v nm)) := by
  have sn := snd_all p k n
  unfold cPar
  split
  · rename_i x px y py kt pt a b k2 p2
    split
    · rename_i i j hi hj
      split
      · rename_i hc
        simp only [Bool.and_eq_true, decide_eq_true_eq, Bool.not_eq_true', beq_eq_false_iff_ne, beq_iff_eq] at hc
        obtain ⟨⟨⟨⟨⟨h1, h2⟩, h3⟩, h4⟩, h5⟩, h6⟩ := hc
        exact k_par2 M (by rw [← h1]; exact hp) hi hj h4 h5 h6 h2 h3 (sn.e X c M a) (sn.e X c M b)
      · exact k_sbad
    · exact k_sbad
  · rename_i x px y py z pz kt pt a b d k2 p2
    split
    · rename_i i j l hi hj hl
      split
      · rename_i hc
        simp only [Bool.and_eq_true, decide_eq_true_eq, Bool.not_eq_true', beq_eq_false_iff_ne, beq_iff_eq] at hc
        obtain ⟨⟨⟨⟨⟨⟨⟨⟨⟨h1, h2⟩, h3⟩, h4⟩, h5⟩, h6⟩, h7⟩, h8⟩, h9⟩, h10⟩ := hc
        exact k_par3 M (by rw [← h1]; exact hp) hi hj hl h5 h6 h7 h8 h9 h10 h2 h3 h4 (sn.e X c M a) (sn.e X c M b) (sn.e X c M d)
      · exact k_sbad
    · exact k_sbad
  · exact k_sbad
theorem k_asgName (M : Mat X p c k) (n m : Nat) {x : Str} {px pos : Pos} {e : Expr} : PS X (.Assign [.Name x px] e pos) (tS p X.K (if (isComp e && !onlyLc e) = true then .bad else .asg (cTg m c (.Name x px)) (cE n c e))) := by
  have sn := snd_all p k n
  split
  · exact k_sbad
  · rename_i hc
    have gb : ∀ {ca : C}, PS X (.Assign [.Name x px] e pos) (tS p X.K (.asg .bad ca)) := fun {ca} => ⟨fun _ _ _ _ _ _ h => by
      obtain ⟨_, _, _, _, _, _, h, _⟩ := h
      simp only [ex, Option.bind_eq_some_iff, Option.map_eq_some_iff] at h
      obtain ⟨x, _, e1, h2, _⟩ := h
      simp [bindT] at h2⟩
    have cb : ∀ {t : Tg}, PS X (.Assign [.Name x px] e pos) (tS p X.K (.asg t .bad)) := fun {t} => ⟨fun _ _ _ _ _ _ h => by
      obtain ⟨_, _, _, _, _, _, h, _⟩ := h
      simp only [ex, ev, Option.bind_eq_some_iff] at h
      obtain ⟨x, h1, _⟩ := h
      cases h1⟩
    unfold cTg
    split
    · rename_i hl
      split
      · rename_i i hi
        by_cases hcp : isComp e = true
        · cases e with
          | ListComp elt gs scope ps =>
            cases n with
            | zero => unfold cE; exact cb
            | succ n =>
              have sm := snd_all p k n
              unfold cE
              simp only
              split
              · rename_i tg it ifs
                split
                · rename_i hb
                  rw [Bool.and_eq_true, Bool.and_eq_true] at hb
                  refine k_asgLc M hl hi hb.1.1 hb.1.2 hb.2 (sm.i X c M tg it) (fun X' M' => (k_tg_all M' n).1 tg) (fun X' M' => ?_) (fun X' M' => sm.e X' _ M' elt)
                  split
                  · exact k_ifs0
                  · exact k_ifs1 (sm.t X' _ M' _)
                  · exact k_ifsbad
                · exact cb
              · exact cb
          | SetComp => simp [isComp, onlyLc] at hc
          | DictComp => simp [isComp, onlyLc] at hc
          | _ => simp [isComp] at hcp
        · exact k_asgN M hl hi (by cases e <;> first | rfl | (simp [isComp] at hcp; done)) (sn.e X c M e)
      · exact gb
    · exact gb
structure SndS (p : Pm) (k n : Nat) : Prop where
  s : ∀ (X : Cx) (c : Cc), Mat X p c k → ∀ s, PS X s (tS p X.K (cS n c s))
  ss : ∀ (X : Cx) (c : Cc), Mat X p c k → ∀ s, PSs X s (tS p X.K (cSs n c s))
theorem snds_all (p : Pm) (k : Nat) : ∀ n, SndS p k n
  | 0 => ⟨fun X c M s => by unfold cS; exact k_sbad, fun X c M s => by unfold cSs; exact k_ssbad⟩
  | n + 1 => by
    have ih := snds_all p k n
    have sn := snd_all p k n
    refine ⟨fun X c M s => ?_, fun X c M ss => ?_⟩
    · cases s with
      | Expr e pos =>
        unfold cS
        simp only
        split
        · exact k_sbad
        · rename_i h; exact k_drop (by simpa using h) (sn.e X c M e)
      | Return e pos =>
        cases e with
        | none => exact k_retN
        | some e => exact k_ret (sn.e X c M e)
      | Assign ts e pos =>
        unfold cS
        simp only
        split
        · rename_i t
          split
          · exact k_asgName M n n
          · rename_i ts k1 p1
            split
            · exact k_sbad
            · rename_i hc
              have hc' : isComp e = false := by simpa using hc
              split
              · rename_i hn
                exact k_asgT M hn hc' ((k_tg_all M n).1 _) (sn.e X c M e)
              · split
                · rename_i nm hp; exact k_cPar M n hp
                · exact k_sbad
          · rename_i o i p1
            split
            · exact k_sbad
            · rename_i hc
              rw [Bool.or_eq_true, not_or] at hc
              exact k_seti (by simpa using hc.1) (by simpa using hc.2) (sn.e X c M o) (sn.e X c M i) (sn.e X c M e)
          · exact k_sbad
        · exact k_sbad
      | If t a b pos => exact k_if (sn.t X c M t) (ih.ss X c M a) (ih.ss X c M b)
      | For t it b o pos =>
        unfold cS
        simp only
        split
        · split
          · rename_i hs; exact k_for M hs (sn.i X c M t it) ((k_tg_all M n).1 t) (ih.ss X c M b)
          · exact k_sbad
        · exact k_sbad
      | While t b o pos =>
        unfold cS
        simp only
        split
        · exact k_while M (sn.t X c M t) (ih.ss X c M b)
        · exact k_sbad
      | Pass pos => exact k_pass
      | Break pos => exact k_brk
      | Continue pos => exact k_cont
      | _ => exact k_sbad
    · cases ss with
      | nil => exact k_sskip
      | cons s r => exact k_seq (ih.s X c M s) (ih.ss X c M r)
end
end Tm

set_option Elab.async false
set_option linter.all false
set_option maxRecDepth 100000
set_option maxHeartbeats 4000000
namespace Tm
open PySem PySem.Spec PyProof.Rows L2
/-! ## whole programs -/
/-- a program: parameters, slots, body of each def; the constants; the module's dicts -/
structure Pr where
  fs : Nat → Option (Nat × Nat × St)
  gl : Nat → D
  kd : Nat → List (Str × D)
def fin : Option (Fl × Env' × Store) → Option (D × Store)
  | some (.rt d, _, S) => some (d, S)
  | some (.nx, _, S) => some (.non, S)
  | _ => none
def env0 (np ns : Nat) (ds : List D) : Env' := ds.map some ++ List.replicate (ns - np) none
def run (q : Pr) (W : Nat) : Nat → Nat → List D → Store → Option (D × Store)
  | 0, _, _, _ => none
  | k + 1, f, ds, S => match q.fs f with
    | some (np, ns, body) => if ds.length = np then fin (ex ⟨run q W k, q.gl, q.kd, W⟩ body (env0 np ns ds) S) else none
    | none => none
abbrev pm (q : Pr) (W k : Nat) : Pm := ⟨run q W k, q.gl, q.kd, W⟩
theorem run_arity {q : Pr} {W k f np ns : Nat} {body : St} (h : q.fs f = some (np, ns, body)) : Arity (run q W k) f np := by
  intro ds S x e
  cases k with
  | zero => cases e
  | succ k =>
    simp only [run, h] at e
    split at e
    · assumption
    · cases e
/-- how the text's defs stand in the heap behind the top -/
structure Stands (K : PySem.W.Frag) (mg : Str → Option Value) (w : World) (q : Pr) (G : Gx) (n : Nat) : Prop where
  funs : ∀ (x : Str) (f : Nat) (ps : List Str), G.funs.lookup x = some (f, ps) → ∃ (a : Addr) (fd : FuncData) (qual : Str) (st : Stmt) (N : List Str), mg x = some (.ref a) ∧ Fun K x qual st a fd ∧ FnScope N ps (defScope st) ∧ Binds K fd ps [] ∧
    (∀ r ∈ G.kws, r.1 = x → ∀ (t : Shared) (us ws : List Value), us.length = r.2.1 → ws.length = r.2.2.1.length → BindsTo t fd ⟨us, r.2.2.1.zip ws⟩ (ps.zip (pick r.2.2.2 (us ++ ws)))) ∧
    q.fs f = some (ps.length, N.length, cSs n ⟨N, (defScope st).names, none, G⟩ (defBody st))
  cons : ∀ (x : Str) (g : Nat), G.cons.lookup x = some g → ∃ (u : Value) (v : V), mg x = some u ∧ RelV v u ∧ ∀ ρ H, Rep K ρ H v (q.gl g)
  dics : ∀ (x : Str) (g : Nat), G.dics.lookup x = some g → ∃ (a : Addr) (es : Array DictEntry) (n : Nat), mg x = some (.ref a) ∧ KDict K w a es n ∧
    ∀ z : Str, match lookK (q.kd g) z with
      | none => PySem.W.nsIn K a z = some none
      | some d => ∃ (u : Value) (v : V), PySem.W.nsIn K a z = some (some u) ∧ RelV v u ∧ ∀ ρ H, Rep K ρ H v d
  blt : ∀ x : Str, G.blt.contains x = true → mg x = none
theorem start_env {K : PySem.W.Frag} {ρ : List Addr} {H : Hp} {vs : List V} {ds : List D} {N : List Str} {np : Nat} (r : Reps K ρ H vs ds) (hn : ds.length = np) : EnvR K ρ H (env0 np N.length ds) (L2.start N vs) := by
  subst hn
  unfold env0 L2.start
  rw [r.length]
  refine ⟨by simp [r.length], fun i d h => ?_⟩
  by_cases hi : i < ds.length
  · rw [List.getElem?_append_left (by simpa using hi), List.getElem?_map] at h
    cases e : ds[i]? with
    | none => rw [e] at h; cases h
    | some f =>
      rw [e] at h
      cases h
      obtain ⟨v, h1, h2⟩ := r.get e
      refine ⟨v, ?_, h2⟩
      rw [List.getElem?_append_left (by rw [List.length_map, r.length]; exact hi), List.getElem?_map, h1]
      rfl
  · rw [List.getElem?_append_right (by simpa using hi), List.getElem?_replicate] at h
    split at h <;> cases h
theorem gmat_all {P : Program} {w : World} {K : PySem.W.Frag} {mg : Str → Option Value} {base : Heap} {q : Pr} {G : Gx} {n : Nat} (T : Stands K mg w q G n) (W : Nat) : ∀ k : Nat, GMat P w K mg base (pm q W k) G k := by
  intro k
  induction k with
  | zero =>
    refine ⟨fun x f ps h => ?_, T.cons, T.dics, T.blt, fun x f ps h => ?_⟩
    · obtain ⟨a, fd, qual, st, N, h1, F, S, hb, hk, hq⟩ := T.funs x f ps h
      refine ⟨a, fd, h1, F.kp, ⟨fun vs H Q h => h.1, fun B out t H as us vs Q _ _ _ _ _ h => ?_⟩, hb, hk⟩
      obtain ⟨_, ρ, S, ds, d, S', _, _, e, _⟩ := h
      cases e
    · obtain ⟨a, fd, qual, st, N, h1, F, S, hb, hk, hq⟩ := T.funs x f ps h
      exact run_arity hq
  | succ k ih =>
    refine ⟨fun x f ps h => ?_, T.cons, T.dics, T.blt, fun x f ps h => ?_⟩
    · obtain ⟨a, fd, qual, st, N, h1, F, S, hb, hk, hq⟩ := T.funs x f ps h
      refine ⟨a, fd, h1, F.kp, fnG_of F S (fun vs H Q h => h.1) fun cdv B out t H vs Q room gd h => ?_, hb, hk⟩
      have M : Mat (cxOf CX0 P w K mg base N qual (defScope st) a cdv B out t H E0).nox (pm q W k) ⟨N, (defScope st).names, none, G⟩ k :=
        ⟨rfl, S.nd, rfl, S.kind, rfl, gd, room, rfl, fun x _ => .inl rfl, ih⟩
      refine ⟨_, (snds_all (pm q W k) k n).ss _ _ M (defBody st), ?_⟩
      obtain ⟨hl, ρ, S0, ds, d, S', sm, rs, e, kq⟩ := h
      simp only [run, hq] at e
      split at e
      · rename_i hn
        unfold fin at e
        split at e
        · rename_i d' e' S'' he
          cases e
          exact ⟨ρ, S0, _, _, sm, start_env rs hn, he, fun ρ' H' p1 g1 s1 v rv => kq ρ' H' v p1 g1 s1 rv⟩
        · rename_i e' S'' he
          cases e
          exact ⟨ρ, S0, _, _, sm, start_env rs hn, he, fun ρ' H' p1 g1 s1 σ' en => kq ρ' H' .non p1 g1 s1 .non⟩
        · cases e
      · cases e
    · obtain ⟨a, fd, qual, st, N, h1, F, S, hb, hk, hq⟩ := T.funs x f ps h
      exact run_arity hq
end Tm

set_option Elab.async false
set_option linter.all false
set_option maxRecDepth 100000
set_option maxHeartbeats 4000000
namespace Tm
open PySem PySem.Spec PyProof.Rows L2
/-! ## the law's own call -/
theorem room_caller {k : Nat} (h : k ≤ 200) : Room k callerA := ⟨rfl, by
  have e : callerA.depth = 1 + claimMargin := rfl
  rw [e]
  have : 1 + claimMargin + 3 * 200 + 5 < recursionLimit := by decide
  omega, by
  have e : callerA.units = 4 := rfl
  rw [e]
  have : 4 + 16 * 200 + 200 < cLine := by decide
  omega⟩
/-- what the law's def does, asked of the machine: at the script's ints it hands back True -/
def Says (q : Pr) (f : Nat) (ns : List Int) : Prop := ∃ (W k : Nat) (S : Store), k ≤ 200 ∧ run q W k f [.ref 0] [.ro (ns.map D.int)] = some (.bl true, S)
section
variable {P : Program} {w : World} {K : PySem.W.Frag} {mg mb : Str → Option Value} {fa a : Addr} {fd : FuncData} {t : Shared} {vs : List Value} {ns : List Int} {q : Pr} {f : Nat}
/-- from an abstract heap that knows the script at most -/
theorem law_from {k W : Nat} {S : Store} (H : Hp) (only : ∀ b u, H b = some u → b = a ∧ ∃ o xs, u = .frz o (.lst xs)) (apart : ∀ u, H a = some u → K.lookup a = none) (fx : Fix K H a (ns.map V.int)) (hok : HOk P w H t.heap)
    (KX : K.In t.heap) (hns : t.heap.Ns mainGlobals mg) (hb : t.heap.Ns builtinsNs mb) (hbb : ∀ x : Str, x ≠ "__name__" → mb x = bootBuiltins x) (hlim : t.heap.NoLimit) (hg : t.gens = #[]) (ha : t.heap.get? a = some { cls := .type "list", data := .seq vs.toArray })
    (hk : k ≤ 200) (F : ∀ base : Heap, K.In base → base.Ns mainGlobals mg → FnG P w K mg base k fa fd ["script"] (spR K 1 (run q W k f))) (hbind : ∀ (s : Shared) (u : Value), BindsTo s fd ⟨[u], []⟩ [(("script" : Str), u)])
    (hrun : run q W k f [.ref 0] [.ro (ns.map D.int)] = some (.bl true, S)) :
    codeAny (model P w) callerA (.call (.ref fa) ⟨[.ref a], []⟩) (fun r s' => r = .ok (.ret (.bool true)) ∧ OldK t.heap s'.heap ∧ s'.os = t.os ∧ AllBare s'.gens) t := by
  have keepD : ∀ {b : Addr} {m : Str → Option Value}, t.heap.Ns b m → (hidT t.heap H).Ns b m := by
    intro b m h
    obtain ⟨o, es, ep, h1, h2, h3⟩ := h
    refine ⟨o, es, ep, hidT_get h1 ?_, h2, h3⟩
    cases z : H b with
    | none => rfl
    | some u =>
      obtain ⟨e, _⟩ := only b u z
      subst e
      rw [ha] at h1
      cases h1
      cases h2
  have inB : K.In (hidT t.heap H) := by
    intro b o hb'
    refine hidT_get (KX b o hb') ?_
    cases z : H b with
    | none => rfl
    | some u =>
      obtain ⟨e, _⟩ := only b u z
      subst e
      rw [apart u z] at hb'
      cases hb'
  have modB : Mod K mg (hidT t.heap H) := by
    obtain ⟨mc, l1, l2⟩ := hlim
    exact ⟨inB, keepD hns, ⟨mb, keepD hb, hbb⟩, ⟨mc, keepD l1, l2⟩⟩
  have e0 : Env0 P w K mg (hidT t.heap H) callerA [] t H := by
    refine ⟨rfl, modB, fun b o e => of_hidT e, ?_, trivial, fun b hb' => ?_, hok, .of_eq hg⟩
    · rw [hidT_size]; exact Nat.le_refl _
    · cases hb'
  have sim : Sim K [a] [.ro (ns.map D.int)] H := by
    refine ⟨rfl, fun n o A e ea => ?_, fun m n A _ _ m1 _ => ?_⟩
    · match n, e, ea with
      | 0, e, ea =>
        cases e
        cases ea
        exact ⟨_, fx, reps_ints ns⟩
    · obtain ⟨xs, m1⟩ := m1
      match m, m1 with
      | 0, m1 => cases m1
  have sp : spR K 1 (run q W k f) [.ref a] H (fun v _ => v = .bl true) E0 :=
    ⟨rfl, [a], _, [.ref 0], .bl true, S, sim, .cons (.ref rfl) .nil, hrun, fun ρ' H' v _ _ _ r => rep_bl r⟩
  apply codeAny_mono ((F _ inB (keepD hns)).go callerA [] t H ⟨[.ref a], []⟩ [.ref a] [.ref a] _ (room_caller hk) rfl e0 (hbind t (.ref a)) (.cons rfl .nil) sp)
  intro r s' h
  match r, h with
  | .ok (.ret u), ⟨v, H', os, bare, un, hok', r', ev⟩ =>
    subst ev
    have eu : u = Value.bool true := r'
    subst eu
    refine ⟨rfl, OldK.of_keep fun b o e => ?_, os, bare⟩
    cases z : H b with
    | none => exact un.keep b o e z (fun x => by cases x) (fun x => by cases x)
    | some u =>
      obtain ⟨_, ob, xs, eu⟩ := only b u z
      subst eu
      have z2 := un.frzs b ob _ z
      have h1 := (hok b _ z).1
      have h2 := (hok' b _ z2).1
      rw [e] at h1
      cases h1
      exact h2
/-- the law's call, from the machine's word -/
theorem law_holds (KX : K.In t.heap) (hns : t.heap.Ns mainGlobals mg) (hb : t.heap.Ns builtinsNs mb) (hbb : ∀ x : Str, x ≠ "__name__" → mb x = bootBuiltins x) (hlim : t.heap.NoLimit) (hg : t.gens = #[]) (ha : t.heap.get? a = some { cls := .type "list", data := .seq vs.toArray })
    (hi : IntsAre vs ns) (hl : ns.length ≤ sizeLine) (F : ∀ (W k : Nat) (base : Heap), K.In base → base.Ns mainGlobals mg → FnG P w K mg base k fa fd ["script"] (spR K 1 (run q W k f))) (hbind : ∀ (s : Shared) (u : Value), BindsTo s fd ⟨[u], []⟩ [(("script" : Str), u)])
    (says : Says q f ns) : codeAny (model P w) callerA (.call (.ref fa) ⟨[.ref a], []⟩) (fun r s' => r = .ok (.ret (.bool true)) ∧ OldK t.heap s'.heap ∧ s'.os = t.os ∧ AllBare s'.gens) t := by
  obtain ⟨W, k, S, hk, hrun⟩ := says
  have rv := vals_ints hi
  have lv := hi.length
  cases hka : K.lookup a with
  | some o =>
    have e := KX a o hka
    rw [ha] at e
    cases e
    refine law_from (fun _ => none) (fun b u z => by cases z) (fun u z => by cases z) (.inr (.inr ⟨_, vs.toArray, _, hka, rfl, rfl, rfl, ?_, by simpa using rv⟩)) (fun b u z => by cases z) KX hns hb hbb hlim hg ha hk (F W k) hbind hrun
    rw [List.size_toArray, lv]; exact hl
  | none =>
    have at_ : ∀ b u, (fun b => if b = a then some (HO.frz { cls := .type "list", data := .seq vs.toArray } (.lst (ns.map V.int))) else none : Hp) b = some u → b = a ∧ u = HO.frz { cls := .type "list", data := .seq vs.toArray } (.lst (ns.map V.int)) := by
      intro b u z
      by_cases hba : b = a
      · subst hba
        simp only [if_pos] at z
        exact ⟨rfl, (Option.some.inj z).symm⟩
      · simp only [if_neg hba] at z
        cases z
    refine law_from (fun b => if b = a then some (.frz { cls := .type "list", data := .seq vs.toArray } (.lst (ns.map V.int))) else none) (fun b u z => ⟨(at_ b u z).1, _, _, (at_ b u z).2⟩) (fun _ _ => hka) (.inl ⟨_, if_pos rfl⟩) (fun b u z => ?_) KX hns hb hbb hlim hg ha hk (F W k) hbind hrun
    obtain ⟨e1, e2⟩ := at_ b u z
    subst e1; subst e2
    exact ⟨ha, by rw [List.length_map]; exact hl, vs, _, rv, ha⟩
end
/-- the goal that the head leaves -/
theorem walk_M {l : PySem.W.OpenLaw} {q0 : Program} {loose : List Str} {XP : (Str → Option Value) → Heap → Prop} {YP : World → Heap → Prop} {d : DefRec} {K : Params → PySem.W.Frag} {q : Pr} {f : Nat}
    (hn : l.most = some 63) (hdf : d.params.defaults = []) (hY : ∀ (w : World) (h : Heap), YP w h → (K w.params).In h)
    (F : ∀ (w : World) (mg : Str → Option Value) (fa : Addr) (h : Heap), (K w.params).In h → h.Ns mainGlobals mg → mg d.name = some (.ref fa) →
      ∃ fd : FuncData, (∀ (s : Shared) (u : Value), BindsTo s fd ⟨[u], []⟩ [(("script" : Str), u)]) ∧ ∀ (W k : Nat) (base : Heap), (K w.params).In base → base.Ns mainGlobals mg → FnG l.prog w (K w.params) mg base k fa fd ["script"] (spR (K w.params) 1 (run q W k f)))
    (says : ∀ ns : List Int, ns.length ≤ 63 → Says q f ns) : PySem.W.WalkO q0 loose XP YP l.row.toRowW d [] (fun g vs => PySem.call g vs) := by
  apply Att.attach_call hn hdf
  intro w s0 s1 mg mb fa o pm cd doc a vs ns G Y ho hd hcd hmg hobj hints hlen hg
  obtain ⟨fd, hbd, hF⟩ := F w mg fa _ (hY w _ Y) G.T.g hmg
  exact law_holds (hY w _ Y) G.T.g G.T.b G.T.builtins G.T.nolimit hg hobj hints (Nat.le_trans hlen (by decide)) hF hbd (says ns hlen)
end Tm

set_option Elab.async false
set_option maxRecDepth 100000
namespace Tm
open PySem L2
def b_4 : St := (.seq (.asg (.nm 2) (.bin .add (.bin .mul (.lit (.int 13)) (.var 1)) (.lit (.int 5))))
  (.seq (.ifs (.cmp .lt (.var 1) (.bi .len (.cons (.var 0) .nil))) (.seq (.asg (.nm 2) (.idx (.var 0) (.var 1)))
  .skip) .skip)
  (.seq (.asg (.nm 3) (.bin .add (.bin .add (.lit (.int 977)) (.bin .mul (.lit (.int 3)) (.var 1))) (.bin .mod (.bi .abs (.cons (.bi .int (.cons (.var 2) .nil)) .nil)) (.bin .add (.bin .pow (.lit (.int 10)) (.lit (.int 9))) (.lit (.int 7))))))
  (.seq (.for_ (.itv (.var 0)) (.nm 4) (.seq (.asg (.nm 3) (.bin .mod (.bi .int (.cons (.bin .add (.bin .mul (.var 3) (.lit (.int 524287))) (.bin .mod (.bi .int (.cons (.var 4) .nil)) (.bin .add (.bin .pow (.lit (.int 10)) (.lit (.int 18))) (.lit (.int 9))))) .nil)) (.bin .sub (.bin .pow (.lit (.int 2)) (.lit (.int 61))) (.lit (.int 1)))))
  .skip))
  (.seq (.ret (.lst (.cons (.bi .max (.cons (.lit (.int 0)) (.cons (.bin .sub (.var 2) (.bin .pow (.lit (.int 10)) (.lit (.int 18)))) .nil))) (.cons (.var 3) (.cons (.lit (.int 0)) .nil)))))
  .skip)))))
def b_5 : St := (.seq (.ifs (.cmp .gt (.idx (.var 0) (.lit (.int 0))) (.lit (.int 0))) (.seq (.asg (.nm 2) (.bin .mod (.bi .int (.cons (.idx (.var 0) (.lit (.int 0))) .nil)) (.var 1)))
  (.seq (.seti (.bin .fdiv (.idx (.var 0) (.lit (.int 0))) (.var 1)) (.var 0) (.lit (.int 0)))
  (.seq (.ret (.var 2))
  .skip))) .skip)
  (.seq (.seti (.bin .add (.idx (.var 0) (.lit (.int 2))) (.lit (.int 1))) (.var 0) (.lit (.int 2)))
  (.seq (.asg (.nm 3) (.bin .mod (.bi .int (.cons (.bin .add (.bin .pow (.bin .add (.idx (.var 0) (.lit (.int 1))) (.bin .mul (.lit (.int 1000003)) (.idx (.var 0) (.lit (.int 2))))) (.lit (.int 3))) (.bin .mul (.lit (.int 754974721)) (.idx (.var 0) (.lit (.int 2))))) .nil)) (.bin .add (.bin .pow (.lit (.int 10)) (.lit (.int 18))) (.lit (.int 9)))))
  (.seq (.ret (.bin .mod (.bin .fdiv (.bin .mod (.bi .int (.cons (.bin .mul (.var 3) (.bin .add (.var 3) (.lit (.int 40961)))) .nil)) (.bin .sub (.bin .pow (.lit (.int 2)) (.lit (.int 61))) (.lit (.int 1)))) (.lit (.int 4099))) (.var 1)))
  .skip))))
def b_6 : St := (.seq (.asg (.nm 1) (.call 5 [0, 1] (.cons (.var 0) (.cons (.lit (.int 4)) .nil)) .nil))
  (.seq (.ifs (.cmp .eq (.var 1) (.lit (.int 0))) (.seq (.ret (.call 5 [0, 1] (.cons (.var 0) (.cons (.lit (.int 4)) .nil)) .nil))
  .skip) .skip)
  (.seq (.ifs (.cmp .eq (.var 1) (.lit (.int 1))) (.seq (.ret (.bin .sub (.lit (.int 65535)) (.call 5 [0, 1] (.cons (.var 0) (.cons (.lit (.int 4)) .nil)) .nil)))
  .skip) .skip)
  (.seq (.ifs (.cmp .eq (.var 1) (.lit (.int 2))) (.seq (.ret (.bin .add (.lit (.int 32766)) (.call 5 [0, 1] (.cons (.var 0) (.cons (.lit (.int 4)) .nil)) .nil)))
  .skip) .skip)
  (.seq (.ret (.call 5 [0, 1] (.cons (.var 0) (.cons (.lit (.int 65536)) .nil)) .nil))
  .skip)))))
def b_7 : St := (.seq (.asg (.tp 3 (.cons (.nm 4) (.cons (.nm 5) (.cons (.nm 6) .nil)))) (.tup (.cons (.call 5 [0, 1] (.cons (.var 0) (.cons (.var 2) .nil)) .nil) (.cons (.call 5 [0, 1] (.cons (.var 0) (.cons (.var 2) .nil)) .nil) (.cons (.call 5 [0, 1] (.cons (.var 0) (.cons (.var 2) .nil)) .nil) .nil)))))
  (.seq (.asg (.tp 2 (.cons (.nm 7) (.cons (.nm 8) .nil))) (.tup (.cons (.call 6 [0] (.cons (.var 0) .nil) .nil) (.cons (.idx (.lst (.cons (.lit (.int 0)) (.cons (.var 3) (.cons (.call 5 [0, 1] (.cons (.var 0) (.cons (.bin .add (.var 3) (.lit (.int 1))) .nil)) .nil) .nil)))) (.call 5 [0, 1] (.cons (.var 0) (.cons (.lit (.int 3)) .nil)) .nil)) .nil))))
  (.seq (.ifs (.cmp .eq (.var 1) (.lit (.str "set"))) (.seq (.ret (.tup (.cons (.var 1) (.cons (.var 4) (.cons (.var 7) .nil)))))
  .skip) .skip)
  (.seq (.ifs (.cmp .in_ (.var 1) (.lst (.cons (.lit (.str "add")) (.cons (.lit (.str "sub")) (.cons (.lit (.str "and")) (.cons (.lit (.str "xor")) (.cons (.lit (.str "below")) .nil))))))) (.seq (.ret (.tup (.cons (.var 1) (.cons (.var 4) (.cons (.var 5) (.cons (.var 6) .nil))))))
  .skip) .skip)
  (.seq (.ifs (.cmp .in_ (.var 1) (.lst (.cons (.lit (.str "load")) (.cons (.lit (.str "store")) .nil)))) (.seq (.ret (.tup (.cons (.var 1) (.cons (.var 4) (.cons (.var 5) (.cons (.var 7) .nil))))))
  .skip) .skip)
  (.seq (.ifs (.cmp .in_ (.var 1) (.lst (.cons (.lit (.str "swap")) (.cons (.lit (.str "addto")) .nil)))) (.seq (.ret (.tup (.cons (.var 1) (.cons (.var 4) (.cons (.var 5) (.cons (.var 6) (.cons (.var 7) .nil)))))))
  .skip) .skip)
  (.seq (.ifs (.cmp .eq (.var 1) (.lit (.str "ifzero"))) (.seq (.ret (.tup (.cons (.var 1) (.cons (.var 4) (.cons (.var 8) .nil)))))
  .skip) .skip)
  (.seq (.ifs (.cmp .eq (.var 1) (.lit (.str "jump"))) (.seq (.ret (.tup (.cons (.var 1) (.cons (.var 8) .nil))))
  .skip) .skip)
  (.seq (.ret (.tup (.cons (.var 1) .nil)))
  .skip)))))))))
end Tm

set_option Elab.async false
set_option linter.all false
set_option maxRecDepth 100000
namespace Tm
open PySem L2
/-! ## the machine alone: its runs by rules -/
theorem run_at (q : Pr) (W k f : Nat) (ds : List D) (S : Store) {np ns : Nat} {b : St} (h : q.fs f = some (np, ns, b)) (hn : ds.length = np) : run q W (k + 1) f ds S = fin (ex (pm q W k) b (env0 np ns ds) S) := by
  simp only [run, h, hn, if_true]
theorem run_rt {q : Pr} {W k f : Nat} {ds : List D} {S : Store} {np ns : Nat} {b : St} (h : q.fs f = some (np, ns, b)) (hn : ds.length = np) {d : D} {e' : Env'} {S' : Store} {e0 : Env'} (he : env0 np ns ds = e0) (hx : ex (pm q W k) b e0 S = some (.rt d, e', S')) :
    run q W (k + 1) f ds S = some (d, S') := by
  rw [run_at q W k f ds S h hn, he, hx]; rfl
section
variable {q : Pr} {W k : Nat} {e e1 : Env'} {S S1 S2 S3 : Store} {a b c r : C} {d x y z : D} {ds fs es : List D} {op o2 : Cmp}
theorem er_var {i : Nat} (h : e[i]? = some (some d)) : ev (pm q W k) (.var i) e S = some (d, S) := by simp only [ev, h]
theorem er_lit (h : isScal d = true) : ev (pm q W k) (.lit d) e S = some (d, S) := by simp only [ev, h, if_true]
theorem er_glob {g : Nat} (h : q.gl g = d) : ev (pm q W k) (.glob g) e S = some (d, S) := by subst h; rfl
theorem er_nil : ev (pm q W k) .nil e S = some (.tup [], S) := rfl
theorem er_cons (h1 : ev (pm q W k) a e S = some (x, S1)) (h2 : ev (pm q W k) r e S1 = some (.tup ds, S2)) : ev (pm q W k) (.cons a r) e S = some (.tup (x :: ds), S2) := by
  simp only [ev, h1, h2, Option.bind_some]
theorem er_tup (h1 : ev (pm q W k) a e S = some (.tup ds, S1)) (hz : ds.length ≤ sizeLine) : ev (pm q W k) (.tup a) e S = some (.tup ds, S1) := by
  simp only [ev, h1, Option.bind_some, okI, decide_eq_true hz, if_true]
theorem er_lst (h1 : ev (pm q W k) a e S = some (.tup ds, S1)) (hz : ds.length ≤ sizeLine) : ev (pm q W k) (.lst a) e S = some (.ref S1.length, S1 ++ [.lst ds]) := by
  simp only [ev, h1, Option.bind_some, if_pos hz, new]
theorem er_bin {o : Bin} {w : D × Store} (h1 : ev (pm q W k) a e S = some (x, S1)) (h2 : ev (pm q W k) b e S1 = some (y, S2)) (h3 : binop o x y S2 = some w) : ev (pm q W k) (.bin o a b) e S = some w := by
  simp only [ev, h1, h2, h3, Option.bind_some]
theorem er_neg {i : Int} (h1 : ev (pm q W k) a e S = some (.int i, S1)) : ev (pm q W k) (.neg a) e S = some (.int (-i), S1) := by
  simp only [ev, h1, Option.bind_some]
theorem er_cmp {t : Bool} (h1 : ev (pm q W k) a e S = some (x, S1)) (h2 : ev (pm q W k) b e S1 = some (y, S2)) (h3 : cmpop op x y S2 = some t) : ev (pm q W k) (.cmp op a b) e S = some (.bl t, S2) := by
  simp only [ev, h1, h2, h3, Option.bind_some, Option.map_some]
theorem er_chain_t {t : Bool} (h1 : ev (pm q W k) a e S = some (x, S1)) (h2 : ev (pm q W k) b e S1 = some (y, S2)) (h3 : cmpop op x y S2 = some true) (h4 : ev (pm q W k) c e S2 = some (z, S3)) (h5 : cmpop o2 y z S3 = some t) :
    ev (pm q W k) (.chain op o2 a b c) e S = some (.bl t, S3) := by
  simp only [ev, h1, h2, h3, h4, h5, Option.bind_some, Option.map_some, if_true]
theorem er_chain_f (h1 : ev (pm q W k) a e S = some (x, S1)) (h2 : ev (pm q W k) b e S1 = some (y, S2)) (h3 : cmpop op x y S2 = some false) :
    ev (pm q W k) (.chain op o2 a b c) e S = some (.bl false, S2) := by
  simp only [ev, h1, h2, h3, Option.bind_some, Bool.false_eq_true, if_false]
theorem er_and_t {w : D × Store} (h1 : ev (pm q W k) a e S = some (.bl true, S1)) (h2 : ev (pm q W k) b e S1 = some w) : ev (pm q W k) (.and_ a b) e S = some w := by
  simp only [ev, h1, h2, Option.bind_some]
theorem er_and_f (h1 : ev (pm q W k) a e S = some (.bl false, S1)) : ev (pm q W k) (.and_ a b) e S = some (.bl false, S1) := by
  simp only [ev, h1, Option.bind_some]
theorem er_or_f {w : D × Store} (h1 : ev (pm q W k) a e S = some (.bl false, S1)) (h2 : ev (pm q W k) b e S1 = some w) : ev (pm q W k) (.or_ a b) e S = some w := by
  simp only [ev, h1, h2, Option.bind_some]
theorem er_or_t (h1 : ev (pm q W k) a e S = some (.bl true, S1)) : ev (pm q W k) (.or_ a b) e S = some (.bl true, S1) := by
  simp only [ev, h1, Option.bind_some]
theorem er_not {t : Bool} (h1 : ev (pm q W k) a e S = some (.bl t, S1)) : ev (pm q W k) (.not_ a) e S = some (.bl (!t), S1) := by
  simp only [ev, h1, Option.bind_some]
theorem er_not_f (h1 : ev (pm q W k) a e S = some (.bl true, S1)) : ev (pm q W k) (.not_ a) e S = some (.bl false, S1) := er_not h1
theorem er_not_t (h1 : ev (pm q W k) a e S = some (.bl false, S1)) : ev (pm q W k) (.not_ a) e S = some (.bl true, S1) := er_not h1
theorem er_ife_t {w : D × Store} (h1 : ev (pm q W k) c e S = some (.bl true, S1)) (h2 : ev (pm q W k) a e S1 = some w) : ev (pm q W k) (.ife c a b) e S = some w := by
  simp only [ev, h1, h2, Option.bind_some]
theorem er_ife_f {w : D × Store} (h1 : ev (pm q W k) c e S = some (.bl false, S1)) (h2 : ev (pm q W k) b e S1 = some w) : ev (pm q W k) (.ife c a b) e S = some w := by
  simp only [ev, h1, h2, Option.bind_some]
theorem er_idx (h1 : ev (pm q W k) a e S = some (x, S1)) (h2 : ev (pm q W k) b e S1 = some (y, S2)) (h3 : idxop x y S2 = some d) : ev (pm q W k) (.idx a b) e S = some (d, S2) := by
  simp only [ev, h1, h2, h3, Option.bind_some, Option.map_some]
theorem er_kgetd {g : Nat} {w : Str} (h1 : ev (pm q W k) a e S = some (.str w, S1)) (h2 : ev (pm q W k) b e S1 = some (y, S2)) (h3 : (lookK (q.kd g) w).getD y = d) : ev (pm q W k) (.kgetd g a b) e S = some (d, S2) := by
  subst h3
  simp only [ev, h1, h2, Option.bind_some]
theorem er_kget {g : Nat} {w : Str} (h1 : ev (pm q W k) a e S = some (.str w, S1)) (h3 : lookK (q.kd g) w = some d) : ev (pm q W k) (.kget g a) e S = some (d, S1) := by
  simp only [ev, h1, h3, Option.bind_some, Option.map_some]
theorem er_kin {g : Nat} {w : Str} {neg t : Bool} (h1 : ev (pm q W k) a e S = some (.str w, S1)) (h3 : (if neg then !(lookK (q.kd g) w).isSome else (lookK (q.kd g) w).isSome) = t) : ev (pm q W k) (.kin g neg a) e S = some (.bl t, S1) := by
  simp only [ev, h1, h3, Option.bind_some]
theorem er_call {f : Nat} {perm : List Nat} {w : D × Store} (h1 : ev (pm q W k) a e S = some (.tup ds, S1)) (h2 : ev (pm q W k) b e S1 = some (.tup fs, S2)) (he : pick perm (ds ++ fs) = es) (h3 : run q W k f es S2 = some w) : ev (pm q W k) (.call f perm a b) e S = some w := by
  subst he
  simp only [ev, h1, h2, Option.bind_some]
  exact h3
theorem er_bi {o : Bi} {w : D × Store} (h1 : ev (pm q W k) a e S = some (.tup ds, S1)) (h3 : biop o ds S1 = some w) : ev (pm q W k) (.bi o a) e S = some w := by
  simp only [ev, h1, h3, Option.bind_some]
theorem er_isty {t : Ty} {u : Bool} (h1 : ev (pm q W k) a e S = some (x, S1)) (h3 : tyop x t S1 = some u) : ev (pm q W k) (.isty a t) e S = some (.bl u, S1) := by
  simp only [ev, h1, h3, Option.bind_some, Option.map_some]
theorem er_app {n : Nat} (h1 : ev (pm q W k) a e S = some (.ref n, S1)) (h2 : ev (pm q W k) b e S1 = some (y, S2)) (h3 : push n y S2 = some S3) : ev (pm q W k) (.app a b) e S = some (.non, S3) := by
  simp only [ev, h1, h2, h3, Option.bind_some, Option.map_some]
theorem er_itv (h1 : ev (pm q W k) a e S = some (x, S1)) (h3 : itOf S1 x = some (ds, fs)) : ev (pm q W k) (.itv a) e S = some (itD ds fs, S1) := by
  simp only [ev, h1, h3, Option.bind_some, Option.map_some]
theorem er_irng (h1 : ev (pm q W k) a e S = some (.tup es, S1)) (h3 : rngs es = some ds) : ev (pm q W k) (.irng a) e S = some (itD ds [], S1) := by
  simp only [ev, h1, h3, Option.bind_some, Option.map_some]
theorem er_lc {i : C} {t : Tg} {own : List Nat} (h1 : ev (pm q W k) i e S = some (itD ds fs, S1)) (h2 : lcL (ev (pm q W k) b) (ev (pm q W k) a) t fs (wipeE e own) S1.length ds (S1 ++ [.lst []]) = some S2) :
    ev (pm q W k) (.lc i t b a own) e S = some (.ref S1.length, S2) := by
  simp only [ev, h1, Option.bind_some, itD, h2, Option.map_some]
/-! statements -/
variable {s u : St} {f : Fl}
theorem es_nx {w : Fl × Env' × Store} (h1 : ex (pm q W k) s e S = some (.nx, e1, S1)) (h2 : ex (pm q W k) u e1 S1 = some w) : ex (pm q W k) (.seq s u) e S = some w := by
  simp only [ex, h1, h2, Option.bind_some]
theorem es_rt (h1 : ex (pm q W k) s e S = some (.rt d, e1, S1)) : ex (pm q W k) (.seq s u) e S = some (.rt d, e1, S1) := by
  simp only [ex, h1, Option.bind_some]
theorem es_bk (h1 : ex (pm q W k) s e S = some (.bk, e1, S1)) : ex (pm q W k) (.seq s u) e S = some (.bk, e1, S1) := by
  simp only [ex, h1, Option.bind_some]
theorem es_ct (h1 : ex (pm q W k) s e S = some (.ct, e1, S1)) : ex (pm q W k) (.seq s u) e S = some (.ct, e1, S1) := by
  simp only [ex, h1, Option.bind_some]
theorem es_skip : ex (pm q W k) .skip e S = some (.nx, e, S) := rfl
theorem es_asg {t : Tg} (h1 : ev (pm q W k) c e S = some (x, S1)) (h2 : bindT t x S1 e = some e1) : ex (pm q W k) (.asg t c) e S = some (.nx, e1, S1) := by
  simp only [ex, h1, h2, Option.bind_some, Option.map_some]
theorem es_seti (h1 : ev (pm q W k) c e S = some (x, S1)) (h2 : ev (pm q W k) a e S1 = some (y, S2)) (h3 : ev (pm q W k) b e S2 = some (z, S3)) {S' : Store} (h4 : setS y z x S3 = some S') : ex (pm q W k) (.seti c a b) e S = some (.nx, e, S') := by
  simp only [ex, h1, h2, h3, h4, Option.bind_some, Option.map_some]
theorem es_drop (h1 : ev (pm q W k) c e S = some (x, S1)) : ex (pm q W k) (.drop c) e S = some (.nx, e, S1) := by
  simp only [ex, h1, Option.map_some]
theorem es_ret (h1 : ev (pm q W k) c e S = some (x, S1)) : ex (pm q W k) (.ret c) e S = some (.rt x, e, S1) := by
  simp only [ex, h1, Option.map_some]
theorem es_if_t {w : Fl × Env' × Store} (h1 : ev (pm q W k) c e S = some (.bl true, S1)) (h2 : ex (pm q W k) s e S1 = some w) : ex (pm q W k) (.ifs c s u) e S = some w := by
  simp only [ex, h1, h2, Option.bind_some]
theorem es_if_f {w : Fl × Env' × Store} (h1 : ev (pm q W k) c e S = some (.bl false, S1)) (h2 : ex (pm q W k) u e S1 = some w) : ex (pm q W k) (.ifs c s u) e S = some w := by
  simp only [ex, h1, h2, Option.bind_some]
theorem es_for {t : Tg} {w : Fl × Env' × Store} (h1 : ev (pm q W k) c e S = some (itD ds fs, S1)) (h2 : forL (ex (pm q W k) s) t fs ds e S1 = some w) : ex (pm q W k) (.for_ c t s) e S = some w := by
  simp only [ex, h1, Option.bind_some, itD, h2]
end
/-! ## operators at known values -/
/-- small: below 2 ^ 200 -/
def Sm (i : Int) : Prop := i.natAbs < 2 ^ 200
theorem log_sm {i : Int} (h : Sm i) : i.natAbs.log2 < 200 := by
  by_cases z : i.natAbs = 0
  · rw [z]; decide
  · exact (Nat.log2_lt z).mpr h
section
variable {i j : Int} {S S' : Store} {x y : D} {xs : List D}
theorem o_add : binop .add (.int i) (.int j) S = some (.int (i + j), S) := rfl
theorem o_sub : binop .sub (.int i) (.int j) S = some (.int (i - j), S) := rfl
theorem o_mul (hi : Sm i) (hj : Sm j) : binop .mul (.int i) (.int j) S = some (.int (i * j), S) := by
  have h1 := log_sm hi
  have h2 := log_sm hj
  show okI (decide (i.natAbs.log2 + j.natAbs.log2 < 1000000)) _ _ = _
  rw [decide_eq_true (by omega)]; rfl
theorem o_pow (hi : i.natAbs < 2 ^ 64) (hj : 0 ≤ j ∧ j ≤ 1000000) : binop .pow (.int i) (.int j) S = some (.int (i ^ j.toNat), S) := by
  show okI (decide (0 ≤ j) && decide (j ≤ 1000000) && decide (i.natAbs < 2 ^ 64)) _ _ = _
  rw [decide_eq_true hj.1, decide_eq_true hj.2, decide_eq_true hi]; rfl
theorem o_mod (h : 0 < j) : binop .mod (.int i) (.int j) S = some (.int (i % j), S) := by
  show okI (decide (0 < j)) _ _ = _
  rw [decide_eq_true h]; rfl
theorem o_div (h : 0 < j) (hj : Sm j) : binop .fdiv (.int i) (.int j) S = some (.int (i / j), S) := by
  have h2 := log_sm hj
  show okI (decide (0 < j) && decide (j.natAbs.log2 < 9000)) _ _ = _
  rw [decide_eq_true h, decide_eq_true (by omega)]; rfl
theorem c_eq_t (h : i = j) : cmpop .eq (.int i) (.int j) S = some true := by show some (decide (i = j)) = _; rw [decide_eq_true h]
theorem c_eq_f (h : ¬ i = j) : cmpop .eq (.int i) (.int j) S = some false := by show some (decide (i = j)) = _; rw [decide_eq_false h]
theorem c_ne_f (h : i = j) : cmpop .ne (.int i) (.int j) S = some false := by show some (!decide (i = j)) = _; rw [decide_eq_true h]; rfl
theorem c_ne_t (h : ¬ i = j) : cmpop .ne (.int i) (.int j) S = some true := by show some (!decide (i = j)) = _; rw [decide_eq_false h]; rfl
theorem c_lt_t (h : i < j) : cmpop .lt (.int i) (.int j) S = some true := by show some (decide (i < j)) = _; rw [decide_eq_true h]
theorem c_lt_f (h : ¬ i < j) : cmpop .lt (.int i) (.int j) S = some false := by show some (decide (i < j)) = _; rw [decide_eq_false h]
theorem c_le_t (h : i ≤ j) : cmpop .le (.int i) (.int j) S = some true := by show some (decide (i ≤ j)) = _; rw [decide_eq_true h]
theorem c_le_f (h : ¬ i ≤ j) : cmpop .le (.int i) (.int j) S = some false := by show some (decide (i ≤ j)) = _; rw [decide_eq_false h]
theorem c_gt_t (h : j < i) : cmpop .gt (.int i) (.int j) S = some true := by show some (decide (j < i)) = _; rw [decide_eq_true h]
theorem c_gt_f (h : ¬ j < i) : cmpop .gt (.int i) (.int j) S = some false := by show some (decide (j < i)) = _; rw [decide_eq_false h]
theorem c_ge_t (h : j ≤ i) : cmpop .ge (.int i) (.int j) S = some true := by show some (decide (j ≤ i)) = _; rw [decide_eq_true h]
theorem c_ge_f (h : ¬ j ≤ i) : cmpop .ge (.int i) (.int j) S = some false := by show some (decide (j ≤ i)) = _; rw [decide_eq_false h]
theorem c_str_t {x y : Str} (h : x = y) : cmpop .eq (.str x) (.str y) S = some true := by show some (decide (x = y)) = _; rw [decide_eq_true h]
theorem c_str_f {x y : Str} (h : ¬ x = y) : cmpop .eq (.str x) (.str y) S = some false := by show some (decide (x = y)) = _; rw [decide_eq_false h]
theorem c_strn_t {x y : Str} (h : ¬ x = y) : cmpop .ne (.str x) (.str y) S = some true := by show some (!decide (x = y)) = _; rw [decide_eq_false h]; rfl
theorem c_strn_f {x y : Str} (h : x = y) : cmpop .ne (.str x) (.str y) S = some false := by show some (!decide (x = y)) = _; rw [decide_eq_true h]; rfl
theorem i_tup {d : D} (h : atI xs i = some d) : idxop (.tup xs) (.int i) S = some d := h
theorem i_lst {d : D} {n : Nat} (hn : listAt S n = some xs) (h : atI xs i = some d) : idxop (.ref n) (.int i) S = some d := by
  show (listAt S n).bind (fun xs => atI xs i) = _
  rw [hn]; exact h
theorem l_lst {n : Nat} (h : S[n]? = some (.lst xs)) : listAt S n = some xs := by unfold listAt; rw [h]
theorem l_ro {n : Nat} (h : S[n]? = some (.ro xs)) : listAt S n = some xs := by unfold listAt; rw [h]
theorem l_last : listAt (S ++ [.lst xs]) S.length = some xs := l_lst (by simp)
theorem g_last {o : O} : (S ++ [o])[S.length]? = some o := by simp
theorem c_in {t : Bool} {n : Nat} (hn : listAt S n = some xs) (hx : isScal x = true) (hs : xs.all isScal = true) (ht : (xs.any fun y => scEq y x) = t) : cmpop .in_ x (.ref n) S = some t := by
  show inD S x (.ref n) = some t
  simp only [inD, hn, hx, hs, ht, Option.bind_some, Bool.and_self, if_true]
theorem c_inT {t : Bool} (hx : isScal x = true) (hs : xs.all isScal = true) (ht : (xs.any fun y => scEq y x) = t) : cmpop .in_ x (.tup xs) S = some t := by
  show inD S x (.tup xs) = some t
  simp only [inD, hx, hs, ht, Bool.and_self, if_true]
theorem c_nin {t : Bool} {n : Nat} (hn : listAt S n = some xs) (hx : isScal x = true) (hs : xs.all isScal = true) (ht : (xs.any fun y => scEq y x) = t) : cmpop .nin x (.ref n) S = some (!t) := by
  show (inD S x (.ref n)).map (!·) = some (!t)
  simp only [inD, hn, hx, hs, ht, Option.bind_some, Bool.and_self, if_true, Option.map_some]
theorem set_get {a : Nat} {o o' : O} (h : S[a]? = some o) : (S.set a o')[a]? = some o' := by
  have := (List.getElem?_eq_some_iff.mp h).1
  rw [List.getElem?_set_self this]
theorem s_set {a j : Nat} {v : D} (h : S[a]? = some (.lst xs)) (hj : ixN xs.length i = some j) : setS (.ref a) (.int i) v S = some (S.set a (.lst (xs.set j v))) := by
  simp only [setS, h, hj, Option.map_some]
end
/-! ## what stays -/
/-- all objects but those at A stand as they stood -/
def Kp (A : List Nat) (S S' : Store) : Prop := ∀ (i : Nat) (o : O), i ∉ A → S[i]? = some o → S'[i]? = some o
theorem Kp.refl (A : List Nat) (S : Store) : Kp A S S := fun _ _ _ h => h
theorem Kp.trans {A : List Nat} {S S1 S2 : Store} (h : Kp A S S1) (k : Kp A S1 S2) : Kp A S S2 := fun i o n e => k i o n (h i o n e)
theorem Kp.more {A B : List Nat} {S S1 : Store} (h : Kp A S S1) (s : ∀ i ∈ A, i ∈ B) : Kp B S S1 := fun i o n e => h i o (fun z => n (s i z)) e
theorem Kp.set {S : Store} {a : Nat} {o : O} : Kp [a] S (S.set a o) := fun i u n e => by
  rw [List.getElem?_set_ne (fun z => n (by simp [z]))]; exact e
theorem Kp.push {A : List Nat} {S : Store} {o : O} : Kp A S (S ++ [o]) := fun i u n e => by
  have := (List.getElem?_eq_some_iff.mp e).1
  rw [List.getElem?_append_left this]; exact e
theorem Kp.len {A : List Nat} {S S' : Store} (h : Kp A S S') {n : Nat} (hn : n ∉ A) (hl : n < S.length) : n < S'.length := by
  have e := h n S[n] hn (by simp [hl])
  exact (List.getElem?_eq_some_iff.mp e).1

/-! ## rules that decide nothing -/
section
variable {q : Pr} {W k : Nat} {e e1 : Env'} {S S1 S2 S3 : Store} {a b c r : C} {d x y z : D} {s u : St} {f : Fl}
/-- what follows a flow -/
structure Nxt (q : Pr) (W k : Nat) (u : St) (f : Fl) (e : Env') (S : Store) (w : Fl × Env' × Store) : Prop where
  h : (match f with | .nx => ex (pm q W k) u e S | f => some (f, e, S)) = some w
theorem nxt_nx {w : Fl × Env' × Store} (h : ex (pm q W k) u e S = some w) : Nxt q W k u .nx e S w := ⟨h⟩
theorem nxt_rt : Nxt q W k u (.rt d) e S (.rt d, e, S) := ⟨rfl⟩
theorem nxt_bk : Nxt q W k u .bk e S (.bk, e, S) := ⟨rfl⟩
theorem nxt_ct : Nxt q W k u .ct e S (.ct, e, S) := ⟨rfl⟩
theorem es_sq {w : Fl × Env' × Store} (h1 : ex (pm q W k) s e S = some (f, e1, S1)) (h2 : Nxt q W k u f e1 S1 w) : ex (pm q W k) (.seq s u) e S = some w := by
  have h3 := h2.h
  cases f <;> simp only [ex, h1, Option.bind_some] at h3 ⊢ <;> exact h3
structure Brs (q : Pr) (W k : Nat) (t : Bool) (s u : St) (e : Env') (S : Store) (w : Fl × Env' × Store) : Prop where
  h : (if t = true then ex (pm q W k) s e S else ex (pm q W k) u e S) = some w
theorem brs_t {w : Fl × Env' × Store} (h : ex (pm q W k) s e S = some w) : Brs q W k true s u e S w := ⟨h⟩
theorem brs_f {w : Fl × Env' × Store} (h : ex (pm q W k) u e S = some w) : Brs q W k false s u e S w := ⟨h⟩
theorem es_br {t : Bool} {w : Fl × Env' × Store} (h1 : ev (pm q W k) c e S = some (.bl t, S1)) (h2 : Brs q W k t s u e S1 w) : ex (pm q W k) (.ifs c s u) e S = some w := by
  cases t
  · exact es_if_f h1 h2.h
  · exact es_if_t h1 h2.h
structure Bre (q : Pr) (W k : Nat) (t : Bool) (a b : C) (e : Env') (S : Store) (w : D × Store) : Prop where
  h : (if t = true then ev (pm q W k) a e S else ev (pm q W k) b e S) = some w
theorem bre_t {w : D × Store} (h : ev (pm q W k) a e S = some w) : Bre q W k true a b e S w := ⟨h⟩
theorem bre_f {w : D × Store} (h : ev (pm q W k) b e S = some w) : Bre q W k false a b e S w := ⟨h⟩
theorem er_br {t : Bool} {w : D × Store} (h1 : ev (pm q W k) c e S = some (.bl t, S1)) (h2 : Bre q W k t a b e S1 w) : ev (pm q W k) (.ife c a b) e S = some w := by
  cases t
  · exact er_ife_f h1 h2.h
  · exact er_ife_t h1 h2.h
structure Ands (q : Pr) (W k : Nat) (t : Bool) (b : C) (e : Env') (S : Store) (w : D × Store) : Prop where
  h : (if t = true then ev (pm q W k) b e S else some (.bl false, S)) = some w
theorem ands_t {w : D × Store} (h : ev (pm q W k) b e S = some w) : Ands q W k true b e S w := ⟨h⟩
theorem ands_f : Ands q W k false b e S (.bl false, S) := ⟨rfl⟩
theorem er_ands {t : Bool} {w : D × Store} (h1 : ev (pm q W k) a e S = some (.bl t, S1)) (h2 : Ands q W k t b e S1 w) : ev (pm q W k) (.and_ a b) e S = some w := by
  cases t
  · rw [er_and_f h1]; exact h2.h
  · exact er_and_t h1 h2.h
structure Ors (q : Pr) (W k : Nat) (t : Bool) (b : C) (e : Env') (S : Store) (w : D × Store) : Prop where
  h : (if t = true then some (.bl true, S) else ev (pm q W k) b e S) = some w
theorem ors_f {w : D × Store} (h : ev (pm q W k) b e S = some w) : Ors q W k false b e S w := ⟨h⟩
theorem ors_t : Ors q W k true b e S (.bl true, S) := ⟨rfl⟩
theorem er_ors {t : Bool} {w : D × Store} (h1 : ev (pm q W k) a e S = some (.bl t, S1)) (h2 : Ors q W k t b e S1 w) : ev (pm q W k) (.or_ a b) e S = some w := by
  cases t
  · exact er_or_f h1 h2.h
  · rw [er_or_t h1]; exact h2.h
inductive Neg : Bool → Bool → Prop
  | t : Neg true false
  | f : Neg false true
theorem er_nots {t v : Bool} (h1 : ev (pm q W k) a e S = some (.bl t, S1)) (h2 : Neg t v) : ev (pm q W k) (.not_ a) e S = some (.bl v, S1) := by
  cases h2
  · exact er_not h1
  · exact er_not h1
theorem b_int {i : Int} : biop .int [.int i] S = some (.int i, S) := rfl
theorem b_bool {t : Bool} : biop .int [.bl t] S = some (.int (if t then 1 else 0), S) := by cases t <;> rfl
theorem b_abs {i : Int} : biop .abs [.int i] S = some (.int (if i < 0 then -i else i), S) := rfl
theorem b_max {i j : Int} : biop .max [.int i, .int j] S = some (.int (if j > i then j else i), S) := rfl
theorem b_min {i j : Int} : biop .min [.int i, .int j] S = some (.int (if j < i then j else i), S) := rfl
theorem b_lenT {xs : List D} : biop .len [.tup xs] S = some (.int xs.length, S) := rfl
theorem b_lenL {n : Nat} {xs : List D} (h : listAt S n = some xs) : biop .len [.ref n] S = some (.int xs.length, S) := by
  show (listAt S n).map _ = _
  rw [h]; rfl
end
end Tm

set_option Elab.async false
set_option linter.all false
set_option maxRecDepth 100000
namespace Tm
open PySem L2
/-! ## data that are like themselves -/
/-- a datum without lists whose text is known and short -/
def Nice (d : D) : Prop := ∃ x, (∀ S, pd S d = some x) ∧ x.layable0 = true ∧ PyData.intsShort 13 x = true ∧ x.showable = true
theorem Nice.rp {d : D} (h : Nice d) : ∃ z, ∀ S, biop .repr [d] S = some (.str z, S) := by
  obtain ⟨x, h1, h2, h3, h4⟩ := h
  refine ⟨x.shown, fun S => ?_⟩
  have h5 := PyData.shown_le_of_layable0 h2 h3
  have h6 := PyData.depth_of_layable h2
  show ((pd S d).bind fun x => if x.showable && decide (x.depth ≤ 64) && decide (x.shown.length ≤ sizeLine) then some (D.str x.shown, S) else none) = some (D.str x.shown, S)
  rw [h1 S]
  show (if x.showable && decide (x.depth ≤ 64) && decide (x.shown.length ≤ sizeLine) then some (D.str x.shown, S) else none) = some (D.str x.shown, S)
  rw [h4, decide_eq_true h6, decide_eq_true (show x.shown.length ≤ sizeLine from Nat.le_trans h5 (by decide))]
  rfl
theorem Nice.eq {d : D} (h : Nice d) (S : Store) : cmpop .eq d d S = some true := by
  obtain ⟨x, h1, h2, h3, h4⟩ := h
  have h6 := PyData.depth_of_layable h2
  have h7 : x.canLay0 = true := by
    rw [PyData.layable0.eq_1] at h2
    revert h2; cases x.canLay0 <;> simp
  show eqD S d d = some true
  have g : ((pd S d).bind fun x => (pd S d).bind fun y => if SeqAt.shaped x && SeqAt.shaped y then some (PyData.eqv x y) else none) = some true := by
    rw [h1 S]
    show (if SeqAt.shaped x && SeqAt.shaped x then some (PyData.eqv x x) else none) = _
    have : SeqAt.shaped x = true := by show (x.canLay0 && decide (x.depth ≤ 64)) = true; rw [h7, decide_eq_true h6]; rfl
    rw [this, SeqAt.eqv_refl x h7]; rfl
  cases d with
  | non => rfl
  | bl b => show some (decide (b = b)) = _; rw [decide_eq_true rfl]
  | int i => show some (decide (i = i)) = _; rw [decide_eq_true rfl]
  | str z => show some (decide (z = z)) = _; rw [decide_eq_true rfl]
  | tup xs => exact g
  | ref n => exact g
theorem weight_int {i : Int} (h : i.natAbs < 10 ^ 12) : (PyData.int i).weight ≤ 50 := by
  rw [PyData.weight.eq_def]
  show (if (i == 0) = true then 0 else i.natAbs.log2 + 1) ≤ 50
  split
  · omega
  · have : i.natAbs.log2 < 40 := Flt.log2_lt_of (by decide) (by omega)
    omega
theorem Nice.int {i : Int} (h : i.natAbs < 10 ^ 12) : Nice (.int i) := by
  refine ⟨.int i, fun _ => rfl, ?_, ?_, ?_⟩
  · have := weight_int h
    rw [PyData.layable0.eq_1, decide_eq_true (show (PyData.int i).weight ≤ 2 ^ 20 by omega)]; rfl
  · rw [PyData.intsShort.eq_5]; exact decide_eq_true (PyData.shown_int_le h)
  · rw [PyData.showable.eq_4]; exact decide_eq_true (by have : i.natAbs.log2 < 40 := Flt.log2_lt_of (by decide) (by omega); omega)
theorem Nice.non : Nice .non := ⟨.none, fun _ => rfl, by decide, by decide, by decide⟩
/-- a flat datum: an int that is small, or a short text -/
def Flat1 (d : D) : Prop := ∃ x, (∀ S, pd S d = some x) ∧ x.canLay0 = true ∧ x.depth = 0 ∧ x.weight ≤ 60 ∧ PyData.intsShort 13 x = true ∧ x.showable = true
theorem Flat1.int {i : Int} (h : i.natAbs < 10 ^ 12) : Flat1 (.int i) := by
  obtain ⟨x, h1, h2, h3, h4⟩ := Nice.int h
  cases h1 []
  exact ⟨_, h1, rfl, rfl, by have := weight_int h; omega, h3, h4⟩
theorem Flat1.str {z : Str} (h : PyData.strOk z = true) (k : z.cps.size ≤ 60) : Flat1 (.str z) :=
  ⟨.str z, fun _ => rfl, h, rfl, k, rfl, rfl⟩
theorem flats {ds : List D} (h : ∀ d ∈ ds, Flat1 d) : ∃ xs, (∀ S, pds S ds = some xs) ∧ PyData.canLayAll0 xs = true ∧ PyData.depthAll xs = 0 ∧ PyData.weightAll xs ≤ 61 * ds.length ∧ PyData.intsShortAll 13 xs = true ∧ PyData.showableAll xs = true := by
  induction ds with
  | nil => exact ⟨[], fun _ => rfl, rfl, rfl, by decide, rfl, rfl⟩
  | cons d ds ih =>
    obtain ⟨xs, h1, h2, h3, h4, h5, h6⟩ := ih (fun e he => h e (List.mem_cons_of_mem _ he))
    obtain ⟨x, k1, k2, k3, k4, k5, k6⟩ := h d List.mem_cons_self
    refine ⟨x :: xs, fun S => ?_, ?_, ?_, ?_, ?_, ?_⟩
    · show ((pd S d).bind fun x => (pds S ds).map fun xs => x :: xs) = _
      rw [k1 S, h1 S]; rfl
    · show (x.canLay0 && PyData.canLayAll0 xs) = true
      rw [k2, h2]; rfl
    · rw [PyData.depthAll.eq_def]; show max x.depth (PyData.depthAll xs) = 0; rw [k3, h3]; rfl
    · rw [PyData.weightAll.eq_2]; simp only [List.length_cons]; omega
    · rw [PyData.intsShortAll.eq_2, k5, h5]; rfl
    · rw [PyData.showableAll.eq_2, k6, h6]; rfl
theorem Nice.tup {ds : List D} (h : ∀ d ∈ ds, Flat1 d) (hl : ds.length ≤ 1000) : Nice (.tup ds) := by
  obtain ⟨xs, h1, h2, h3, h4, h5, h6⟩ := flats h
  refine ⟨.tuple xs, fun S => ?_, ?_, ?_, ?_⟩
  · show (pds S ds).map PyData.tuple = some (PyData.tuple xs)
    rw [h1 S]; rfl
  · rw [PyData.layable0.eq_1, PyData.canLay0.eq_6, h2, PyData.weight.eq_3, decide_eq_true (show PyData.weightAll xs ≤ 2 ^ 20 by omega), PyData.depth.eq_def]
    show (true && decide (PyData.depthAll xs + 1 ≤ 64) && true) = true
    rw [h3]; rfl
  · rw [PyData.intsShort.eq_7]; exact h5
  · rw [PyData.showable.eq_6]; exact h6
end Tm

set_option Elab.async false
set_option linter.all false
set_option maxRecDepth 100000
set_option maxHeartbeats 1000000
namespace Tm
open PySem L2
local macro_rules | `(tactic| walk_at "sm") => `(tactic| first | assumption | (unfold Sm; first | omega | decide))
local macro_rules | `(tactic| walk_at "in") => `(tactic| first | assumption | omega | decide)
local macro_rules | `(tactic| walk_at "lst") => `(tactic| first | assumption | exact l_last | exact l_lst (by assumption) | exact l_ro (by assumption) | exact l_lst (set_get (by assumption)))
local macro_rules | `(tactic| walk_at "op") => `(tactic| first
  | with_reducible exact o_add
  | with_reducible exact o_sub
  | ((with_reducible refine' o_mod ?h); (case h => walk_at "in"))
  | ((with_reducible refine' o_div ?h ?g); (case h => walk_at "in"); (case g => walk_at "sm"))
  | ((with_reducible refine' o_mul ?h ?g); (case h => walk_at "sm"); (case g => walk_at "sm"))
  | ((with_reducible refine' o_pow ?h ?g); (case h => walk_at "in"); (case g => decide)))
local macro_rules | `(tactic| walk_at "cmp") => `(tactic| first
  | ((with_reducible refine' c_eq_t ?h); (case h => walk_at "in"))
  | ((with_reducible refine' c_lt_t ?h); (case h => walk_at "in"))
  | ((with_reducible refine' c_gt_t ?h); (case h => walk_at "in"))
  | ((with_reducible refine' c_ne_t ?h); (case h => walk_at "in"))
  | ((with_reducible refine' c_le_t ?h); (case h => walk_at "in"))
  | ((with_reducible refine' c_ge_t ?h); (case h => walk_at "in"))
  | ((with_reducible refine' c_eq_f ?h); (case h => walk_at "in"))
  | ((with_reducible refine' c_lt_f ?h); (case h => walk_at "in"))
  | ((with_reducible refine' c_gt_f ?h); (case h => walk_at "in"))
  | ((with_reducible refine' c_ne_f ?h); (case h => walk_at "in"))
  | ((with_reducible refine' c_le_f ?h); (case h => walk_at "in"))
  | ((with_reducible refine' c_ge_f ?h); (case h => walk_at "in"))
  | ((with_reducible refine' c_str_t ?h); (case h => with_reducible exact rfl))
  | ((with_reducible refine' c_str_f ?h); (case h => decide))
  | ((with_reducible refine' c_strn_f ?h); (case h => with_reducible exact rfl))
  | ((with_reducible refine' c_strn_t ?h); (case h => decide))
  | ((with_reducible refine' c_in (t := true) ?h ?g ?f ?e); (case h => walk_at "lst"); (case g => exact rfl); (case f => exact rfl); (case e => decide))
  | ((with_reducible refine' c_in (t := false) ?h ?g ?f ?e); (case h => walk_at "lst"); (case g => exact rfl); (case f => exact rfl); (case e => decide))
  | ((with_reducible refine' c_inT (t := true) ?g ?f ?e); (case g => exact rfl); (case f => exact rfl); (case e => decide))
  | ((with_reducible refine' c_inT (t := false) ?g ?f ?e); (case g => exact rfl); (case f => exact rfl); (case e => decide)))
local macro_rules | `(tactic| walk_at "bi") => `(tactic| first | with_reducible exact b_int | with_reducible exact b_bool | with_reducible exact b_abs | with_reducible exact b_max | with_reducible exact b_min | with_reducible exact b_lenT | ((with_reducible refine' b_lenL ?h); (case h => walk_at "lst")))
local macro_rules | `(tactic| walk_at "call") => `(tactic| first | assumption)
local macro_rules | `(tactic| walk_at "ev") => `(tactic| first
  | (exact er_nil)
  | ((with_reducible refine' er_lit ?h); (case h => exact rfl))
  | ((with_reducible refine' er_var ?h); (case h => exact rfl))
  | ((with_reducible refine' er_cons ?h1 ?h2); (case h1 => walk_at "ev"); (case h2 => walk_at "ev"))
  | ((with_reducible refine' er_tup ?h1 ?h2); (case h1 => walk_at "ev"); (case h2 => exact Nat.le_of_ble_eq_true rfl))
  | ((with_reducible refine' er_lst ?h1 ?h2); (case h1 => walk_at "ev"); (case h2 => exact Nat.le_of_ble_eq_true rfl))
  | ((with_reducible refine' er_bin ?h1 ?h2 ?h3); (case h1 => walk_at "ev"); (case h2 => walk_at "ev"); (case h3 => walk_at "op"))
  | ((with_reducible refine' er_idx ?h1 ?h2 ?h3); (case h1 => walk_at "ev"); (case h2 => walk_at "ev"); (case h3 => first | exact i_tup (by first | assumption | rfl) | exact i_lst (by walk_at "lst") (by first | assumption | rfl)))
  | ((with_reducible refine' er_call ?h1 ?h2 ?h3 ?h4); (case h1 => walk_at "ev"); (case h2 => walk_at "ev"); (case h3 => exact rfl); (case h4 => walk_at "call"))
  | ((with_reducible refine' er_bi ?h1 ?h2); (case h1 => walk_at "ev"); (case h2 => walk_at "bi"))
  | ((with_reducible refine' er_cmp ?h1 ?h2 ?h3); (case h1 => walk_at "ev"); (case h2 => walk_at "ev"); (case h3 => walk_at "cmp"))
  | ((with_reducible refine' er_nots ?h1 ?h2); (case h1 => walk_at "ev"); (case h2 => first | exact Neg.t | exact Neg.f))
  | ((with_reducible refine' er_ors ?h1 ?h2); (case h1 => walk_at "ev"); (case h2 => first | exact ors_t | ((with_reducible refine' ors_f ?h3); (case h3 => walk_at "ev"))))
  | ((with_reducible refine' er_ands ?h1 ?h2); (case h1 => walk_at "ev"); (case h2 => first | exact ands_f | ((with_reducible refine' ands_t ?h3); (case h3 => walk_at "ev"))))
  | ((with_reducible refine' er_br ?h1 ?h2); (case h1 => walk_at "ev"); (case h2 => first | ((with_reducible refine' bre_t ?h3); (case h3 => walk_at "ev")) | ((with_reducible refine' bre_f ?h3); (case h3 => walk_at "ev")))))
local macro_rules | `(tactic| walk_at "ex") => `(tactic| first
  | (exact es_skip)
  | ((with_reducible refine' es_sq ?h1 ?h2); (case h1 => walk_at "ex"); (case h2 => first | exact nxt_rt | exact nxt_bk | exact nxt_ct | ((with_reducible refine' nxt_nx ?h3); (case h3 => walk_at "ex"))))
  | ((with_reducible refine' es_ret ?h1); (case h1 => walk_at "ev"))
  | ((with_reducible refine' es_asg ?h1 ?h2); (case h1 => walk_at "ev"); (case h2 => exact rfl))
  | ((with_reducible refine' es_seti ?h1 ?h2 ?h3 ?h4); (case h1 => walk_at "ev"); (case h2 => walk_at "ev"); (case h3 => walk_at "ev"); (case h4 => exact s_set (by first | assumption | exact set_get (by assumption)) rfl))
  | ((with_reducible refine' es_drop ?h1); (case h1 => walk_at "ev"))
  | ((with_reducible refine' es_br ?h1 ?h2); (case h1 => walk_at "ev"); (case h2 => first | ((with_reducible refine' brs_t ?h3); (case h3 => walk_at "ex")) | ((with_reducible refine' brs_f ?h3); (case h3 => walk_at "ex")))))
/-! ## the spring: numbers that are drawn -/
/-- at a stands a spring from which at most c numbers were drawn by mixing -/
def Spr (S : Store) (a : Nat) (c : Int) : Prop := ∃ x m n : Int, S[a]? = some (.lst [.int x, .int m, .int n]) ∧ 0 ≤ m ∧ m < 2 ^ 61 ∧ 0 ≤ n ∧ n ≤ c
theorem Spr.kp {S S' : Store} {a : Nat} {c : Int} {A : List Nat} (h : Spr S a c) (k : Kp A S S') (n : a ∉ A) : Spr S' a c := by
  obtain ⟨x, m, n', h1, h2⟩ := h
  exact ⟨x, m, n', k _ _ n h1, h2⟩
theorem Spr.le {S : Store} {a : Nat} {c d : Int} (h : Spr S a c) (k : c ≤ d) : Spr S a d := by
  obtain ⟨x, m, n', h1, h2, h3, h4, h5⟩ := h
  exact ⟨x, m, n', h1, h2, h3, h4, by omega⟩
theorem Spr.lt {S : Store} {a : Nat} {c : Int} (h : Spr S a c) : a < S.length := by
  obtain ⟨x, m, n', h1, _⟩ := h
  exact (List.getElem?_eq_some_iff.mp h1).1
section
variable {q : Pr} (hq : q.fs 5 = some (2, 4, b_5)) {W : Nat}
include hq
theorem pick_a (k : Nat) {S : Store} {a : Nat} {x m c many : Int} (hS : S[a]? = some (.lst [.int x, .int m, .int c])) (hx : 0 < x) (hm : 0 < many) (hl : Sm many) :
    run q W (k + 1) 5 [.ref a, .int many] S = some (.int (x % many), S.set a (.lst [.int (x / many), .int m, .int c])) := by
  refine' run_rt hq rfl rfl ?h
  case h => unfold b_5; walk_at "ex"
theorem pick_b (k : Nat) {S : Store} {a : Nat} {x m c many : Int} (hS : S[a]? = some (.lst [.int x, .int m, .int c])) (hx : ¬ 0 < x) (hm0 : 0 ≤ m) (hm : m < 2 ^ 61) (hc0 : 0 ≤ c) (hc : c < 10 ^ 12) (hn : 0 < many) (hl : Sm many) :
    ∃ r, run q W (k + 1) 5 [.ref a, .int many] S = some (.int r, S.set a (.lst [.int x, .int m, .int (c + 1)])) ∧ 0 ≤ r ∧ r < many := by
  have w0 : Sm (c + 1) := by unfold Sm; omega
  have w1 : Sm (1000003 * (c + 1)) := by unfold Sm; omega
  have w2 : (m + 1000003 * (c + 1)).natAbs < 2 ^ 64 := by omega
  have w3 : 0 < (10 : Int) ^ (18 : Int).toNat + 9 := by decide
  have w4 : 0 < (2 : Int) ^ (61 : Int).toNat - 1 := by decide
  have w5 : ((m + 1000003 * (c + 1)) ^ (3 : Int).toNat + 754974721 * (c + 1)) % ((10 : Int) ^ (18 : Int).toNat + 9) < 10 ^ 18 + 9 := Int.emod_lt_of_pos _ w3
  have w6 : 0 ≤ ((m + 1000003 * (c + 1)) ^ (3 : Int).toNat + 754974721 * (c + 1)) % ((10 : Int) ^ (18 : Int).toNat + 9) := Int.emod_nonneg _ (by decide)
  generalize hg : ((m + 1000003 * (c + 1)) ^ (3 : Int).toNat + 754974721 * (c + 1)) % ((10 : Int) ^ (18 : Int).toNat + 9) = g at w5 w6
  have w7 : Sm g := by unfold Sm; omega
  have w8 : Sm (g + 40961) := by unfold Sm; omega
  refine ⟨(g * (g + 40961)) % ((2 : Int) ^ (61 : Int).toNat - 1) / 4099 % many, ?_, Int.emod_nonneg _ (by omega), Int.emod_lt_of_pos _ hn⟩
  subst hg
  have hS' : (S.set a (.lst [.int x, .int m, .int (c + 1)]))[a]? = some (.lst [.int x, .int m, .int (c + 1)]) := set_get hS
  refine' run_rt hq rfl rfl ?h
  case h => unfold b_5; walk_at "ex"
end
theorem pick_spec {q : Pr} (hq : q.fs 5 = some (2, 4, b_5)) {W : Nat} (k : Nat) {S : Store} {a : Nat} {c many : Int} (h : Spr S a c) (hc : c < 10 ^ 12) (hn : 0 < many) (hl : Sm many) :
    ∃ r S', run q W (k + 1) 5 [.ref a, .int many] S = some (.int r, S') ∧ 0 ≤ r ∧ r < many ∧ Spr S' a (c + 1) ∧ Kp [a] S S' := by
  obtain ⟨x, m, n, h1, h2, h3, h4, h5⟩ := h
  by_cases hx : 0 < x
  · exact ⟨_, _, pick_a hq k h1 hx hn hl, Int.emod_nonneg _ (by omega), Int.emod_lt_of_pos _ hn, ⟨_, _, _, set_get h1, h2, h3, h4, by omega⟩, Kp.set⟩
  · obtain ⟨r, g1, g2, g3⟩ := pick_b hq k (W := W) h1 hx h2 h3 h4 (by omega) hn hl
    exact ⟨r, _, g1, g2, g3, ⟨_, _, _, set_get h1, h2, h3, by omega, by omega⟩, Kp.set⟩
theorem word_spec {q : Pr} (h5 : q.fs 5 = some (2, 4, b_5)) (h6 : q.fs 6 = some (1, 2, b_6)) {W : Nat} (k : Nat) {S : Store} {a : Nat} {c : Int} (h : Spr S a c) (hc : c + 1 < 10 ^ 12) :
    ∃ r S', run q W (k + 2) 6 [.ref a] S = some (.int r, S') ∧ 0 ≤ r ∧ r < 65536 ∧ Spr S' a (c + 2) ∧ Kp [a] S S' := by
  obtain ⟨r1, S1, p1, l1, u1, s1, k1⟩ := pick_spec h5 (W := W) k h (by omega) (show (0 : Int) < 4 by decide) (by unfold Sm; decide)
  obtain ⟨r2, S2, p2, l2, u2, s2, k2⟩ := pick_spec h5 (W := W) k s1 (by omega) (show (0 : Int) < 4 by decide) (by unfold Sm; decide)
  obtain ⟨r3, S3, p3, l3, u3, s3, k3⟩ := pick_spec h5 (W := W) k s1 (by omega) (show (0 : Int) < 65536 by decide) (by unfold Sm; decide)
  by_cases e0 : r1 = 0
  · exact ⟨_, _, by refine' run_rt h6 rfl rfl ?h; (case h => unfold b_6; walk_at "ex"), l2, by omega, s2.le (by omega), k1.trans k2⟩
  by_cases e1 : r1 = 1
  · exact ⟨_, _, by refine' run_rt h6 rfl rfl ?h; (case h => unfold b_6; walk_at "ex"), by omega, by omega, s2.le (by omega), k1.trans k2⟩
  by_cases e2 : r1 = 2
  · exact ⟨_, _, by refine' run_rt h6 rfl rfl ?h; (case h => unfold b_6; walk_at "ex"), by omega, by omega, s2.le (by omega), k1.trans k2⟩
  · exact ⟨_, _, by refine' run_rt h6 rfl rfl ?h; (case h => unfold b_6; walk_at "ex"), l3, u3, s3.le (by omega), k1.trans k3⟩

end Tm

set_option Elab.async false
set_option linter.all false
set_option maxRecDepth 100000
set_option maxHeartbeats 4000000
namespace Tm
open PySem L2
local macro_rules | `(tactic| walk_at "sm") => `(tactic| first | assumption | (unfold Sm; first | omega | decide))
local macro_rules | `(tactic| walk_at "in") => `(tactic| first | assumption | omega | decide)
local macro_rules | `(tactic| walk_at "lst") => `(tactic| first | assumption | exact l_last | exact l_lst (by assumption) | exact l_ro (by assumption) | exact l_lst (set_get (by assumption)))
local macro_rules | `(tactic| walk_at "op") => `(tactic| first
  | with_reducible exact o_add
  | with_reducible exact o_sub
  | ((with_reducible refine' o_mod ?h); (case h => walk_at "in"))
  | ((with_reducible refine' o_div ?h ?g); (case h => walk_at "in"); (case g => walk_at "sm"))
  | ((with_reducible refine' o_mul ?h ?g); (case h => walk_at "sm"); (case g => walk_at "sm"))
  | ((with_reducible refine' o_pow ?h ?g); (case h => walk_at "in"); (case g => decide)))
local macro_rules | `(tactic| walk_at "cmp") => `(tactic| first
  | ((with_reducible refine' c_eq_t ?h); (case h => walk_at "in"))
  | ((with_reducible refine' c_lt_t ?h); (case h => walk_at "in"))
  | ((with_reducible refine' c_gt_t ?h); (case h => walk_at "in"))
  | ((with_reducible refine' c_ne_t ?h); (case h => walk_at "in"))
  | ((with_reducible refine' c_le_t ?h); (case h => walk_at "in"))
  | ((with_reducible refine' c_ge_t ?h); (case h => walk_at "in"))
  | ((with_reducible refine' c_eq_f ?h); (case h => walk_at "in"))
  | ((with_reducible refine' c_lt_f ?h); (case h => walk_at "in"))
  | ((with_reducible refine' c_gt_f ?h); (case h => walk_at "in"))
  | ((with_reducible refine' c_ne_f ?h); (case h => walk_at "in"))
  | ((with_reducible refine' c_le_f ?h); (case h => walk_at "in"))
  | ((with_reducible refine' c_ge_f ?h); (case h => walk_at "in"))
  | ((with_reducible refine' c_str_t ?h); (case h => with_reducible exact rfl))
  | ((with_reducible refine' c_str_f ?h); (case h => decide))
  | ((with_reducible refine' c_strn_f ?h); (case h => with_reducible exact rfl))
  | ((with_reducible refine' c_strn_t ?h); (case h => decide))
  | ((with_reducible refine' c_in (t := true) ?h ?g ?f ?e); (case h => walk_at "lst"); (case g => exact rfl); (case f => exact rfl); (case e => decide))
  | ((with_reducible refine' c_in (t := false) ?h ?g ?f ?e); (case h => walk_at "lst"); (case g => exact rfl); (case f => exact rfl); (case e => decide))
  | ((with_reducible refine' c_inT (t := true) ?g ?f ?e); (case g => exact rfl); (case f => exact rfl); (case e => decide))
  | ((with_reducible refine' c_inT (t := false) ?g ?f ?e); (case g => exact rfl); (case f => exact rfl); (case e => decide)))
local macro_rules | `(tactic| walk_at "bi") => `(tactic| first | with_reducible exact b_int | with_reducible exact b_bool | with_reducible exact b_abs | with_reducible exact b_max | with_reducible exact b_min | with_reducible exact b_lenT | ((with_reducible refine' b_lenL ?h); (case h => walk_at "lst")))
local macro_rules | `(tactic| walk_at "call") => `(tactic| first | assumption)
local macro_rules | `(tactic| walk_at "ev") => `(tactic| first
  | (exact er_nil)
  | ((with_reducible refine' er_lit ?h); (case h => exact rfl))
  | ((with_reducible refine' er_var ?h); (case h => exact rfl))
  | ((with_reducible refine' er_cons ?h1 ?h2); (case h1 => walk_at "ev"); (case h2 => walk_at "ev"))
  | ((with_reducible refine' er_tup ?h1 ?h2); (case h1 => walk_at "ev"); (case h2 => exact Nat.le_of_ble_eq_true rfl))
  | ((with_reducible refine' er_lst ?h1 ?h2); (case h1 => walk_at "ev"); (case h2 => exact Nat.le_of_ble_eq_true rfl))
  | ((with_reducible refine' er_bin ?h1 ?h2 ?h3); (case h1 => walk_at "ev"); (case h2 => walk_at "ev"); (case h3 => walk_at "op"))
  | ((with_reducible refine' er_idx ?h1 ?h2 ?h3); (case h1 => walk_at "ev"); (case h2 => walk_at "ev"); (case h3 => first | exact i_tup (by first | assumption | rfl) | exact i_lst (by walk_at "lst") (by first | assumption | rfl)))
  | ((with_reducible refine' er_call ?h1 ?h2 ?h3 ?h4); (case h1 => walk_at "ev"); (case h2 => walk_at "ev"); (case h3 => exact rfl); (case h4 => walk_at "call"))
  | ((with_reducible refine' er_bi ?h1 ?h2); (case h1 => walk_at "ev"); (case h2 => walk_at "bi"))
  | ((with_reducible refine' er_cmp ?h1 ?h2 ?h3); (case h1 => walk_at "ev"); (case h2 => walk_at "ev"); (case h3 => walk_at "cmp"))
  | ((with_reducible refine' er_nots ?h1 ?h2); (case h1 => walk_at "ev"); (case h2 => first | exact Neg.t | exact Neg.f))
  | ((with_reducible refine' er_ors ?h1 ?h2); (case h1 => walk_at "ev"); (case h2 => first | exact ors_t | ((with_reducible refine' ors_f ?h3); (case h3 => walk_at "ev"))))
  | ((with_reducible refine' er_ands ?h1 ?h2); (case h1 => walk_at "ev"); (case h2 => first | exact ands_f | ((with_reducible refine' ands_t ?h3); (case h3 => walk_at "ev"))))
  | ((with_reducible refine' er_br ?h1 ?h2); (case h1 => walk_at "ev"); (case h2 => first | ((with_reducible refine' bre_t ?h3); (case h3 => walk_at "ev")) | ((with_reducible refine' bre_f ?h3); (case h3 => walk_at "ev")))))
local macro_rules | `(tactic| walk_at "ex") => `(tactic| first
  | (exact es_skip)
  | ((with_reducible refine' es_sq ?h1 ?h2); (case h1 => walk_at "ex"); (case h2 => first | exact nxt_rt | exact nxt_bk | exact nxt_ct | ((with_reducible refine' nxt_nx ?h3); (case h3 => walk_at "ex"))))
  | ((with_reducible refine' es_ret ?h1); (case h1 => walk_at "ev"))
  | ((with_reducible refine' es_asg ?h1 ?h2); (case h1 => walk_at "ev"); (case h2 => exact rfl))
  | ((with_reducible refine' es_seti ?h1 ?h2 ?h3 ?h4); (case h1 => walk_at "ev"); (case h2 => walk_at "ev"); (case h3 => walk_at "ev"); (case h4 => exact s_set (by first | assumption | exact set_get (by assumption)) rfl))
  | ((with_reducible refine' es_drop ?h1); (case h1 => walk_at "ev"))
  | ((with_reducible refine' es_br ?h1 ?h2); (case h1 => walk_at "ev"); (case h2 => first | ((with_reducible refine' brs_t ?h3); (case h3 => walk_at "ex")) | ((with_reducible refine' brs_f ?h3); (case h3 => walk_at "ex")))))
def b_7t : St := (.seq (.ifs (.cmp .eq (.var 1) (.lit (.str "set"))) (.seq (.ret (.tup (.cons (.var 1) (.cons (.var 4) (.cons (.var 7) .nil)))))
  .skip) .skip)
  (.seq (.ifs (.cmp .in_ (.var 1) (.lst (.cons (.lit (.str "add")) (.cons (.lit (.str "sub")) (.cons (.lit (.str "and")) (.cons (.lit (.str "xor")) (.cons (.lit (.str "below")) .nil))))))) (.seq (.ret (.tup (.cons (.var 1) (.cons (.var 4) (.cons (.var 5) (.cons (.var 6) .nil))))))
  .skip) .skip)
  (.seq (.ifs (.cmp .in_ (.var 1) (.lst (.cons (.lit (.str "load")) (.cons (.lit (.str "store")) .nil)))) (.seq (.ret (.tup (.cons (.var 1) (.cons (.var 4) (.cons (.var 5) (.cons (.var 7) .nil))))))
  .skip) .skip)
  (.seq (.ifs (.cmp .in_ (.var 1) (.lst (.cons (.lit (.str "swap")) (.cons (.lit (.str "addto")) .nil)))) (.seq (.ret (.tup (.cons (.var 1) (.cons (.var 4) (.cons (.var 5) (.cons (.var 6) (.cons (.var 7) .nil)))))))
  .skip) .skip)
  (.seq (.ifs (.cmp .eq (.var 1) (.lit (.str "ifzero"))) (.seq (.ret (.tup (.cons (.var 1) (.cons (.var 4) (.cons (.var 8) .nil)))))
  .skip) .skip)
  (.seq (.ifs (.cmp .eq (.var 1) (.lit (.str "jump"))) (.seq (.ret (.tup (.cons (.var 1) (.cons (.var 8) .nil))))
  .skip) .skip)
  (.seq (.ret (.tup (.cons (.var 1) .nil)))
  .skip)))))))
theorem Spr.push {S : Store} {a : Nat} {c : Int} {o : O} (h : Spr S a c) : Spr (S ++ [o]) a c := h.kp (A := []) Kp.push (by simp)
abbrev nms : List Str := ["set", "add", "sub", "and", "xor", "below", "load", "store", "swap", "addto", "fence", "ifzero", "jump", "gap", "stop"]
def shape (nm : Str) (a b c w g : Int) : List D :=
  if nm = "set" then [.int a, .int w] else if nm = "add" ∨ nm = "sub" ∨ nm = "and" ∨ nm = "xor" ∨ nm = "below" then [.int a, .int b, .int c]
  else if nm = "load" ∨ nm = "store" then [.int a, .int b, .int w] else if nm = "swap" ∨ nm = "addto" then [.int a, .int b, .int c, .int w]
  else if nm = "ifzero" then [.int a, .int g] else if nm = "jump" then [.int g] else []
theorem pick3 (x y z r : Int) (h0 : 0 ≤ r) (h3 : r < 3) : ∃ t, atI [D.int x, D.int y, D.int z] r = some (D.int t) ∧ (t = x ∨ t = y ∨ t = z) := by
  have : r = 0 ∨ r = 1 ∨ r = 2 := by omega
  rcases this with rfl | rfl | rfl
  · exact ⟨x, rfl, Or.inl rfl⟩
  · exact ⟨y, rfl, Or.inr (Or.inl rfl)⟩
  · exact ⟨z, rfl, Or.inr (Or.inr rfl)⟩
theorem instr_spec {q : Pr} (h5 : q.fs 5 = some (2, 4, b_5)) (h6 : q.fs 6 = some (1, 2, b_6)) (h7 : q.fs 7 = some (4, 9, b_7)) {W : Nat} (k : Nat) {S : Store} {a : Nat} {c few many : Int} (h : Spr S a c) (hc : c + 7 < 10 ^ 12)
    (f0 : 0 < few) (f1 : few < 100) (m0 : 0 ≤ many) (m1 : many < 100) {nm : Str} (hm : nm ∈ nms) :
    ∃ (i1 i2 i3 w g : Int) (S' : Store), run q W (k + 3) 7 [.ref a, .str nm, .int few, .int many] S = some (.tup (.str nm :: shape nm i1 i2 i3 w g), S') ∧ 0 ≤ i1 ∧ i1 < few ∧ 0 ≤ i2 ∧ i2 < few ∧ 0 ≤ i3 ∧ i3 < few ∧ 0 ≤ w ∧ w < 65536 ∧ 0 ≤ g ∧ g ≤ many
      ∧ Spr S' a (c + 7) ∧ Kp [a] S S' := by
  obtain ⟨r1, S1, p1, l1, u1, s1, k1⟩ := pick_spec h5 (W := W) (k + 1) h (by omega) f0 (by unfold Sm; omega)
  obtain ⟨r2, S2, p2, l2, u2, s2, k2⟩ := pick_spec h5 (W := W) (k + 1) s1 (by omega) f0 (by unfold Sm; omega)
  obtain ⟨r3, S3, p3, l3, u3, s3, k3⟩ := pick_spec h5 (W := W) (k + 1) s2 (by omega) f0 (by unfold Sm; omega)
  obtain ⟨w, S4, p4, l4, u4, s4, k4⟩ := word_spec h5 h6 (W := W) k s3 (by omega)
  obtain ⟨r5, S5, p5, l5, u5, s5, k5⟩ := pick_spec h5 (W := W) (k + 1) s4 (by omega) (show 0 < many + 1 by omega) (by unfold Sm; omega)
  obtain ⟨r6, S6, p6, l6, u6, s6, k6⟩ := pick_spec h5 (W := W) (k + 1) (s5.push (o := .lst [.int 0, .int many, .int r5])) (by omega) (show (0 : Int) < 3 by decide) (by unfold Sm; decide)
  obtain ⟨g, hg, hgo⟩ := pick3 0 many r5 r6 l6 u6
  have hL : listAt S6 S5.length = some [.int 0, .int many, .int r5] := l_lst (k6 _ _ (by have := s5.lt; simp; omega) g_last)
  have K : Kp [a] S S6 := k1.trans (k2.trans (k3.trans (k4.trans (k5.trans (Kp.push.trans k6)))))
  have Z : Spr S6 a (c + 7) := s6.le (by omega)
  have G : 0 ≤ g ∧ g ≤ many := by omega
  have R0 : ∀ (w' : Fl × Env' × Store), ex (pm q W (k + 2)) b_7t [some (.ref a), some (.str nm), some (.int few), some (.int many), some (.int r1), some (.int r2), some (.int r3), some (.int w), some (.int g)] S6 = some w' → ex (pm q W (k + 2)) b_7 (env0 4 9 [.ref a, .str nm, .int few, .int many]) S = some w' := by
    intro w' hw
    unfold b_7
    refine' es_nx ?x1 ?x2
    case x1 => walk_at "ex"
    case x2 =>
    refine' es_nx ?y1 ?y2
    case y1 => walk_at "ex"
    case y2 => exact hw
  simp only [nms, List.mem_cons, List.not_mem_nil, or_false] at hm
  rcases hm with rfl | rfl | rfl | rfl | rfl | rfl | rfl | rfl | rfl | rfl | rfl | rfl | rfl | rfl | rfl
  all_goals
    refine' ⟨r1, r2, r3, w, g, _, ?h, l1, u1, l2, u2, l3, u3, l4, u4, G.1, G.2, ?z, ?k⟩
    case h => refine' run_rt h7 rfl rfl ?h; (case h => refine' R0 _ ?h; (case h => unfold b_7t; walk_at "ex"))
    case z => repeat (first | exact Z | apply Spr.push)
    case k => repeat (first | exact K | refine Kp.trans ?_ Kp.push)
end Tm

set_option Elab.async false
set_option maxRecDepth 100000
namespace Tm
open PySem L2
def b_0 : St := (.seq (.ret (.bi .tuple (.cons (.lc (.itv (.kgetd 0 (.idx (.var 0) (.lit (.int 0))) (.tup .nil))) (.nm 1) (.lit (.bl true)) (.idx (.var 0) (.var 1)) [1]) .nil)))
  .skip)
def b_1 : St := (.seq (.ret (.ife (.cmp .in_ (.idx (.var 0) (.lit (.int 0))) (.glob 0)) (.idx (.var 0) (.lit (.int 1))) (.lit .non)))
  .skip)
def b_2 : St := (.seq (.ret (.bin .mod (.bin .add (.var 1) (.var 2)) (.var 0)))
  .skip)
def b_3 : St := (.seq (.asg (.nm 2) (.idx (.var 0) (.lit (.int 0))))
  (.seq (.ifs (.cmp .eq (.var 2) (.lit (.str "set"))) (.seq (.ret (.idx (.var 0) (.lit (.int 2))))
  .skip) .skip)
  (.seq (.asg (.tp 2 (.cons (.nm 3) (.cons (.nm 4) .nil))) (.var 1))
  (.seq (.ifs (.cmp .eq (.var 2) (.lit (.str "add"))) (.seq (.ret (.bin .mod (.bin .add (.var 3) (.var 4)) (.lit (.int 65536))))
  .skip) .skip)
  (.seq (.ifs (.cmp .eq (.var 2) (.lit (.str "sub"))) (.seq (.ret (.bin .mod (.bin .sub (.var 3) (.var 4)) (.lit (.int 65536))))
  .skip) .skip)
  (.seq (.ifs (.cmp .eq (.var 2) (.lit (.str "and"))) (.seq (.ret (.bin .band (.var 3) (.var 4)))
  .skip) .skip)
  (.seq (.ifs (.cmp .eq (.var 2) (.lit (.str "xor"))) (.seq (.ret (.bin .bxor (.var 3) (.var 4)))
  .skip) .skip)
  (.seq (.ret (.ife (.cmp .lt (.var 3) (.var 4)) (.lit (.int 1)) (.lit (.int 0))))
  .skip))))))))
def b_8 : St := (.seq (.asg (.tp 2 (.cons (.nm 3) (.cons (.nm 4) .nil))) (.tup (.cons (.lit (.int 0)) (.cons (.lit (.int 1)) .nil))))
  (.seq (.for_ (.irng (.cons (.lit (.int 16)) .nil)) (.nm 5) (.seq (.ifs (.cmp .eq (.bin .add (.bin .mod (.bi .int (.cons (.var 0) .nil)) (.lit (.int 2))) (.bin .mod (.bi .int (.cons (.var 1) .nil)) (.lit (.int 2)))) (.var 2)) (.seq (.asg (.nm 3) (.bin .add (.var 3) (.var 4)))
  .skip) .skip)
  (.seq (.asg (.tp 3 (.cons (.nm 0) (.cons (.nm 1) (.cons (.nm 4) .nil)))) (.tup (.cons (.bin .fdiv (.var 0) (.lit (.int 2))) (.cons (.bin .fdiv (.var 1) (.lit (.int 2))) (.cons (.bin .mul (.lit (.int 2)) (.var 4)) .nil)))))
  .skip)))
  (.seq (.ret (.var 3))
  .skip)))
def b_9 : St := (.seq (.ifs (.cmp .eq (.var 0) (.lit (.str "add"))) (.seq (.ret (.bin .sub (.bin .add (.var 1) (.var 2)) (.bin .mul (.lit (.int 65536)) (.bi .int (.cons (.cmp .gt (.bin .add (.var 1) (.var 2)) (.lit (.int 65535))) .nil)))))
  .skip) .skip)
  (.seq (.ifs (.cmp .eq (.var 0) (.lit (.str "sub"))) (.seq (.ret (.bin .add (.bin .sub (.var 1) (.var 2)) (.bin .mul (.lit (.int 65536)) (.bi .int (.cons (.cmp .lt (.var 1) (.var 2)) .nil)))))
  .skip) .skip)
  (.seq (.ifs (.cmp .eq (.var 0) (.lit (.str "below"))) (.seq (.ret (.bi .int (.cons (.cmp .lt (.var 1) (.var 2)) .nil)))
  .skip) .skip)
  (.seq (.ret (.call 8 [0, 1, 2] (.cons (.var 1) (.cons (.var 2) (.cons (.bin .add (.lit (.int 1)) (.bi .int (.cons (.cmp .eq (.var 0) (.lit (.str "and"))) .nil))) .nil))) .nil))
  .skip))))
def b_10 : St := (.seq (.ifs (.cmp .in_ (.idx (.var 0) (.lit (.int 0))) (.lst (.cons (.lit (.str "add")) (.cons (.lit (.str "sub")) (.cons (.lit (.str "and")) (.cons (.lit (.str "xor")) (.cons (.lit (.str "below")) (.cons (.lit (.str "swap")) (.cons (.lit (.str "addto")) .nil))))))))) (.seq (.ret (.tup (.cons (.idx (.var 0) (.lit (.int 2))) (.cons (.idx (.var 0) (.lit (.int 3))) .nil))))
  .skip) .skip)
  (.seq (.ifs (.cmp .eq (.idx (.var 0) (.lit (.int 0))) (.lit (.str "load"))) (.seq (.ret (.tup (.cons (.idx (.var 0) (.lit (.int 2))) .nil)))
  .skip) .skip)
  (.seq (.ifs (.cmp .eq (.idx (.var 0) (.lit (.int 0))) (.lit (.str "store"))) (.seq (.ret (.tup (.cons (.idx (.var 0) (.lit (.int 1))) (.cons (.idx (.var 0) (.lit (.int 2))) .nil))))
  .skip) .skip)
  (.seq (.ifs (.cmp .eq (.idx (.var 0) (.lit (.int 0))) (.lit (.str "ifzero"))) (.seq (.ret (.tup (.cons (.idx (.var 0) (.lit (.int 1))) .nil)))
  .skip) .skip)
  (.seq (.ret (.tup .nil))
  .skip)))))
def b_11 : St := (.seq (.ifs (.cmp .in_ (.idx (.var 0) (.lit (.int 0))) (.lst (.cons (.lit (.str "store")) (.cons (.lit (.str "fence")) (.cons (.lit (.str "gap")) (.cons (.lit (.str "ifzero")) (.cons (.lit (.str "jump")) (.cons (.lit (.str "stop")) .nil)))))))) (.seq (.ret (.lit .non))
  .skip) .skip)
  (.seq (.ret (.idx (.var 0) (.lit (.int 1))))
  .skip))
def b_12 : St := (.seq (.ret (.and_ (.cmp .eq (.var 0) (.var 1)) (.cmp .eq (.bi .repr (.cons (.var 0) .nil)) (.bi .repr (.cons (.var 1) .nil)))))
  .skip)
def b_13 : St := (.seq (.asg (.nm 2) (.idx (.lst (.cons (.lit (.int 8)) (.cons (.lit (.int 2)) .nil))) (.call 5 [0, 1] (.cons (.var 0) (.cons (.lit (.int 2)) .nil)) .nil)))
  (.seq (.asg (.nm 3) (.call 7 [0, 1, 2, 3] (.cons (.var 0) (.cons (.var 1) (.cons (.var 2) (.cons (.lit (.int 40)) .nil)))) .nil))
  (.seq (.asg (.tp 2 (.cons (.nm 4) (.cons (.nm 5) .nil))) (.tup (.cons (.call 10 [0] (.cons (.var 3) .nil) .nil) (.cons (.bi .repr (.cons (.var 3) .nil)) .nil))))
  (.seq (.ifs (.or_ (.not_ (.call 12 [0, 1] (.cons (.call 0 [0] (.cons (.var 3) .nil) .nil) (.cons (.var 4) .nil)) .nil)) (.not_ (.call 12 [0, 1] (.cons (.call 1 [0] (.cons (.var 3) .nil) .nil) (.cons (.call 11 [0] (.cons (.var 3) .nil) .nil) .nil)) .nil))) (.seq (.ret (.lit (.bl false)))
  .skip) .skip)
  (.seq (.ifs (.or_ (.not_ (.call 12 [0, 1] (.cons (.call 1 [0] .nil (.cons (.var 3) .nil)) (.cons (.call 11 [0] (.cons (.var 3) .nil) .nil) .nil)) .nil)) (.not_ (.call 12 [0, 1] (.cons (.call 0 [0] .nil (.cons (.var 3) .nil)) (.cons (.var 4) .nil)) .nil))) (.seq (.ret (.lit (.bl false)))
  .skip) .skip)
  (.seq (.ifs (.cmp .in_ (.var 1) (.lst (.cons (.lit (.str "set")) (.cons (.lit (.str "add")) (.cons (.lit (.str "sub")) (.cons (.lit (.str "and")) (.cons (.lit (.str "xor")) (.cons (.lit (.str "below")) .nil)))))))) (.seq (.asg (.tp 2 (.cons (.nm 6) (.cons (.nm 7) .nil))) (.tup (.cons (.call 6 [0] (.cons (.var 0) .nil) .nil) (.cons (.call 6 [0] (.cons (.var 0) .nil) .nil) .nil))))
  (.seq (.ifs (.and_ (.cmp .ne (.var 1) (.lit (.str "set"))) (.cmp .eq (.idx (.var 3) (.lit (.int 2))) (.idx (.var 3) (.lit (.int 3))))) (.seq (.asg (.nm 7) (.var 6))
  .skip) .skip)
  (.seq (.ifs (.cmp .eq (.var 1) (.lit (.str "set"))) (.seq (.asg (.tp 2 (.cons (.nm 8) (.cons (.nm 9) .nil))) (.tup (.cons (.idx (.var 3) (.lit (.int 2))) (.cons (.tup .nil) .nil))))
  .skip) (.seq (.asg (.tp 2 (.cons (.nm 8) (.cons (.nm 9) .nil))) (.tup (.cons (.call 9 [0, 1, 2] (.cons (.var 1) (.cons (.var 6) (.cons (.var 7) .nil))) .nil) (.cons (.tup (.cons (.var 6) (.cons (.var 7) .nil))) .nil))))
  .skip))
  (.seq (.ifs (.or_ (.not_ (.call 12 [0, 1] (.cons (.call 3 [0, 1] (.cons (.var 3) (.cons (.var 9) .nil)) .nil) (.cons (.var 8) .nil)) .nil)) (.not_ (.call 12 [0, 1] (.cons (.call 3 [1, 0] .nil (.cons (.var 9) (.cons (.var 3) .nil))) (.cons (.var 8) .nil)) .nil))) (.seq (.ret (.lit (.bl false)))
  .skip) .skip)
  .skip)))) .skip)
  (.seq (.asg (.tp 3 (.cons (.nm 10) (.cons (.nm 11) (.cons (.nm 12) .nil)))) (.tup (.cons (.bin .add (.lit (.int 1)) (.call 5 [0, 1] (.cons (.var 0) (.cons (.lit (.int 32)) .nil)) .nil)) (.cons (.call 6 [0] (.cons (.var 0) .nil) .nil) (.cons (.call 6 [0] (.cons (.var 0) .nil) .nil) .nil)))))
  (.seq (.asg (.nm 8) (.bin .sub (.bin .add (.var 11) (.var 12)) (.bin .mul (.var 10) (.bin .fdiv (.bi .int (.cons (.bin .add (.var 11) (.var 12)) .nil)) (.var 10)))))
  (.seq (.ifs (.not_ (.call 12 [0, 1] (.cons (.call 2 [0, 1, 2] (.cons (.var 10) (.cons (.var 11) (.cons (.var 12) .nil))) .nil) (.cons (.var 8) .nil)) .nil)) (.seq (.ret (.lit (.bl false)))
  .skip) .skip)
  (.seq (.ifs (.or_ (.not_ (.call 12 [0, 1] (.cons (.call 2 [1, 2, 0] .nil (.cons (.var 11) (.cons (.var 10) (.cons (.var 12) .nil)))) (.cons (.var 8) .nil)) .nil)) (.not_ (.call 12 [0, 1] (.cons (.call 2 [0, 1, 2] (.cons (.lit (.int 1)) (.cons (.var 11) (.cons (.var 12) .nil))) .nil) (.cons (.lit (.int 0)) .nil)) .nil))) (.seq (.ret (.lit (.bl false)))
  .skip) .skip)
  (.seq (.ret (.and_ (.call 12 [0, 1] (.cons (.call 0 [0] (.cons (.var 3) .nil) .nil) (.cons (.var 4) .nil)) .nil) (.cmp .eq (.bi .repr (.cons (.var 3) .nil)) (.var 5))))
  .skip)))))))))))
def b_14 : St := (.seq (.asg (.nm 1) (.lst (.cons (.lit (.str "set")) (.cons (.lit (.str "add")) (.cons (.lit (.str "sub")) (.cons (.lit (.str "and")) (.cons (.lit (.str "xor")) (.cons (.lit (.str "below")) (.cons (.lit (.str "load")) (.cons (.lit (.str "store")) (.cons (.lit (.str "swap")) (.cons (.lit (.str "addto")) (.cons (.lit (.str "fence")) (.cons (.lit (.str "ifzero")) (.cons (.lit (.str "jump")) .nil)))))))))))))))
  (.seq (.for_ (.irng (.cons (.bi .max (.cons (.lit (.int 1)) (.cons (.bi .min (.cons (.lit (.int 12)) (.cons (.bi .len (.cons (.var 0) .nil)) .nil))) .nil))) .nil)) (.nm 2) (.seq (.asg (.nm 3) (.call 4 [0, 1] (.cons (.var 0) (.cons (.var 2) .nil)) .nil))
  (.seq (.for_ (.itv (.bin .add (.var 1) (.lst (.cons (.lit (.str "gap")) (.cons (.lit (.str "stop")) .nil))))) (.nm 4) (.seq (.ifs (.not_ (.call 13 [0, 1] (.cons (.var 3) (.cons (.var 4) .nil)) .nil)) (.seq (.ret (.lit (.bl false)))
  .skip) .skip)
  .skip))
  .skip)))
  (.seq (.ret (.lit (.bl true)))
  .skip)))
def fsK01 : Nat → Option (Nat × Nat × St)
  | 0 => some (1, 2, b_0)
  | 1 => some (1, 1, b_1)
  | 2 => some (3, 3, b_2)
  | 3 => some (2, 5, b_3)
  | 4 => some (2, 5, b_4)
  | 5 => some (2, 4, b_5)
  | 6 => some (1, 2, b_6)
  | 7 => some (4, 9, b_7)
  | 8 => some (3, 6, b_8)
  | 9 => some (3, 3, b_9)
  | 10 => some (1, 1, b_10)
  | 11 => some (1, 1, b_11)
  | 12 => some (2, 2, b_12)
  | 13 => some (2, 13, b_13)
  | 14 => some (1, 5, b_14)
  | _ => none
def glK01 : Nat → D
  | 0 => (.tup [(.str "set"), (.str "add"), (.str "sub"), (.str "and"), (.str "xor"), (.str "below"), (.str "load"), (.str "swap"), (.str "addto")])
  | _ => .non
def kdK01 : Nat → List (Str × D)
  | 0 => [("add", (.tup [(.int 2), (.int 3)])), ("sub", (.tup [(.int 2), (.int 3)])), ("and", (.tup [(.int 2), (.int 3)])), ("xor", (.tup [(.int 2), (.int 3)])), ("below", (.tup [(.int 2), (.int 3)])), ("load", (.tup [(.int 2)])), ("store", (.tup [(.int 1), (.int 2)])), ("swap", (.tup [(.int 2), (.int 3)])), ("addto", (.tup [(.int 2), (.int 3)])), ("ifzero", (.tup [(.int 1)]))]
  | _ => []
def prK01 : Pr := ⟨fsK01, glK01, kdK01⟩
end Tm

set_option Elab.async false
set_option linter.all false
set_option maxRecDepth 100000
namespace Tm
open PySem L2
/-! ## and and xor, bit by bit -/
def bs (t : Nat) : Nat → Nat → Nat → Nat
  | 0, _, _ => 0
  | n + 1, x, y => (if x % 2 + y % 2 = t then 1 else 0) + 2 * bs t n (x / 2) (y / 2)
theorem and_mod2 (x y : Nat) : (x &&& y) % 2 = (x % 2) * (y % 2) := by
  have h := Nat.and_mod_two_pow (a := x) (b := y) (n := 1)
  simp only [Nat.pow_one] at h
  rw [h]
  have hx : x % 2 = 0 ∨ x % 2 = 1 := by omega
  have hy : y % 2 = 0 ∨ y % 2 = 1 := by omega
  rcases hx with hx | hx <;> rcases hy with hy | hy <;> rw [hx, hy] <;> rfl
theorem or_mod2 (x y : Nat) : (x ||| y) % 2 + (x % 2) * (y % 2) = x % 2 + y % 2 := by
  have h := Nat.or_mod_two_pow (a := x) (b := y) (n := 1)
  simp only [Nat.pow_one] at h
  rw [h]
  have hx : x % 2 = 0 ∨ x % 2 = 1 := by omega
  have hy : y % 2 = 0 ∨ y % 2 = 1 := by omega
  rcases hx with hx | hx <;> rcases hy with hy | hy <;> rw [hx, hy] <;> rfl
theorem bs_and : ∀ (n x y : Nat), x < 2 ^ n → y < 2 ^ n → bs 2 n x y = x &&& y
  | 0, x, y, hx, hy => by
    have : x = 0 := by omega
    subst this; simp [bs]
  | n + 1, x, y, hx, hy => by
    have e := bs_and n (x / 2) (y / 2) (by rw [Nat.pow_succ] at hx; omega) (by rw [Nat.pow_succ] at hy; omega)
    have d := Nat.and_div_two (a := x) (b := y)
    have m := and_mod2 x y
    have hx : x % 2 = 0 ∨ x % 2 = 1 := by omega
    have hy : y % 2 = 0 ∨ y % 2 = 1 := by omega
    simp only [bs, e]
    rcases hx with hx | hx <;> rcases hy with hy | hy <;> rw [hx, hy] at m ⊢ <;> simp <;> omega
theorem bs_xor : ∀ (n x y : Nat), x < 2 ^ n → y < 2 ^ n → bs 1 n x y + (x &&& y) = x ||| y
  | 0, x, y, hx, hy => by
    have : x = 0 := by omega
    have : y = 0 := by omega
    subst x; subst y; simp [bs]
  | n + 1, x, y, hx, hy => by
    have e := bs_xor n (x / 2) (y / 2) (by rw [Nat.pow_succ] at hx; omega) (by rw [Nat.pow_succ] at hy; omega)
    have d := Nat.and_div_two (a := x) (b := y)
    have d' := Nat.or_div_two (a := x) (b := y)
    have m := and_mod2 x y
    have m' := or_mod2 x y
    have hx : x % 2 = 0 ∨ x % 2 = 1 := by omega
    have hy : y % 2 = 0 ∨ y % 2 = 1 := by omega
    rw [← d, ← d'] at e
    simp only [bs]
    generalize bs 1 n (x / 2) (y / 2) = B at e ⊢
    generalize (x &&& y) = A at e m m' ⊢
    generalize (x ||| y) = O at e m m' ⊢
    clear d d'
    rcases hx with hx | hx <;> rcases hy with hy | hy <;> rw [hx, hy] at m m' ⊢ <;> simp at m m' ⊢ <;> omega
theorem bitAnd_nat (x y : Nat) : Builtin.bitAnd (x : Int) (y : Int) = ((x &&& y : Nat) : Int) := by
  unfold Builtin.bitAnd
  rw [decide_eq_true (show (0 : Int) ≤ x by omega), decide_eq_true (show (0 : Int) ≤ y by omega)]
  rfl
theorem bitOr_nat (x y : Nat) : Builtin.bitOr (x : Int) (y : Int) = ((x ||| y : Nat) : Int) := by
  unfold Builtin.bitOr Builtin.bitAnd Builtin.bitNot
  rw [decide_eq_false (show ¬ (0 : Int) ≤ -(x : Int) - 1 by omega), decide_eq_false (show ¬ (0 : Int) ≤ -(y : Int) - 1 by omega)]
  simp only
  have h1 : (-(-(x : Int) - 1) - 1).toNat = x := by omega
  have h2 : (-(-(y : Int) - 1) - 1).toNat = y := by omega
  rw [h1, h2]; omega
theorem bitXor_nat (x y : Nat) (hx : x < 2 ^ 16) (hy : y < 2 ^ 16) : Builtin.bitXor (x : Int) (y : Int) = ((bs 1 16 x y : Nat) : Int) := by
  unfold Builtin.bitXor
  rw [bitAnd_nat, bitOr_nat, ← bs_xor 16 x y hx hy]; omega
end Tm

set_option Elab.async false
set_option linter.all false
set_option maxRecDepth 100000
set_option maxHeartbeats 4000000
namespace Tm
open PySem L2
theorem o_band {i j : Int} {S : Store} : binop .band (.int i) (.int j) S = some (.int (Builtin.bitAnd i j), S) := rfl
theorem o_bxor {i j : Int} {S : Store} : binop .bxor (.int i) (.int j) S = some (.int (Builtin.bitXor i j), S) := rfl
theorem forL_nx {bod : Env' → Store → Option (Fl × Env' × Store)} {t : Tg} {cks ds : List D} {d : D} {e e1 e2 : Env'} {S S2 : Store} {w : Fl × Env' × Store}
    (hc : chks S cks = true) (hb : bindT t d S e = some e1) (h : bod e1 S = some (.nx, e2, S2)) (r : forL bod t cks ds e2 S2 = some w) : forL bod t cks (d :: ds) e S = some w := by
  simp only [forL, hc, hb, h, if_true, Option.bind_some]; exact r
theorem forL_nil {bod : Env' → Store → Option (Fl × Env' × Store)} {t : Tg} {cks : List D} {e : Env'} {S : Store} (hc : chks S cks = true) : forL bod t cks [] e S = some (.nx, e, S) := by
  simp only [forL, hc, if_true]
inductive LcAll (cnd elt : Env' → Store → Option (D × Store)) (t : Tg) (w : Env') : List D → List D → Prop
  | nil : LcAll cnd elt t w [] []
  | cons {d y : D} {ds ys : List D} {e1 : Env'} (hb : ∀ S, bindT t d S w = some e1) (hc : ∀ S, cnd e1 S = some (.bl true, S)) (he : ∀ S, elt e1 S = some (y, S)) (r : LcAll cnd elt t w ds ys) : LcAll cnd elt t w (d :: ds) (y :: ys)
theorem lc_pure {cnd elt : Env' → Store → Option (D × Store)} {t : Tg} {w : Env'} {n : Nat} {ds ys : List D} (h : LcAll cnd elt t w ds ys) : ∀ {S : Store} {acc : List D}, S[n]? = some (.lst acc) → acc.length + ys.length ≤ sizeLine →
    lcL cnd elt t [] w n ds S = some (S.set n (.lst (acc ++ ys))) := by
  induction h with
  | nil =>
    intro S acc hS hl
    obtain ⟨hn, hv⟩ := List.getElem?_eq_some_iff.mp hS
    have : S.set n (.lst acc) = S := by rw [← hv]; exact List.set_getElem_self hn
    simp only [lcL, chks, if_true, List.append_nil, this]
  | cons hb hc he r ih =>
    intro S acc hS hl
    simp only [List.length_cons] at hl
    have hp : ∀ z, push n z S = some (S.set n (.lst (acc ++ [z]))) := by
      intro z; simp only [push, hS]; rw [if_pos (by omega)]
    simp only [lcL, chks, if_true, hb S, hc S, he S, Option.bind_some, hp]
    rw [ih (set_get hS) (by simp; omega)]
    simp
theorem er_lcp {q : Pr} {W k : Nat} {i a b : C} {t : Tg} {own : List Nat} {e : Env'} {S S1 : Store} {ds ys : List D} (h1 : ev (pm q W k) i e S = some (itD ds [], S1))
    (h2 : LcAll (ev (pm q W k) b) (ev (pm q W k) a) t (wipeE e own) ds ys) (h3 : ys.length ≤ sizeLine) : ev (pm q W k) (.lc i t b a own) e S = some (.ref S1.length, S1 ++ [.lst ys]) := by
  refine er_lc h1 ?_
  rw [lc_pure h2 (g_last) (by simpa using h3)]
  congr 1
  rw [List.nil_append, List.set_append_right _ _ (Nat.le_refl _)]
  simp
local macro_rules | `(tactic| walk_at "sm") => `(tactic| first | assumption | (unfold Sm; first | omega | decide))
local macro_rules | `(tactic| walk_at "in") => `(tactic| first | assumption | omega | decide)
local macro_rules | `(tactic| walk_at "lst") => `(tactic| first | assumption | exact l_last | exact l_lst (by assumption) | exact l_ro (by assumption) | exact l_lst (set_get (by assumption)))
local macro_rules | `(tactic| walk_at "op") => `(tactic| first
  | with_reducible exact o_add
  | with_reducible exact o_sub
  | with_reducible exact o_band
  | with_reducible exact o_bxor
  | with_reducible exact o_band
  | with_reducible exact o_bxor
  | ((with_reducible refine' o_mod ?h); (case h => walk_at "in"))
  | ((with_reducible refine' o_div ?h ?g); (case h => walk_at "in"); (case g => walk_at "sm"))
  | ((with_reducible refine' o_mul ?h ?g); (case h => walk_at "sm"); (case g => walk_at "sm"))
  | ((with_reducible refine' o_pow ?h ?g); (case h => walk_at "in"); (case g => decide)))
local macro_rules | `(tactic| walk_at "cmp") => `(tactic| first
  | ((with_reducible refine' c_eq_t ?h); (case h => walk_at "in"))
  | ((with_reducible refine' c_lt_t ?h); (case h => walk_at "in"))
  | ((with_reducible refine' c_gt_t ?h); (case h => walk_at "in"))
  | ((with_reducible refine' c_ne_t ?h); (case h => walk_at "in"))
  | ((with_reducible refine' c_le_t ?h); (case h => walk_at "in"))
  | ((with_reducible refine' c_ge_t ?h); (case h => walk_at "in"))
  | ((with_reducible refine' c_eq_f ?h); (case h => walk_at "in"))
  | ((with_reducible refine' c_lt_f ?h); (case h => walk_at "in"))
  | ((with_reducible refine' c_gt_f ?h); (case h => walk_at "in"))
  | ((with_reducible refine' c_ne_f ?h); (case h => walk_at "in"))
  | ((with_reducible refine' c_le_f ?h); (case h => walk_at "in"))
  | ((with_reducible refine' c_ge_f ?h); (case h => walk_at "in"))
  | ((with_reducible refine' c_str_t ?h); (case h => with_reducible exact rfl))
  | ((with_reducible refine' c_str_f ?h); (case h => decide))
  | ((with_reducible refine' c_strn_f ?h); (case h => with_reducible exact rfl))
  | ((with_reducible refine' c_strn_t ?h); (case h => decide))
  | ((with_reducible refine' c_in (t := true) ?h ?g ?f ?e); (case h => walk_at "lst"); (case g => exact rfl); (case f => exact rfl); (case e => decide))
  | ((with_reducible refine' c_in (t := false) ?h ?g ?f ?e); (case h => walk_at "lst"); (case g => exact rfl); (case f => exact rfl); (case e => decide))
  | ((with_reducible refine' c_inT (t := true) ?g ?f ?e); (case g => exact rfl); (case f => exact rfl); (case e => decide))
  | ((with_reducible refine' c_inT (t := false) ?g ?f ?e); (case g => exact rfl); (case f => exact rfl); (case e => decide)))
local macro_rules | `(tactic| walk_at "bi") => `(tactic| first | with_reducible exact b_int | with_reducible exact b_bool | with_reducible exact b_abs | with_reducible exact b_max | with_reducible exact b_min | with_reducible exact b_lenT | ((with_reducible refine' b_lenL ?h); (case h => walk_at "lst")))
local macro_rules | `(tactic| walk_at "call") => `(tactic| first | assumption | apply_assumption)
local macro_rules | `(tactic| walk_at "ev") => `(tactic| first
  | (exact er_nil)
  | ((with_reducible refine' er_lit ?h); (case h => exact rfl))
  | ((with_reducible refine' er_var ?h); (case h => exact rfl))
  | ((with_reducible refine' er_cons ?h1 ?h2); (case h1 => walk_at "ev"); (case h2 => walk_at "ev"))
  | ((with_reducible refine' er_tup ?h1 ?h2); (case h1 => walk_at "ev"); (case h2 => exact Nat.le_of_ble_eq_true rfl))
  | ((with_reducible refine' er_lst ?h1 ?h2); (case h1 => walk_at "ev"); (case h2 => exact Nat.le_of_ble_eq_true rfl))
  | ((with_reducible refine' er_bin ?h1 ?h2 ?h3); (case h1 => walk_at "ev"); (case h2 => walk_at "ev"); (case h3 => walk_at "op"))
  | ((with_reducible refine' er_idx ?h1 ?h2 ?h3); (case h1 => walk_at "ev"); (case h2 => walk_at "ev"); (case h3 => first | exact i_tup (by first | assumption | rfl) | exact i_lst (by walk_at "lst") (by first | assumption | rfl)))
  | ((with_reducible refine' er_call ?h1 ?h2 ?h3 ?h4); (case h1 => walk_at "ev"); (case h2 => walk_at "ev"); (case h3 => exact rfl); (case h4 => walk_at "call"))
  | ((with_reducible refine' er_bi ?h1 ?h2); (case h1 => walk_at "ev"); (case h2 => walk_at "bi"))
  | ((with_reducible refine' er_cmp ?h1 ?h2 ?h3); (case h1 => walk_at "ev"); (case h2 => walk_at "ev"); (case h3 => walk_at "cmp"))
  | ((with_reducible refine' er_nots ?h1 ?h2); (case h1 => walk_at "ev"); (case h2 => first | exact Neg.t | exact Neg.f))
  | ((with_reducible refine' er_ors ?h1 ?h2); (case h1 => walk_at "ev"); (case h2 => first | exact ors_t | ((with_reducible refine' ors_f ?h3); (case h3 => walk_at "ev"))))
  | ((with_reducible refine' er_ands ?h1 ?h2); (case h1 => walk_at "ev"); (case h2 => first | exact ands_f | ((with_reducible refine' ands_t ?h3); (case h3 => walk_at "ev"))))
  | ((with_reducible refine' er_br ?h1 ?h2); (case h1 => walk_at "ev"); (case h2 => first | ((with_reducible refine' bre_t ?h3); (case h3 => walk_at "ev")) | ((with_reducible refine' bre_f ?h3); (case h3 => walk_at "ev")))))
local macro_rules | `(tactic| walk_at "ex") => `(tactic| first
  | (exact es_skip)
  | ((with_reducible refine' es_sq ?h1 ?h2); (case h1 => walk_at "ex"); (case h2 => first | exact nxt_rt | exact nxt_bk | exact nxt_ct | ((with_reducible refine' nxt_nx ?h3); (case h3 => walk_at "ex"))))
  | ((with_reducible refine' es_ret ?h1); (case h1 => walk_at "ev"))
  | ((with_reducible refine' es_asg ?h1 ?h2); (case h1 => walk_at "ev"); (case h2 => exact rfl))
  | ((with_reducible refine' es_seti ?h1 ?h2 ?h3 ?h4); (case h1 => walk_at "ev"); (case h2 => walk_at "ev"); (case h3 => walk_at "ev"); (case h4 => exact s_set (by first | assumption | exact set_get (by assumption)) rfl))
  | ((with_reducible refine' es_drop ?h1); (case h1 => walk_at "ev"))
  | ((with_reducible refine' es_br ?h1 ?h2); (case h1 => walk_at "ev"); (case h2 => first | ((with_reducible refine' brs_t ?h3); (case h3 => walk_at "ex")) | ((with_reducible refine' brs_f ?h3); (case h3 => walk_at "ex")))))

/-! ## the sums -/
def bsI (t : Int) : Nat → Int → Int → Int
  | 0, _, _ => 0
  | n + 1, x, y => (if x % 2 + y % 2 = t then 1 else 0) + 2 * bsI t n (x / 2) (y / 2)
theorem bsI_nat (t : Nat) : ∀ (n x y : Nat), bsI t n x y = (bs t n x y : Int)
  | 0, _, _ => rfl
  | n + 1, x, y => by
    have hx : (x : Int) / 2 = ((x / 2 : Nat) : Int) := by omega
    have hy : (y : Int) / 2 = ((y / 2 : Nat) : Int) := by omega
    simp only [bsI, bs, hx, hy, bsI_nat t n]
    split <;> split <;> omega
def b_8b : St := (.seq (.ifs (.cmp .eq (.bin .add (.bin .mod (.bi .int (.cons (.var 0) .nil)) (.lit (.int 2))) (.bin .mod (.bi .int (.cons (.var 1) .nil)) (.lit (.int 2)))) (.var 2)) (.seq (.asg (.nm 3) (.bin .add (.var 3) (.var 4)))
  .skip) .skip)
  (.seq (.asg (.tp 3 (.cons (.nm 0) (.cons (.nm 1) (.cons (.nm 4) .nil)))) (.tup (.cons (.bin .fdiv (.var 0) (.lit (.int 2))) (.cons (.bin .fdiv (.var 1) (.lit (.int 2))) (.cons (.bin .mul (.lit (.int 2)) (.var 4)) .nil)))))
  .skip))
theorem bits_loop {q : Pr} (W k : Nat) (S : Store) (t : Int) : ∀ (ds : List D) (x y acc pow : Int) (e5 : Option D), 0 ≤ pow → pow * 2 ^ ds.length < 2 ^ 100 →
    ∃ e', forL (ex (pm q W k) b_8b) (.nm 5) [] ds [some (.int x), some (.int y), some (.int t), some (.int acc), some (.int pow), e5] S = some (.nx, e', S) ∧ e'[3]? = some (some (.int (acc + pow * bsI t ds.length x y)))
  | [], x, y, acc, pow, e5, h0, h => ⟨_, forL_nil rfl, by simp [bsI]⟩
  | d :: ds, x, y, acc, pow, e5, h0, h => by
    have hz : pow * 2 ^ ds.length * 2 < 2 ^ 100 := by
      rw [List.length_cons, Int.pow_succ, ← Int.mul_assoc] at h; exact h
    have h2 : 2 * pow * 2 ^ ds.length < 2 ^ 100 := by
      rw [Int.mul_comm 2 pow, Int.mul_assoc, Int.mul_comm 2, ← Int.mul_assoc]; exact hz
    have hp : pow < 2 ^ 100 := by
      have : (1 : Int) ≤ 2 ^ ds.length := Int.pow_pos (by decide)
      have := Int.mul_le_mul_of_nonneg_left this h0
      omega
    have hs : Sm pow := by unfold Sm; omega
    by_cases hc : x % 2 + y % 2 = t
    · obtain ⟨e', he, hv⟩ := bits_loop W k S t ds (x / 2) (y / 2) (acc + pow) (2 * pow) (some d) (by omega) h2
      refine ⟨e', forL_nx rfl rfl ?_ he, ?_⟩
      · unfold b_8b; walk_at "ex"
      · rw [hv, List.length_cons, bsI, if_pos hc, Int.mul_add, Int.mul_one, ← Int.mul_assoc, Int.mul_comm pow 2, Int.add_assoc]
    · obtain ⟨e', he, hv⟩ := bits_loop W k S t ds (x / 2) (y / 2) acc (2 * pow) (some d) (by omega) h2
      refine ⟨e', forL_nx rfl rfl ?_ he, ?_⟩
      · unfold b_8b; walk_at "ex"
      · rw [hv, List.length_cons, bsI, if_neg hc, Int.mul_add, Int.mul_zero, ← Int.mul_assoc, Int.mul_comm pow 2, Int.zero_add]
theorem bits_run (W k : Nat) (S : Store) (x y t : Nat) : run prK01 W (k + 1) 8 [.int x, .int y, .int t] S = some (.int (bs t 16 x y), S) := by
  obtain ⟨e', he, hv⟩ := bits_loop (q := prK01) W k S t (rng 0 16) x y 0 1 none (by decide) (by decide)
  rw [show (rng 0 16).length = 16 from rfl, bsI_nat, Int.one_mul, Int.zero_add] at hv
  refine' run_rt (b := b_8) rfl rfl rfl ?h
  case h =>
    unfold b_8
    refine' es_nx ?a1 ?a2
    case a1 => walk_at "ex"
    case a2 =>
    refine' es_nx ?b1 ?b2
    case b1 => exact es_for (er_irng (er_cons (er_lit rfl) er_nil) rfl) he
    case b2 => exact es_rt (es_ret (er_var hv))
end Tm

set_option Elab.async false
set_option linter.all false
set_option maxRecDepth 100000
set_option maxHeartbeats 4000000
namespace Tm
open PySem L2
local macro_rules | `(tactic| walk_at "sm") => `(tactic| first | assumption | (unfold Sm; first | omega | decide))
local macro_rules | `(tactic| walk_at "in") => `(tactic| first | assumption | omega | decide)
local macro_rules | `(tactic| walk_at "lst") => `(tactic| first | assumption | exact l_last | exact l_lst (by assumption) | exact l_ro (by assumption) | exact l_lst (set_get (by assumption)))
local macro_rules | `(tactic| walk_at "op") => `(tactic| first
  | with_reducible exact o_add
  | with_reducible exact o_sub
  | with_reducible exact o_band
  | with_reducible exact o_bxor
  | with_reducible exact o_band
  | with_reducible exact o_bxor
  | ((with_reducible refine' o_mod ?h); (case h => walk_at "in"))
  | ((with_reducible refine' o_div ?h ?g); (case h => walk_at "in"); (case g => walk_at "sm"))
  | ((with_reducible refine' o_mul ?h ?g); (case h => walk_at "sm"); (case g => walk_at "sm"))
  | ((with_reducible refine' o_pow ?h ?g); (case h => walk_at "in"); (case g => decide)))
local macro_rules | `(tactic| walk_at "cmp") => `(tactic| first
  | ((with_reducible refine' c_eq_t ?h); (case h => walk_at "in"))
  | ((with_reducible refine' c_lt_t ?h); (case h => walk_at "in"))
  | ((with_reducible refine' c_gt_t ?h); (case h => walk_at "in"))
  | ((with_reducible refine' c_ne_t ?h); (case h => walk_at "in"))
  | ((with_reducible refine' c_le_t ?h); (case h => walk_at "in"))
  | ((with_reducible refine' c_ge_t ?h); (case h => walk_at "in"))
  | ((with_reducible refine' c_eq_f ?h); (case h => walk_at "in"))
  | ((with_reducible refine' c_lt_f ?h); (case h => walk_at "in"))
  | ((with_reducible refine' c_gt_f ?h); (case h => walk_at "in"))
  | ((with_reducible refine' c_ne_f ?h); (case h => walk_at "in"))
  | ((with_reducible refine' c_le_f ?h); (case h => walk_at "in"))
  | ((with_reducible refine' c_ge_f ?h); (case h => walk_at "in"))
  | ((with_reducible refine' c_str_t ?h); (case h => with_reducible exact rfl))
  | ((with_reducible refine' c_str_f ?h); (case h => decide))
  | ((with_reducible refine' c_strn_f ?h); (case h => with_reducible exact rfl))
  | ((with_reducible refine' c_strn_t ?h); (case h => decide))
  | ((with_reducible refine' c_in (t := true) ?h ?g ?f ?e); (case h => walk_at "lst"); (case g => exact rfl); (case f => exact rfl); (case e => decide))
  | ((with_reducible refine' c_in (t := false) ?h ?g ?f ?e); (case h => walk_at "lst"); (case g => exact rfl); (case f => exact rfl); (case e => decide))
  | ((with_reducible refine' c_inT (t := true) ?g ?f ?e); (case g => exact rfl); (case f => exact rfl); (case e => decide))
  | ((with_reducible refine' c_inT (t := false) ?g ?f ?e); (case g => exact rfl); (case f => exact rfl); (case e => decide)))
local macro_rules | `(tactic| walk_at "bi") => `(tactic| first | with_reducible exact b_int | with_reducible exact b_bool | with_reducible exact b_abs | with_reducible exact b_max | with_reducible exact b_min | with_reducible exact b_lenT | ((with_reducible refine' b_lenL ?h); (case h => walk_at "lst")))
local macro_rules | `(tactic| walk_at "call") => `(tactic| first | assumption | apply_assumption)
local macro_rules | `(tactic| walk_at "ev") => `(tactic| first
  | (exact er_nil)
  | ((with_reducible refine' er_lit ?h); (case h => exact rfl))
  | ((with_reducible refine' er_var ?h); (case h => exact rfl))
  | ((with_reducible refine' er_cons ?h1 ?h2); (case h1 => walk_at "ev"); (case h2 => walk_at "ev"))
  | ((with_reducible refine' er_tup ?h1 ?h2); (case h1 => walk_at "ev"); (case h2 => exact Nat.le_of_ble_eq_true rfl))
  | ((with_reducible refine' er_lst ?h1 ?h2); (case h1 => walk_at "ev"); (case h2 => exact Nat.le_of_ble_eq_true rfl))
  | ((with_reducible refine' er_bin ?h1 ?h2 ?h3); (case h1 => walk_at "ev"); (case h2 => walk_at "ev"); (case h3 => walk_at "op"))
  | ((with_reducible refine' er_idx ?h1 ?h2 ?h3); (case h1 => walk_at "ev"); (case h2 => walk_at "ev"); (case h3 => first | exact i_tup (by first | assumption | rfl) | exact i_lst (by walk_at "lst") (by first | assumption | rfl)))
  | ((with_reducible refine' er_call ?h1 ?h2 ?h3 ?h4); (case h1 => walk_at "ev"); (case h2 => walk_at "ev"); (case h3 => exact rfl); (case h4 => walk_at "call"))
  | ((with_reducible refine' er_bi ?h1 ?h2); (case h1 => walk_at "ev"); (case h2 => walk_at "bi"))
  | ((with_reducible refine' er_cmp ?h1 ?h2 ?h3); (case h1 => walk_at "ev"); (case h2 => walk_at "ev"); (case h3 => walk_at "cmp"))
  | ((with_reducible refine' er_nots ?h1 ?h2); (case h1 => walk_at "ev"); (case h2 => first | exact Neg.t | exact Neg.f))
  | ((with_reducible refine' er_ors ?h1 ?h2); (case h1 => walk_at "ev"); (case h2 => first | exact ors_t | ((with_reducible refine' ors_f ?h3); (case h3 => walk_at "ev"))))
  | ((with_reducible refine' er_ands ?h1 ?h2); (case h1 => walk_at "ev"); (case h2 => first | exact ands_f | ((with_reducible refine' ands_t ?h3); (case h3 => walk_at "ev"))))
  | ((with_reducible refine' er_br ?h1 ?h2); (case h1 => walk_at "ev"); (case h2 => first | ((with_reducible refine' bre_t ?h3); (case h3 => walk_at "ev")) | ((with_reducible refine' bre_f ?h3); (case h3 => walk_at "ev")))))
local macro_rules | `(tactic| walk_at "ex") => `(tactic| first
  | (exact es_skip)
  | ((with_reducible refine' es_sq ?h1 ?h2); (case h1 => walk_at "ex"); (case h2 => first | exact nxt_rt | exact nxt_bk | exact nxt_ct | ((with_reducible refine' nxt_nx ?h3); (case h3 => walk_at "ex"))))
  | ((with_reducible refine' es_ret ?h1); (case h1 => walk_at "ev"))
  | ((with_reducible refine' es_asg ?h1 ?h2); (case h1 => walk_at "ev"); (case h2 => exact rfl))
  | ((with_reducible refine' es_seti ?h1 ?h2 ?h3 ?h4); (case h1 => walk_at "ev"); (case h2 => walk_at "ev"); (case h3 => walk_at "ev"); (case h4 => exact s_set (by first | assumption | exact set_get (by assumption)) rfl))
  | ((with_reducible refine' es_drop ?h1); (case h1 => walk_at "ev"))
  | ((with_reducible refine' es_br ?h1 ?h2); (case h1 => walk_at "ev"); (case h2 => first | ((with_reducible refine' brs_t ?h3); (case h3 => walk_at "ex")) | ((with_reducible refine' brs_f ?h3); (case h3 => walk_at "ex")))))


def sumOf (nm : Str) (x y : Int) : Int :=
  if nm = "add" then (x + y) % 65536 else if nm = "sub" then (x - y) % 65536 else if nm = "and" then Builtin.bitAnd x y else if nm = "xor" then Builtin.bitXor x y
  else if x < y then 1 else 0
abbrev sms : List Str := ["add", "sub", "and", "xor", "below"]
theorem sum_le {nm : Str} (hm : nm ∈ sms) {x y : Int} (hx : 0 ≤ x ∧ x < 65536) (hy : 0 ≤ y ∧ y < 65536) : (sumOf nm x y).natAbs < 10 ^ 12 := by
  obtain ⟨x, rfl⟩ := Int.eq_ofNat_of_zero_le hx.1
  obtain ⟨y, rfl⟩ := Int.eq_ofNat_of_zero_le hy.1
  simp only [sms, List.mem_cons, List.not_mem_nil, or_false] at hm
  rcases hm with rfl | rfl | rfl | rfl | rfl
  · show ((x + y : Int) % 65536).natAbs < _; omega
  · show ((x - y : Int) % 65536).natAbs < _; omega
  · show (Builtin.bitAnd x y).natAbs < _
    rw [bitAnd_nat]
    have := Nat.and_le_left (n := x) (m := y)
    omega
  · show (Builtin.bitXor x y).natAbs < _
    rw [show Builtin.bitXor x y = Builtin.bitOr x y - Builtin.bitAnd x y from rfl, bitAnd_nat, bitOr_nat]
    have h1 := Nat.and_le_left (n := x) (m := y)
    have h2 : x ||| y < 2 ^ 16 := Nat.or_lt_two_pow (by omega) (by omega)
    omega
  · show (if (x : Int) < y then (1 : Int) else 0).natAbs < _
    split <;> decide
theorem result_run {nm : Str} (hm : nm ∈ sms) (W k : Nat) (S : Store) (a b c x y : Int) : run prK01 W (k + 1) 3 [.tup [.str nm, .int a, .int b, .int c], .tup [.int x, .int y]] S = some (.int (sumOf nm x y), S) := by
  simp only [sms, List.mem_cons, List.not_mem_nil, or_false] at hm
  rcases hm with rfl | rfl | rfl | rfl | rfl
  · refine' run_rt (b := b_3) rfl rfl rfl ?h; (case h => unfold b_3; walk_at "ex")
  · refine' run_rt (b := b_3) rfl rfl rfl ?h; (case h => unfold b_3; walk_at "ex")
  · refine' run_rt (b := b_3) rfl rfl rfl ?h; (case h => unfold b_3; walk_at "ex")
  · refine' run_rt (b := b_3) rfl rfl rfl ?h; (case h => unfold b_3; walk_at "ex")
  · by_cases h : x < y
    · rw [show sumOf "below" x y = 1 from if_pos h]
      refine' run_rt (b := b_3) rfl rfl rfl ?h; (case h => unfold b_3; walk_at "ex")
    · rw [show sumOf "below" x y = 0 from if_neg h]
      refine' run_rt (b := b_3) rfl rfl rfl ?h; (case h => unfold b_3; walk_at "ex")
theorem set_run (W k : Nat) (S : Store) (a w : Int) : run prK01 W (k + 1) 3 [.tup [.str "set", .int a, .int w], .tup []] S = some (.int w, S) := by
  refine' run_rt (b := b_3) rfl rfl rfl ?h; (case h => unfold b_3; walk_at "ex")
theorem sum_run {nm : Str} (hm : nm ∈ sms) (W k : Nat) (S : Store) {x y : Int} (hx : 0 ≤ x ∧ x < 65536) (hy : 0 ≤ y ∧ y < 65536) : run prK01 W (k + 2) 9 [.str nm, .int x, .int y] S = some (.int (sumOf nm x y), S) := by
  have hx0 := hx.1; have hx1 := hx.2; have hy0 := hy.1; have hy1 := hy.2
  simp only [sms, List.mem_cons, List.not_mem_nil, or_false] at hm
  rcases hm with rfl | rfl | rfl | rfl | rfl
  · by_cases h : x + y > 65535
    · rw [show sumOf "add" x y = x + y - 65536 * 1 from (show (x + y) % 65536 = _ by omega)]
      refine' run_rt (b := b_9) rfl rfl rfl ?h; (case h => unfold b_9; walk_at "ex")
    · rw [show sumOf "add" x y = x + y - 65536 * 0 from (show (x + y) % 65536 = _ by omega)]
      refine' run_rt (b := b_9) rfl rfl rfl ?h; (case h => unfold b_9; walk_at "ex")
  · by_cases h : x < y
    · rw [show sumOf "sub" x y = x - y + 65536 * 1 from (show (x - y) % 65536 = _ by omega)]
      refine' run_rt (b := b_9) rfl rfl rfl ?h; (case h => unfold b_9; walk_at "ex")
    · rw [show sumOf "sub" x y = x - y + 65536 * 0 from (show (x - y) % 65536 = _ by omega)]
      refine' run_rt (b := b_9) rfl rfl rfl ?h; (case h => unfold b_9; walk_at "ex")
  · obtain ⟨x, rfl⟩ := Int.eq_ofNat_of_zero_le hx0
    obtain ⟨y, rfl⟩ := Int.eq_ofNat_of_zero_le hy0
    have e : run prK01 W (k + 1) 8 [.int x, .int y, .int (1 + 1)] S = some (.int (sumOf "and" x y), S) := by
      rw [show sumOf "and" (x : Int) y = ((bs 2 16 x y : Nat) : Int) from by
        show Builtin.bitAnd (x : Int) y = _
        rw [bitAnd_nat, bs_and 16 x y (by omega) (by omega)]]
      exact bits_run W k S x y 2
    refine' run_rt (b := b_9) rfl rfl rfl ?h; (case h => unfold b_9; walk_at "ex")
  · obtain ⟨x, rfl⟩ := Int.eq_ofNat_of_zero_le hx0
    obtain ⟨y, rfl⟩ := Int.eq_ofNat_of_zero_le hy0
    have e : run prK01 W (k + 1) 8 [.int x, .int y, .int (1 + 0)] S = some (.int (sumOf "xor" x y), S) := by
      rw [show sumOf "xor" (x : Int) y = ((bs 1 16 x y : Nat) : Int) from bitXor_nat x y (by omega) (by omega)]
      exact bits_run W k S x y 1
    refine' run_rt (b := b_9) rfl rfl rfl ?h; (case h => unfold b_9; walk_at "ex")
  · by_cases h : x < y
    · rw [show sumOf "below" x y = 1 from if_pos h]
      refine' run_rt (b := b_9) rfl rfl rfl ?h; (case h => unfold b_9; walk_at "ex")
    · rw [show sumOf "below" x y = 0 from if_neg h]
      refine' run_rt (b := b_9) rfl rfl rfl ?h; (case h => unfold b_9; walk_at "ex")
theorem like_run (W k : Nat) (S : Store) {d : D} (h : Nice d) : run prK01 W (k + 1) 12 [d, d] S = some (.bl true, S) := by
  obtain ⟨z, hz⟩ := h.rp
  have he := h.eq
  refine' run_rt (b := b_12) rfl rfl rfl ?h
  case h =>
    unfold b_12
    refine' es_rt ?a1
    case a1 =>
    refine' es_ret ?b1
    case b1 =>
    refine' er_and_t ?c1 ?c2
    case c1 => exact er_cmp (er_var rfl) (er_var rfl) (he S)
    case c2 => exact er_cmp (er_bi (er_cons (er_var rfl) er_nil) (hz S)) (er_bi (er_cons (er_var rfl) er_nil) (hz S)) (c_str_t rfl)
theorem cell_run (W k : Nat) (S : Store) {n x y : Int} (h : 0 < n) : run prK01 W (k + 1) 2 [.int n, .int x, .int y] S = some (.int ((x + y) % n), S) := by
  refine' run_rt (b := b_2) rfl rfl rfl ?h; (case h => unfold b_2; walk_at "ex")
end Tm

set_option Elab.async false
set_option linter.all false
set_option maxRecDepth 100000
set_option maxHeartbeats 4000000
namespace Tm
open PySem L2
theorem gl0 {W k : Nat} {e : Env'} {S : Store} : ev (pm prK01 W k) (.glob 0) e S = some (.tup [(.str "set"), (.str "add"), (.str "sub"), (.str "and"), (.str "xor"), (.str "below"), (.str "load"), (.str "swap"), (.str "addto")], S) := rfl
theorem b_tupL {n : Nat} {xs : List D} {S : Store} (h : listAt S n = some xs) : biop .tuple [.ref n] S = some (.tup xs, S) := by
  show (listAt S n).map _ = _
  rw [h]; rfl
local macro_rules | `(tactic| walk_at "sm") => `(tactic| first | assumption | (unfold Sm; first | omega | decide))
local macro_rules | `(tactic| walk_at "in") => `(tactic| first | assumption | omega | decide)
local macro_rules | `(tactic| walk_at "lst") => `(tactic| first | assumption | exact l_last | exact l_lst (by assumption) | exact l_ro (by assumption) | exact l_lst (set_get (by assumption)))
local macro_rules | `(tactic| walk_at "op") => `(tactic| first
  | with_reducible exact o_add
  | with_reducible exact o_sub
  | with_reducible exact o_band
  | with_reducible exact o_bxor
  | with_reducible exact o_band
  | with_reducible exact o_bxor
  | ((with_reducible refine' o_mod ?h); (case h => walk_at "in"))
  | ((with_reducible refine' o_div ?h ?g); (case h => walk_at "in"); (case g => walk_at "sm"))
  | ((with_reducible refine' o_mul ?h ?g); (case h => walk_at "sm"); (case g => walk_at "sm"))
  | ((with_reducible refine' o_pow ?h ?g); (case h => walk_at "in"); (case g => decide)))
local macro_rules | `(tactic| walk_at "cmp") => `(tactic| first
  | ((with_reducible refine' c_eq_t ?h); (case h => walk_at "in"))
  | ((with_reducible refine' c_lt_t ?h); (case h => walk_at "in"))
  | ((with_reducible refine' c_gt_t ?h); (case h => walk_at "in"))
  | ((with_reducible refine' c_ne_t ?h); (case h => walk_at "in"))
  | ((with_reducible refine' c_le_t ?h); (case h => walk_at "in"))
  | ((with_reducible refine' c_ge_t ?h); (case h => walk_at "in"))
  | ((with_reducible refine' c_eq_f ?h); (case h => walk_at "in"))
  | ((with_reducible refine' c_lt_f ?h); (case h => walk_at "in"))
  | ((with_reducible refine' c_gt_f ?h); (case h => walk_at "in"))
  | ((with_reducible refine' c_ne_f ?h); (case h => walk_at "in"))
  | ((with_reducible refine' c_le_f ?h); (case h => walk_at "in"))
  | ((with_reducible refine' c_ge_f ?h); (case h => walk_at "in"))
  | ((with_reducible refine' c_str_t ?h); (case h => with_reducible exact rfl))
  | ((with_reducible refine' c_str_f ?h); (case h => decide))
  | ((with_reducible refine' c_strn_f ?h); (case h => with_reducible exact rfl))
  | ((with_reducible refine' c_strn_t ?h); (case h => decide))
  | ((with_reducible refine' c_in (t := true) ?h ?g ?f ?e); (case h => walk_at "lst"); (case g => exact rfl); (case f => exact rfl); (case e => decide))
  | ((with_reducible refine' c_in (t := false) ?h ?g ?f ?e); (case h => walk_at "lst"); (case g => exact rfl); (case f => exact rfl); (case e => decide))
  | ((with_reducible refine' c_inT (t := true) ?g ?f ?e); (case g => exact rfl); (case f => exact rfl); (case e => decide))
  | ((with_reducible refine' c_inT (t := false) ?g ?f ?e); (case g => exact rfl); (case f => exact rfl); (case e => decide)))
local macro_rules | `(tactic| walk_at "bi") => `(tactic| first | with_reducible exact b_int | with_reducible exact b_bool | with_reducible exact b_abs | with_reducible exact b_max | with_reducible exact b_min | with_reducible exact b_lenT | ((with_reducible refine' b_lenL ?h); (case h => walk_at "lst")))
local macro_rules | `(tactic| walk_at "call") => `(tactic| first | assumption | apply_assumption)
local macro_rules | `(tactic| walk_at "ev") => `(tactic| first
  | (exact er_nil)
  | (with_reducible exact gl0)
  | ((with_reducible refine' er_lit ?h); (case h => exact rfl))
  | ((with_reducible refine' er_var ?h); (case h => exact rfl))
  | ((with_reducible refine' er_cons ?h1 ?h2); (case h1 => walk_at "ev"); (case h2 => walk_at "ev"))
  | ((with_reducible refine' er_tup ?h1 ?h2); (case h1 => walk_at "ev"); (case h2 => exact Nat.le_of_ble_eq_true rfl))
  | ((with_reducible refine' er_lst ?h1 ?h2); (case h1 => walk_at "ev"); (case h2 => exact Nat.le_of_ble_eq_true rfl))
  | ((with_reducible refine' er_bin ?h1 ?h2 ?h3); (case h1 => walk_at "ev"); (case h2 => walk_at "ev"); (case h3 => walk_at "op"))
  | ((with_reducible refine' er_idx ?h1 ?h2 ?h3); (case h1 => walk_at "ev"); (case h2 => walk_at "ev"); (case h3 => first | exact i_tup (by first | assumption | rfl) | exact i_lst (by walk_at "lst") (by first | assumption | rfl)))
  | ((with_reducible refine' er_call ?h1 ?h2 ?h3 ?h4); (case h1 => walk_at "ev"); (case h2 => walk_at "ev"); (case h3 => exact rfl); (case h4 => walk_at "call"))
  | ((with_reducible refine' er_bi ?h1 ?h2); (case h1 => walk_at "ev"); (case h2 => walk_at "bi"))
  | ((with_reducible refine' er_cmp ?h1 ?h2 ?h3); (case h1 => walk_at "ev"); (case h2 => walk_at "ev"); (case h3 => walk_at "cmp"))
  | ((with_reducible refine' er_nots ?h1 ?h2); (case h1 => walk_at "ev"); (case h2 => first | exact Neg.t | exact Neg.f))
  | ((with_reducible refine' er_ors ?h1 ?h2); (case h1 => walk_at "ev"); (case h2 => first | exact ors_t | ((with_reducible refine' ors_f ?h3); (case h3 => walk_at "ev"))))
  | ((with_reducible refine' er_ands ?h1 ?h2); (case h1 => walk_at "ev"); (case h2 => first | exact ands_f | ((with_reducible refine' ands_t ?h3); (case h3 => walk_at "ev"))))
  | ((with_reducible refine' er_br ?h1 ?h2); (case h1 => walk_at "ev"); (case h2 => first | ((with_reducible refine' bre_t ?h3); (case h3 => walk_at "ev")) | ((with_reducible refine' bre_f ?h3); (case h3 => walk_at "ev")))))
local macro_rules | `(tactic| walk_at "ex") => `(tactic| first
  | (exact es_skip)
  | ((with_reducible refine' es_sq ?h1 ?h2); (case h1 => walk_at "ex"); (case h2 => first | exact nxt_rt | exact nxt_bk | exact nxt_ct | ((with_reducible refine' nxt_nx ?h3); (case h3 => walk_at "ex"))))
  | ((with_reducible refine' es_ret ?h1); (case h1 => walk_at "ev"))
  | ((with_reducible refine' es_asg ?h1 ?h2); (case h1 => walk_at "ev"); (case h2 => exact rfl))
  | ((with_reducible refine' es_seti ?h1 ?h2 ?h3 ?h4); (case h1 => walk_at "ev"); (case h2 => walk_at "ev"); (case h3 => walk_at "ev"); (case h4 => exact s_set (by first | assumption | exact set_get (by assumption)) rfl))
  | ((with_reducible refine' es_drop ?h1); (case h1 => walk_at "ev"))
  | ((with_reducible refine' es_br ?h1 ?h2); (case h1 => walk_at "ev"); (case h2 => first | ((with_reducible refine' brs_t ?h3); (case h3 => walk_at "ex")) | ((with_reducible refine' brs_f ?h3); (case h3 => walk_at "ex")))))


local macro_rules | `(tactic| walk_at "lc") => `(tactic| first
  | exact LcAll.nil
  | (refine' LcAll.cons (fun S => rfl) (fun S => er_lit rfl) (fun S => er_idx (er_var rfl) (er_var rfl) (i_tup rfl)) ?h; (case h => walk_at "lc")))
theorem pur_of {q : Pr} {W k f : Nat} {es : List D} {d : D} (h : ∀ S, ∃ S', run q W k f es S = some (d, S') ∧ Kp [] S S') : ∃ F : Store → Store, (∀ S, run q W k f es S = some (d, F S)) ∧ ∀ S, Kp [] S (F S) :=
  ⟨fun S => Classical.choose (h S), fun S => (Classical.choose_spec (h S)).1, fun S => (Classical.choose_spec (h S)).2⟩
def rds (nm : Str) (a b c : Int) : List D :=
  if nm = "add" ∨ nm = "sub" ∨ nm = "and" ∨ nm = "xor" ∨ nm = "below" ∨ nm = "swap" ∨ nm = "addto" then [.int b, .int c]
  else if nm = "load" then [.int b] else if nm = "store" then [.int a, .int b] else if nm = "ifzero" then [.int a] else []
def wrd (nm : Str) (a : Int) : D :=
  if nm = "store" ∨ nm = "fence" ∨ nm = "gap" ∨ nm = "ifzero" ∨ nm = "jump" ∨ nm = "stop" then .non else .int a
theorem reads_p {nm : Str} (hm : nm ∈ nms) (W k : Nat) (a b c w g : Int) : ∃ F : Store → Store, (∀ S, run prK01 W (k + 1) 0 [.tup (.str nm :: shape nm a b c w g)] S = some (.tup (rds nm a b c), F S)) ∧ ∀ S, Kp [] S (F S) := by
  refine pur_of fun S => ?_
  refine ⟨S ++ [.lst (rds nm a b c)], ?_, Kp.push⟩
  refine' run_rt (b := b_0) rfl rfl rfl ?h
  case h =>
    unfold b_0
    refine' es_rt ?a1
    case a1 =>
    refine' es_ret ?b1
    case b1 =>
    refine' er_bi ?c1 (b_tupL l_last)
    case c1 =>
    refine' er_cons ?d1 er_nil
    case d1 =>
    simp only [nms, List.mem_cons, List.not_mem_nil, or_false] at hm
    rcases hm with rfl | rfl | rfl | rfl | rfl | rfl | rfl | rfl | rfl | rfl | rfl | rfl | rfl | rfl | rfl
    all_goals
      refine' er_lcp ?e1 ?e2 ?e3
      case e1 => exact er_itv (er_kgetd (er_idx (er_var rfl) (er_lit rfl) (i_tup rfl)) (er_tup er_nil (Nat.le_of_ble_eq_true rfl)) rfl) rfl
      case e2 => walk_at "lc"
      case e3 => exact Nat.le_of_ble_eq_true rfl
theorem writes_p {nm : Str} (hm : nm ∈ nms) (W k : Nat) (a b c w g : Int) : ∃ F : Store → Store, (∀ S, run prK01 W (k + 1) 1 [.tup (.str nm :: shape nm a b c w g)] S = some (wrd nm a, F S)) ∧ ∀ S, Kp [] S (F S) := by
  refine pur_of fun S => ?_
  refine ⟨S, ?_, Kp.refl _ _⟩
  simp only [nms, List.mem_cons, List.not_mem_nil, or_false] at hm
  rcases hm with rfl | rfl | rfl | rfl | rfl | rfl | rfl | rfl | rfl | rfl | rfl | rfl | rfl | rfl | rfl
  all_goals
    refine' run_rt (b := b_1) rfl rfl rfl ?h; (case h => unfold b_1; walk_at "ex")
theorem read_p {nm : Str} (hm : nm ∈ nms) (W k : Nat) (a b c w g : Int) : ∃ F : Store → Store, (∀ S, run prK01 W (k + 1) 10 [.tup (.str nm :: shape nm a b c w g)] S = some (.tup (rds nm a b c), F S)) ∧ ∀ S, Kp [] S (F S) := by
  refine pur_of fun S => ?_
  simp only [nms, List.mem_cons, List.not_mem_nil, or_false] at hm
  rcases hm with rfl | rfl | rfl | rfl | rfl | rfl | rfl | rfl | rfl | rfl | rfl | rfl | rfl | rfl | rfl
  all_goals
    refine' ⟨_, ?h, ?k⟩
    case h => refine' run_rt (b := b_10) rfl rfl rfl ?h; (case h => unfold b_10; walk_at "ex")
    case k => repeat (first | exact Kp.refl _ _ | refine Kp.trans ?_ Kp.push)
theorem written_p {nm : Str} (hm : nm ∈ nms) (W k : Nat) (a b c w g : Int) : ∃ F : Store → Store, (∀ S, run prK01 W (k + 1) 11 [.tup (.str nm :: shape nm a b c w g)] S = some (wrd nm a, F S)) ∧ ∀ S, Kp [] S (F S) := by
  refine pur_of fun S => ?_
  simp only [nms, List.mem_cons, List.not_mem_nil, or_false] at hm
  rcases hm with rfl | rfl | rfl | rfl | rfl | rfl | rfl | rfl | rfl | rfl | rfl | rfl | rfl | rfl | rfl
  all_goals
    refine' ⟨_, ?h, ?k⟩
    case h => refine' run_rt (b := b_11) rfl rfl rfl ?h; (case h => unfold b_11; walk_at "ex")
    case k => repeat (first | exact Kp.refl _ _ | refine Kp.trans ?_ Kp.push)
theorem rds_nice {nm : Str} {a b c : Int} (ha : a.natAbs < 1000) (hb : b.natAbs < 1000) (hc : c.natAbs < 1000) : Nice (.tup (rds nm a b c)) := by
  have h : ∀ d ∈ rds nm a b c, Flat1 d := by
    intro d hd
    have : d = .int a ∨ d = .int b ∨ d = .int c := by
      unfold rds at hd
      repeat' split at hd
      all_goals simp at hd
      all_goals grind
    rcases this with rfl | rfl | rfl <;> exact Flat1.int (by omega)
  refine Nice.tup h ?_
  unfold rds
  repeat' split
  all_goals simp
theorem wrd_nice {nm : Str} {a : Int} (ha : a.natAbs < 1000) : Nice (wrd nm a) := by
  unfold wrd; split
  · exact Nice.non
  · exact Nice.int (by omega)
theorem ins_nice {nm : Str} (hm : nm ∈ nms) {a b c w g : Int} (ha : a.natAbs < 1000) (hb : b.natAbs < 1000) (hc : c.natAbs < 1000) (hw : w.natAbs < 100000) (hg : g.natAbs < 1000) : Nice (.tup (.str nm :: shape nm a b c w g)) := by
  have h : ∀ d ∈ (D.str nm :: shape nm a b c w g), Flat1 d := by
    intro d hd
    have : d = .str nm ∨ d = .int a ∨ d = .int b ∨ d = .int c ∨ d = .int w ∨ d = .int g := by
      rw [List.mem_cons] at hd
      rcases hd with hd | hd
      · exact Or.inl hd
      · unfold shape at hd
        repeat' split at hd
        all_goals simp at hd
        all_goals grind
    rcases this with rfl | rfl | rfl | rfl | rfl | rfl
    · simp only [nms, List.mem_cons, List.not_mem_nil, or_false] at hm
      rcases hm with rfl | rfl | rfl | rfl | rfl | rfl | rfl | rfl | rfl | rfl | rfl | rfl | rfl | rfl | rfl <;> exact Flat1.str (by decide +kernel) (by decide +kernel)
    all_goals exact Flat1.int (by omega)
  refine Nice.tup h ?_
  unfold shape
  repeat' split
  all_goals simp
end Tm

set_option Elab.async false
set_option linter.all false
set_option maxRecDepth 100000
set_option maxHeartbeats 4000000
namespace Tm
open PySem L2
section
variable {a b c d : D}
theorem pk1 : pick [0] ([a] ++ []) = [a] := rfl
theorem pk2 : pick [0, 1] ([a, b] ++ []) = [a, b] := rfl
theorem pk3 : pick [0, 1, 2] ([a, b, c] ++ []) = [a, b, c] := rfl
theorem pk4 : pick [0, 1, 2, 3] ([a, b, c, d] ++ []) = [a, b, c, d] := rfl
theorem pn1 : pick [0] ([] ++ [a]) = [a] := rfl
theorem pn2 : pick [1, 0] ([] ++ [a, b]) = [b, a] := rfl
theorem es_skip2 {q : Pr} {W k : Nat} {e e' : Env'} {S S' : Store} (h1 : e = e') (h2 : S = S') : ex (pm q W k) .skip e S = some (.nx, e', S') := by subst h1 h2; rfl
theorem pn3 : pick [1, 2, 0] ([] ++ [a, b, c]) = [b, c, a] := rfl
end
local macro_rules | `(tactic| walk_at "sm") => `(tactic| first | assumption | (unfold Sm; first | omega | decide))
local macro_rules | `(tactic| walk_at "in") => `(tactic| first | assumption | omega | decide)
local macro_rules | `(tactic| walk_at "lst") => `(tactic| first | assumption | exact l_last | exact l_lst (by assumption) | exact l_ro (by assumption) | exact l_lst (set_get (by assumption)))
local macro_rules | `(tactic| walk_at "op") => `(tactic| first
  | with_reducible exact o_add
  | with_reducible exact o_sub
  | with_reducible exact o_band
  | with_reducible exact o_bxor
  | with_reducible exact o_band
  | with_reducible exact o_bxor
  | ((with_reducible refine' o_mod ?h); (case h => walk_at "in"))
  | ((with_reducible refine' o_div ?h ?g); (case h => walk_at "in"); (case g => walk_at "sm"))
  | ((with_reducible refine' o_mul ?h ?g); (case h => walk_at "sm"); (case g => walk_at "sm"))
  | ((with_reducible refine' o_pow ?h ?g); (case h => walk_at "in"); (case g => decide)))
local macro_rules | `(tactic| walk_at "cmp") => `(tactic| first
  | ((with_reducible refine' c_eq_t ?h); (case h => walk_at "in"))
  | ((with_reducible refine' c_lt_t ?h); (case h => walk_at "in"))
  | ((with_reducible refine' c_gt_t ?h); (case h => walk_at "in"))
  | ((with_reducible refine' c_ne_t ?h); (case h => walk_at "in"))
  | ((with_reducible refine' c_le_t ?h); (case h => walk_at "in"))
  | ((with_reducible refine' c_ge_t ?h); (case h => walk_at "in"))
  | ((with_reducible refine' c_eq_f ?h); (case h => walk_at "in"))
  | ((with_reducible refine' c_lt_f ?h); (case h => walk_at "in"))
  | ((with_reducible refine' c_gt_f ?h); (case h => walk_at "in"))
  | ((with_reducible refine' c_ne_f ?h); (case h => walk_at "in"))
  | ((with_reducible refine' c_le_f ?h); (case h => walk_at "in"))
  | ((with_reducible refine' c_ge_f ?h); (case h => walk_at "in"))
  | ((with_reducible refine' c_str_t ?h); (case h => with_reducible exact rfl))
  | ((with_reducible refine' c_str_f ?h); (case h => first | assumption | decide))
  | ((with_reducible refine' c_strn_f ?h); (case h => with_reducible exact rfl))
  | ((with_reducible refine' c_strn_t ?h); (case h => first | assumption | decide))
  | ((with_reducible refine' c_in (t := true) ?h ?g ?f ?e); (case h => walk_at "lst"); (case g => exact rfl); (case f => exact rfl); (case e => first | assumption | decide))
  | ((with_reducible refine' c_in (t := false) ?h ?g ?f ?e); (case h => walk_at "lst"); (case g => exact rfl); (case f => exact rfl); (case e => first | assumption | decide))
  | ((with_reducible refine' c_inT (t := true) ?g ?f ?e); (case g => exact rfl); (case f => exact rfl); (case e => first | assumption | decide))
  | ((with_reducible refine' c_inT (t := false) ?g ?f ?e); (case g => exact rfl); (case f => exact rfl); (case e => first | assumption | decide)))
local macro_rules | `(tactic| walk_at "bi") => `(tactic| first | with_reducible exact b_int | with_reducible exact b_bool | with_reducible exact b_abs | with_reducible exact b_max | with_reducible exact b_min | with_reducible exact b_lenT | ((with_reducible refine' b_lenL ?h); (case h => walk_at "lst")) | with_reducible apply_assumption)
local macro_rules | `(tactic| walk_at "pick") => `(tactic| first | with_reducible exact pk1 | with_reducible exact pk2 | with_reducible exact pk3 | with_reducible exact pk4 | with_reducible exact pn1 | with_reducible exact pn2 | with_reducible exact pn3)
local macro_rules | `(tactic| walk_at "call") => `(tactic| first | with_reducible assumption | with_reducible apply_assumption)
local macro_rules | `(tactic| walk_at "ev") => `(tactic| first
  | (with_reducible exact er_nil)
  | (with_reducible exact gl0)
  | ((with_reducible refine' er_lit ?h); (case h => exact rfl))
  | ((with_reducible refine' er_var ?h); (case h => exact rfl))
  | ((with_reducible refine' er_cons ?h1 ?h2); (case h1 => walk_at "ev"); (case h2 => walk_at "ev"))
  | ((with_reducible refine' er_tup ?h1 ?h2); (case h1 => walk_at "ev"); (case h2 => exact Nat.le_of_ble_eq_true rfl))
  | ((with_reducible refine' er_lst ?h1 ?h2); (case h1 => walk_at "ev"); (case h2 => exact Nat.le_of_ble_eq_true rfl))
  | ((with_reducible refine' er_bin ?h1 ?h2 ?h3); (case h1 => walk_at "ev"); (case h2 => walk_at "ev"); (case h3 => walk_at "op"))
  | ((with_reducible refine' er_idx ?h1 ?h2 ?h3); (case h1 => walk_at "ev"); (case h2 => walk_at "ev"); (case h3 => first | exact i_tup (by first | assumption | rfl) | exact i_lst (by walk_at "lst") (by first | assumption | rfl)))
  | ((with_reducible refine' er_call ?h1 ?h2 ?h3 ?h4); (case h1 => walk_at "ev"); (case h2 => walk_at "ev"); (case h3 => walk_at "pick"); (case h4 => walk_at "call"))
  | ((with_reducible refine' er_bi ?h1 ?h2); (case h1 => walk_at "ev"); (case h2 => walk_at "bi"))
  | ((with_reducible refine' er_cmp ?h1 ?h2 ?h3); (case h1 => walk_at "ev"); (case h2 => walk_at "ev"); (case h3 => walk_at "cmp"))
  | ((with_reducible refine' er_nots ?h1 ?h2); (case h1 => walk_at "ev"); (case h2 => first | exact Neg.t | exact Neg.f))
  | ((with_reducible refine' er_ors ?h1 ?h2); (case h1 => walk_at "ev"); (case h2 => first | exact ors_t | ((with_reducible refine' ors_f ?h3); (case h3 => walk_at "ev"))))
  | ((with_reducible refine' er_ands ?h1 ?h2); (case h1 => walk_at "ev"); (case h2 => first | exact ands_f | ((with_reducible refine' ands_t ?h3); (case h3 => walk_at "ev"))))
  | ((with_reducible refine' er_br ?h1 ?h2); (case h1 => walk_at "ev"); (case h2 => first | ((with_reducible refine' bre_t ?h3); (case h3 => walk_at "ev")) | ((with_reducible refine' bre_f ?h3); (case h3 => walk_at "ev")))))
local macro_rules | `(tactic| walk_at "ex") => `(tactic| first
  | ((with_reducible refine' es_skip2 ?h1 ?h2); (case h1 => exact rfl); (case h2 => exact rfl))
  | ((with_reducible refine' es_sq ?h1 ?h2); (case h1 => walk_at "ex"); (case h2 => first | exact nxt_rt | exact nxt_bk | exact nxt_ct | ((with_reducible refine' nxt_nx ?h3); (case h3 => walk_at "ex"))))
  | ((with_reducible refine' es_ret ?h1); (case h1 => walk_at "ev"))
  | ((with_reducible refine' es_asg ?h1 ?h2); (case h1 => walk_at "ev"); (case h2 => exact rfl))
  | ((with_reducible refine' es_seti ?h1 ?h2 ?h3 ?h4); (case h1 => walk_at "ev"); (case h2 => walk_at "ev"); (case h3 => walk_at "ev"); (case h4 => exact s_set (by first | assumption | exact set_get (by assumption)) rfl))
  | ((with_reducible refine' es_drop ?h1); (case h1 => walk_at "ev"))
  | ((with_reducible refine' es_br ?h1 ?h2); (case h1 => walk_at "ev"); (case h2 => first | ((with_reducible refine' brs_t ?h3); (case h3 => walk_at "ex")) | ((with_reducible refine' brs_f ?h3); (case h3 => walk_at "ex")))))

def r_1 : St := (.asg (.nm 2) (.idx (.lst (.cons (.lit (.int 8)) (.cons (.lit (.int 2)) .nil))) (.call 5 [0, 1] (.cons (.var 0) (.cons (.lit (.int 2)) .nil)) .nil)))
def r_2 : St := (.asg (.nm 3) (.call 7 [0, 1, 2, 3] (.cons (.var 0) (.cons (.var 1) (.cons (.var 2) (.cons (.lit (.int 40)) .nil)))) .nil))
def r_3 : St := (.asg (.tp 2 (.cons (.nm 4) (.cons (.nm 5) .nil))) (.tup (.cons (.call 10 [0] (.cons (.var 3) .nil) .nil) (.cons (.bi .repr (.cons (.var 3) .nil)) .nil))))
def r_4 : St := (.ifs (.or_ (.not_ (.call 12 [0, 1] (.cons (.call 0 [0] (.cons (.var 3) .nil) .nil) (.cons (.var 4) .nil)) .nil)) (.not_ (.call 12 [0, 1] (.cons (.call 1 [0] (.cons (.var 3) .nil) .nil) (.cons (.call 11 [0] (.cons (.var 3) .nil) .nil) .nil)) .nil))) (.seq (.ret (.lit (.bl false)))
  .skip) .skip)
def r_5 : St := (.ifs (.or_ (.not_ (.call 12 [0, 1] (.cons (.call 1 [0] .nil (.cons (.var 3) .nil)) (.cons (.call 11 [0] (.cons (.var 3) .nil) .nil) .nil)) .nil)) (.not_ (.call 12 [0, 1] (.cons (.call 0 [0] .nil (.cons (.var 3) .nil)) (.cons (.var 4) .nil)) .nil))) (.seq (.ret (.lit (.bl false)))
  .skip) .skip)
def r_6 : St := (.ifs (.cmp .in_ (.var 1) (.lst (.cons (.lit (.str "set")) (.cons (.lit (.str "add")) (.cons (.lit (.str "sub")) (.cons (.lit (.str "and")) (.cons (.lit (.str "xor")) (.cons (.lit (.str "below")) .nil)))))))) (.seq (.asg (.tp 2 (.cons (.nm 6) (.cons (.nm 7) .nil))) (.tup (.cons (.call 6 [0] (.cons (.var 0) .nil) .nil) (.cons (.call 6 [0] (.cons (.var 0) .nil) .nil) .nil))))
  (.seq (.ifs (.and_ (.cmp .ne (.var 1) (.lit (.str "set"))) (.cmp .eq (.idx (.var 3) (.lit (.int 2))) (.idx (.var 3) (.lit (.int 3))))) (.seq (.asg (.nm 7) (.var 6))
  .skip) .skip)
  (.seq (.ifs (.cmp .eq (.var 1) (.lit (.str "set"))) (.seq (.asg (.tp 2 (.cons (.nm 8) (.cons (.nm 9) .nil))) (.tup (.cons (.idx (.var 3) (.lit (.int 2))) (.cons (.tup .nil) .nil))))
  .skip) (.seq (.asg (.tp 2 (.cons (.nm 8) (.cons (.nm 9) .nil))) (.tup (.cons (.call 9 [0, 1, 2] (.cons (.var 1) (.cons (.var 6) (.cons (.var 7) .nil))) .nil) (.cons (.tup (.cons (.var 6) (.cons (.var 7) .nil))) .nil))))
  .skip))
  (.seq (.ifs (.or_ (.not_ (.call 12 [0, 1] (.cons (.call 3 [0, 1] (.cons (.var 3) (.cons (.var 9) .nil)) .nil) (.cons (.var 8) .nil)) .nil)) (.not_ (.call 12 [0, 1] (.cons (.call 3 [1, 0] .nil (.cons (.var 9) (.cons (.var 3) .nil))) (.cons (.var 8) .nil)) .nil))) (.seq (.ret (.lit (.bl false)))
  .skip) .skip)
  .skip)))) .skip)
def r_7 : St := (.asg (.tp 3 (.cons (.nm 10) (.cons (.nm 11) (.cons (.nm 12) .nil)))) (.tup (.cons (.bin .add (.lit (.int 1)) (.call 5 [0, 1] (.cons (.var 0) (.cons (.lit (.int 32)) .nil)) .nil)) (.cons (.call 6 [0] (.cons (.var 0) .nil) .nil) (.cons (.call 6 [0] (.cons (.var 0) .nil) .nil) .nil)))))
def r_8 : St := (.asg (.nm 8) (.bin .sub (.bin .add (.var 11) (.var 12)) (.bin .mul (.var 10) (.bin .fdiv (.bi .int (.cons (.bin .add (.var 11) (.var 12)) .nil)) (.var 10)))))
def r_9 : St := (.ifs (.not_ (.call 12 [0, 1] (.cons (.call 2 [0, 1, 2] (.cons (.var 10) (.cons (.var 11) (.cons (.var 12) .nil))) .nil) (.cons (.var 8) .nil)) .nil)) (.seq (.ret (.lit (.bl false)))
  .skip) .skip)
def r_10 : St := (.ifs (.or_ (.not_ (.call 12 [0, 1] (.cons (.call 2 [1, 2, 0] .nil (.cons (.var 11) (.cons (.var 10) (.cons (.var 12) .nil)))) (.cons (.var 8) .nil)) .nil)) (.not_ (.call 12 [0, 1] (.cons (.call 2 [0, 1, 2] (.cons (.lit (.int 1)) (.cons (.var 11) (.cons (.var 12) .nil))) .nil) (.cons (.lit (.int 0)) .nil)) .nil))) (.seq (.ret (.lit (.bl false)))
  .skip) .skip)
def r_11 : St := (.ret (.and_ (.call 12 [0, 1] (.cons (.call 0 [0] (.cons (.var 3) .nil) .nil) (.cons (.var 4) .nil)) .nil) (.cmp .eq (.bi .repr (.cons (.var 3) .nil)) (.var 5))))
theorem b13_eq : b_13 = (.seq r_1 (.seq r_2 (.seq r_3 (.seq r_4 (.seq r_5 (.seq r_6 (.seq r_7 (.seq r_8 (.seq r_9 (.seq r_10 (.seq r_11 .skip))))))))))) := rfl

theorem Kp.nil {S S' : Store} {A : List Nat} (h : Kp [] S S') : Kp A S S' := h.more (by simp)
theorem Spr.kp0 {S S' : Store} {a : Nat} {c : Int} (h : Spr S a c) (k : Kp [] S S') : Spr S' a c := h.kp k (by simp)
theorem pick2 (x y r : Int) (h0 : 0 ≤ r) (h3 : r < 2) : ∃ t, atI [D.int x, D.int y] r = some (D.int t) ∧ (t = x ∨ t = y) := by
  have : r = 0 ∨ r = 1 := by omega
  rcases this with rfl | rfl
  · exact ⟨x, rfl, Or.inl rfl⟩
  · exact ⟨y, rfl, Or.inr rfl⟩
/-- the part that asks the sums -/
theorem six_run {W j : Nat} {S : Store} {a : Nat} {c few : Int} {nm : Str} (hm : nm ∈ nms) {i1 i2 i3 w g : Int} {rd z : D} (h : Spr S a c) (hc : c + 40 < 10 ^ 12) (hw : 0 ≤ w ∧ w < 65536) :
    ∃ x6 x7 x8 x9 S', ex (pm prK01 W (j + 3)) r_6 [some (.ref a), some (.str nm), some (.int few), some (.tup (.str nm :: shape nm i1 i2 i3 w g)), some rd, some z, none, none, none, none, none, none, none] S
        = some (.nx, [some (.ref a), some (.str nm), some (.int few), some (.tup (.str nm :: shape nm i1 i2 i3 w g)), some rd, some z, x6, x7, x8, x9, none, none, none], S')
      ∧ Spr S' a (c + 4) ∧ Kp [a] S S' := by
  obtain ⟨x, S1, p1, l1, u1, s1, k1⟩ := word_spec (q := prK01) rfl rfl (W := W) (j + 1) (h.push (o := .lst [.str "set", .str "add", .str "sub", .str "and", .str "xor", .str "below"])) (by omega)
  obtain ⟨y, S2, p2, l2, u2, s2, k2⟩ := word_spec (q := prK01) rfl rfl (W := W) (j + 1) s1 (by omega)
  have Z : Spr S2 a (c + 4) := s2.le (by omega)
  have K : Kp [a] S S2 := Kp.push.trans (k1.trans k2)
  have six : ∀ nm', nm' ∈ sms → nm = nm' → ∃ x6 x7 x8 x9 S', ex (pm prK01 W (j + 3)) r_6 [some (.ref a), some (.str nm'), some (.int few), some (.tup [.str nm', .int i1, .int i2, .int i3]), some rd, some z, none, none, none, none, none, none, none] S
        = some (.nx, [some (.ref a), some (.str nm'), some (.int few), some (.tup [.str nm', .int i1, .int i2, .int i3]), some rd, some z, x6, x7, x8, x9, none, none, none], S')
      ∧ Spr S' a (c + 4) ∧ Kp [a] S S' := by
    intro nm' hs _
    have n1 : ¬ nm' = "set" := by
      simp only [sms, List.mem_cons, List.not_mem_nil, or_false] at hs
      rcases hs with rfl | rfl | rfl | rfl | rfl <;> decide
    have n2 : ([D.str "set", .str "add", .str "sub", .str "and", .str "xor", .str "below"].any fun y => scEq y (.str nm')) = true := by
      simp only [sms, List.mem_cons, List.not_mem_nil, or_false] at hs
      rcases hs with rfl | rfl | rfl | rfl | rfl <;> decide
    by_cases he : i2 = i3
    · have q1 : ∀ S, run prK01 W (j + 3) 9 [.str nm', .int x, .int x] S = some (.int (sumOf nm' x x), S) := fun S => sum_run hs W (j + 1) S ⟨l1, u1⟩ ⟨l1, u1⟩
      have q2 : ∀ S, run prK01 W (j + 3) 3 [.tup [.str nm', .int i1, .int i2, .int i3], .tup [.int x, .int x]] S = some (.int (sumOf nm' x x), S) := fun S => result_run hs W (j + 2) S i1 i2 i3 x x
      have q3 : ∀ S, run prK01 W (j + 3) 12 [.int (sumOf nm' x x), .int (sumOf nm' x x)] S = some (.bl true, S) := fun S => like_run W (j + 2) S (Nice.int (sum_le hs ⟨l1, u1⟩ ⟨l1, u1⟩))
      generalize sumOf nm' x x = v at q1 q2 q3
      exact ⟨_, _, _, _, _, by unfold r_6; walk_at "ex", Z, K⟩
    · have q1 : ∀ S, run prK01 W (j + 3) 9 [.str nm', .int x, .int y] S = some (.int (sumOf nm' x y), S) := fun S => sum_run hs W (j + 1) S ⟨l1, u1⟩ ⟨l2, u2⟩
      have q2 : ∀ S, run prK01 W (j + 3) 3 [.tup [.str nm', .int i1, .int i2, .int i3], .tup [.int x, .int y]] S = some (.int (sumOf nm' x y), S) := fun S => result_run hs W (j + 2) S i1 i2 i3 x y
      have q3 : ∀ S, run prK01 W (j + 3) 12 [.int (sumOf nm' x y), .int (sumOf nm' x y)] S = some (.bl true, S) := fun S => like_run W (j + 2) S (Nice.int (sum_le hs ⟨l1, u1⟩ ⟨l2, u2⟩))
      generalize sumOf nm' x y = v at q1 q2 q3
      exact ⟨_, _, _, _, _, by unfold r_6; walk_at "ex", Z, K⟩
  simp only [nms, List.mem_cons, List.not_mem_nil, or_false] at hm
  rcases hm with rfl | rfl | rfl | rfl | rfl | rfl | hm
  · have q2 : ∀ S, run prK01 W (j + 3) 3 [.tup [.str "set", .int i1, .int w], .tup []] S = some (.int w, S) := fun S => set_run W (j + 2) S i1 w
    have q3 : ∀ S, run prK01 W (j + 3) 12 [.int w, .int w] S = some (.bl true, S) := fun S => like_run W (j + 2) S (Nice.int (by omega))
    refine' ⟨_, _, _, _, _, ?h, Z, K⟩
    case h =>
      rw [show shape "set" i1 i2 i3 w g = [.int i1, .int w] from rfl]
      unfold r_6; walk_at "ex"
  · exact six "add" (by decide) rfl
  · exact six "sub" (by decide) rfl
  · exact six "and" (by decide) rfl
  · exact six "xor" (by decide) rfl
  · exact six "below" (by decide) rfl
  · have n2 : ([D.str "set", .str "add", .str "sub", .str "and", .str "xor", .str "below"].any fun y => scEq y (.str nm)) = false := by
      rcases hm with rfl | rfl | rfl | rfl | rfl | rfl | rfl | rfl | rfl <;> decide
    exact ⟨none, none, none, none, S ++ [.lst [.str "set", .str "add", .str "sub", .str "and", .str "xor", .str "below"]], by unfold r_6; walk_at "ex", Spr.push (h.le (by omega)), Kp.push⟩
end Tm

set_option Elab.async false
set_option linter.all false
set_option maxRecDepth 100000
set_option maxHeartbeats 8000000
namespace Tm
open PySem L2
local macro_rules | `(tactic| walk_at "sm") => `(tactic| first | assumption | (unfold Sm; first | omega | decide))
local macro_rules | `(tactic| walk_at "in") => `(tactic| first | assumption | omega | decide)
local macro_rules | `(tactic| walk_at "lst") => `(tactic| first | assumption | exact l_last | exact l_lst (by assumption) | exact l_ro (by assumption) | exact l_lst (set_get (by assumption)))
local macro_rules | `(tactic| walk_at "op") => `(tactic| first
  | with_reducible exact o_add
  | with_reducible exact o_sub
  | with_reducible exact o_band
  | with_reducible exact o_bxor
  | with_reducible exact o_band
  | with_reducible exact o_bxor
  | ((with_reducible refine' o_mod ?h); (case h => walk_at "in"))
  | ((with_reducible refine' o_div ?h ?g); (case h => walk_at "in"); (case g => walk_at "sm"))
  | ((with_reducible refine' o_mul ?h ?g); (case h => walk_at "sm"); (case g => walk_at "sm"))
  | ((with_reducible refine' o_pow ?h ?g); (case h => walk_at "in"); (case g => decide)))
local macro_rules | `(tactic| walk_at "cmp") => `(tactic| first
  | ((with_reducible refine' c_eq_t ?h); (case h => walk_at "in"))
  | ((with_reducible refine' c_lt_t ?h); (case h => walk_at "in"))
  | ((with_reducible refine' c_gt_t ?h); (case h => walk_at "in"))
  | ((with_reducible refine' c_ne_t ?h); (case h => walk_at "in"))
  | ((with_reducible refine' c_le_t ?h); (case h => walk_at "in"))
  | ((with_reducible refine' c_ge_t ?h); (case h => walk_at "in"))
  | ((with_reducible refine' c_eq_f ?h); (case h => walk_at "in"))
  | ((with_reducible refine' c_lt_f ?h); (case h => walk_at "in"))
  | ((with_reducible refine' c_gt_f ?h); (case h => walk_at "in"))
  | ((with_reducible refine' c_ne_f ?h); (case h => walk_at "in"))
  | ((with_reducible refine' c_le_f ?h); (case h => walk_at "in"))
  | ((with_reducible refine' c_ge_f ?h); (case h => walk_at "in"))
  | ((with_reducible refine' c_str_t ?h); (case h => with_reducible exact rfl))
  | ((with_reducible refine' c_str_f ?h); (case h => first | assumption | decide))
  | ((with_reducible refine' c_strn_f ?h); (case h => with_reducible exact rfl))
  | ((with_reducible refine' c_strn_t ?h); (case h => first | assumption | decide))
  | ((with_reducible refine' c_in (t := true) ?h ?g ?f ?e); (case h => walk_at "lst"); (case g => exact rfl); (case f => exact rfl); (case e => first | assumption | decide))
  | ((with_reducible refine' c_in (t := false) ?h ?g ?f ?e); (case h => walk_at "lst"); (case g => exact rfl); (case f => exact rfl); (case e => first | assumption | decide))
  | ((with_reducible refine' c_inT (t := true) ?g ?f ?e); (case g => exact rfl); (case f => exact rfl); (case e => first | assumption | decide))
  | ((with_reducible refine' c_inT (t := false) ?g ?f ?e); (case g => exact rfl); (case f => exact rfl); (case e => first | assumption | decide)))
local macro_rules | `(tactic| walk_at "bi") => `(tactic| first | with_reducible exact b_int | with_reducible exact b_bool | with_reducible exact b_abs | with_reducible exact b_max | with_reducible exact b_min | with_reducible exact b_lenT | ((with_reducible refine' b_lenL ?h); (case h => walk_at "lst")) | with_reducible apply_assumption)
local macro_rules | `(tactic| walk_at "pick") => `(tactic| first | with_reducible exact pk1 | with_reducible exact pk2 | with_reducible exact pk3 | with_reducible exact pk4 | with_reducible exact pn1 | with_reducible exact pn2 | with_reducible exact pn3)
local macro_rules | `(tactic| walk_at "call") => `(tactic| first | with_reducible assumption | with_reducible apply_assumption)
local macro_rules | `(tactic| walk_at "ev") => `(tactic| first
  | (with_reducible exact er_nil)
  | (with_reducible exact gl0)
  | ((with_reducible refine' er_lit ?h); (case h => exact rfl))
  | ((with_reducible refine' er_var ?h); (case h => exact rfl))
  | ((with_reducible refine' er_cons ?h1 ?h2); (case h1 => walk_at "ev"); (case h2 => walk_at "ev"))
  | ((with_reducible refine' er_tup ?h1 ?h2); (case h1 => walk_at "ev"); (case h2 => exact Nat.le_of_ble_eq_true rfl))
  | ((with_reducible refine' er_lst ?h1 ?h2); (case h1 => walk_at "ev"); (case h2 => exact Nat.le_of_ble_eq_true rfl))
  | ((with_reducible refine' er_bin ?h1 ?h2 ?h3); (case h1 => walk_at "ev"); (case h2 => walk_at "ev"); (case h3 => walk_at "op"))
  | ((with_reducible refine' er_idx ?h1 ?h2 ?h3); (case h1 => walk_at "ev"); (case h2 => walk_at "ev"); (case h3 => first | exact i_tup (by first | assumption | rfl) | exact i_lst (by walk_at "lst") (by first | assumption | rfl)))
  | ((with_reducible refine' er_call ?h1 ?h2 ?h3 ?h4); (case h1 => walk_at "ev"); (case h2 => walk_at "ev"); (case h3 => walk_at "pick"); (case h4 => walk_at "call"))
  | ((with_reducible refine' er_bi ?h1 ?h2); (case h1 => walk_at "ev"); (case h2 => walk_at "bi"))
  | ((with_reducible refine' er_cmp ?h1 ?h2 ?h3); (case h1 => walk_at "ev"); (case h2 => walk_at "ev"); (case h3 => walk_at "cmp"))
  | ((with_reducible refine' er_nots ?h1 ?h2); (case h1 => walk_at "ev"); (case h2 => first | exact Neg.t | exact Neg.f))
  | ((with_reducible refine' er_ors ?h1 ?h2); (case h1 => walk_at "ev"); (case h2 => first | exact ors_t | ((with_reducible refine' ors_f ?h3); (case h3 => walk_at "ev"))))
  | ((with_reducible refine' er_ands ?h1 ?h2); (case h1 => walk_at "ev"); (case h2 => first | exact ands_f | ((with_reducible refine' ands_t ?h3); (case h3 => walk_at "ev"))))
  | ((with_reducible refine' er_br ?h1 ?h2); (case h1 => walk_at "ev"); (case h2 => first | ((with_reducible refine' bre_t ?h3); (case h3 => walk_at "ev")) | ((with_reducible refine' bre_f ?h3); (case h3 => walk_at "ev")))))
local macro_rules | `(tactic| walk_at "ex") => `(tactic| first
  | ((with_reducible refine' es_skip2 ?h1 ?h2); (case h1 => exact rfl); (case h2 => exact rfl))
  | ((with_reducible refine' es_sq ?h1 ?h2); (case h1 => walk_at "ex"); (case h2 => first | exact nxt_rt | exact nxt_bk | exact nxt_ct | ((with_reducible refine' nxt_nx ?h3); (case h3 => walk_at "ex"))))
  | ((with_reducible refine' es_ret ?h1); (case h1 => walk_at "ev"))
  | ((with_reducible refine' es_asg ?h1 ?h2); (case h1 => walk_at "ev"); (case h2 => exact rfl))
  | ((with_reducible refine' es_seti ?h1 ?h2 ?h3 ?h4); (case h1 => walk_at "ev"); (case h2 => walk_at "ev"); (case h3 => walk_at "ev"); (case h4 => exact s_set (by first | assumption | exact set_get (by assumption)) rfl))
  | ((with_reducible refine' es_drop ?h1); (case h1 => walk_at "ev"))
  | ((with_reducible refine' es_br ?h1 ?h2); (case h1 => walk_at "ev"); (case h2 => first | ((with_reducible refine' brs_t ?h3); (case h3 => walk_at "ex")) | ((with_reducible refine' brs_f ?h3); (case h3 => walk_at "ex")))))


theorem right_run {W j : Nat} {S : Store} {a : Nat} {c : Int} {nm : Str} (hm : nm ∈ nms) (h : Spr S a c) (hc : c + 80 < 10 ^ 12) :
    ∃ S', run prK01 W (j + 4) 13 [.ref a, .str nm] S = some (.bl true, S') ∧ Spr S' a (c + 40) ∧ Kp [a] S S' := by
  obtain ⟨r0, S1, p0, l0, u0, s0, k0⟩ := pick_spec (q := prK01) rfl (W := W) (j + 2) (h.push (o := .lst [.int 8, .int 2])) (by omega) (show (0 : Int) < 2 by decide) (by unfold Sm; decide)
  have hL : listAt S1 S.length = some [.int 8, .int 2] := l_lst (k0 _ _ (by have := h.lt; simp; omega) g_last)
  obtain ⟨few, hf, hf'⟩ := pick2 8 2 r0 l0 u0
  have F1 : 0 < few := by omega
  have F2 : few < 100 := by omega
  obtain ⟨i1, i2, i3, w, g, S2, p2, a1, b1, a2, b2, a3, b3, aw, bw, ag, bg, s2, k2⟩ := instr_spec (q := prK01) rfl rfl rfl (W := W) j s0 (by omega) F1 F2 (show (0 : Int) ≤ 40 by decide) (show (40 : Int) < 100 by decide) hm
  obtain ⟨F0, h0, m0⟩ := reads_p hm W (j + 2) i1 i2 i3 w g
  obtain ⟨G1, h1, m1⟩ := writes_p hm W (j + 2) i1 i2 i3 w g
  obtain ⟨G10, h10, m10⟩ := read_p hm W (j + 2) i1 i2 i3 w g
  obtain ⟨G11, h11, m11⟩ := written_p hm W (j + 2) i1 i2 i3 w g
  obtain ⟨z, hz⟩ := (ins_nice hm (a := i1) (b := i2) (c := i3) (w := w) (g := g) (by omega) (by omega) (by omega) (by omega) (by omega)).rp
  have lk1 : ∀ S, run prK01 W (j + 3) 12 [.tup (rds nm i1 i2 i3), .tup (rds nm i1 i2 i3)] S = some (.bl true, S) := fun S => like_run W (j + 2) S (rds_nice (by omega) (by omega) (by omega))
  have lk2 : ∀ S, run prK01 W (j + 3) 12 [wrd nm i1, wrd nm i1] S = some (.bl true, S) := fun S => like_run W (j + 2) S (wrd_nice (by omega))
  have p2' : run prK01 W (j + 3) 7 [.ref a, .str nm, .int few, .int 40] S1 = some (.tup (.str nm :: shape nm i1 i2 i3 w g), S2) := p2
  have A : ∃ S5, (∀ (w' : Fl × Env' × Store), ex (pm prK01 W (j + 3)) (.seq r_6 (.seq r_7 (.seq r_8 (.seq r_9 (.seq r_10 (.seq r_11 .skip)))))) [some (.ref a), some (.str nm), some (.int few), some (.tup (.str nm :: shape nm i1 i2 i3 w g)), some (.tup (rds nm i1 i2 i3)), some (.str z), none, none, none, none, none, none, none] S5 = some w' →
      ex (pm prK01 W (j + 3)) b_13 (env0 2 13 [.ref a, .str nm]) S = some w') ∧ Kp [] S2 S5 := by
    refine' ⟨_, ?hA, ?hB⟩
    case hA =>
      intro w' hw
      rw [b13_eq]
      refine' es_nx ?q1 ?q2
      case q1 => unfold r_1; walk_at "ex"
      case q2 =>
      refine' es_nx ?q3 ?q4
      case q3 => unfold r_2; walk_at "ex"
      case q4 =>
      refine' es_nx ?q5 ?q6
      case q5 => unfold r_3; walk_at "ex"
      case q6 =>
      refine' es_nx ?q7 ?q8
      case q7 => unfold r_4; walk_at "ex"
      case q8 =>
      refine' es_nx ?q9 ?q0
      case q9 => unfold r_5; walk_at "ex"
      case q0 => exact hw
    case hB =>
      exact (m10 _).trans ((m0 _).trans ((m1 _).trans ((m11 _).trans ((m1 _).trans ((m11 _).trans (m0 _))))))
  obtain ⟨S5, A5, K5⟩ := A
  obtain ⟨x6, x7, x8, x9, S6, p6, s6, k6⟩ := six_run (W := W) (j := j) hm (few := few) (i1 := i1) (i2 := i2) (i3 := i3) (w := w) (g := g) (rd := .tup (rds nm i1 i2 i3)) (z := .str z) (s2.kp0 K5) (by omega) ⟨aw, bw⟩
  obtain ⟨r, S7, p7, l7, u7, s7, k7⟩ := pick_spec (q := prK01) rfl (W := W) (j + 2) s6 (by omega) (show (0 : Int) < 32 by decide) (by unfold Sm; decide)
  obtain ⟨x, S8, p8, l8, u8, s8, k8⟩ := word_spec (q := prK01) rfl rfl (W := W) (j + 1) s7 (by omega)
  obtain ⟨y, S9, p9, l9, u9, s9, k9⟩ := word_spec (q := prK01) rfl rfl (W := W) (j + 1) s8 (by omega)
  have n0 : 0 < 1 + r := by omega
  have v0 := Int.ediv_nonneg (show 0 ≤ x + y by omega) (show 0 ≤ 1 + r by omega)
  have v1 := Int.ediv_le_self (1 + r) (show 0 ≤ x + y by omega)
  have v2 := Int.emod_nonneg (x + y) (show 1 + r ≠ 0 by omega)
  have v3 := Int.emod_lt_of_pos (x + y) n0
  have v4 : x + y - (1 + r) * ((x + y) / (1 + r)) = (x + y) % (1 + r) := (Int.emod_def _ _).symm
  have c1 : ∀ S, run prK01 W (j + 3) 2 [.int (1 + r), .int x, .int y] S = some (.int ((x + y) % (1 + r)), S) := fun S => cell_run W (j + 2) S n0
  have c2 : ∀ S, run prK01 W (j + 3) 2 [.int (1 + r), .int y, .int x] S = some (.int ((x + y) % (1 + r)), S) := fun S => by rw [Int.add_comm x y]; exact cell_run W (j + 2) S n0
  have c3 : ∀ S, run prK01 W (j + 3) 2 [.int 1, .int x, .int y] S = some (.int 0, S) := fun S => by
    have := cell_run W (j + 2) S (n := 1) (x := x) (y := y) (by decide)
    rw [Int.emod_one] at this; exact this
  have d1 : ∀ S, run prK01 W (j + 3) 12 [.int ((x + y) % (1 + r)), .int (x + y - (1 + r) * ((x + y) / (1 + r)))] S = some (.bl true, S) := fun S => by
    rw [v4]; exact like_run W (j + 2) S (Nice.int (by omega))
  have d2 : ∀ S, run prK01 W (j + 3) 12 [.int 0, .int 0] S = some (.bl true, S) := fun S => like_run W (j + 2) S (Nice.int (by decide))
  have g1 : Sm (1 + r) := by unfold Sm; omega
  have g2 : Sm ((x + y) / (1 + r)) := by unfold Sm; omega
  clear v4
  have B : ∃ e' S', ex (pm prK01 W (j + 3)) (.seq r_7 (.seq r_8 (.seq r_9 (.seq r_10 (.seq r_11 .skip))))) [some (.ref a), some (.str nm), some (.int few), some (.tup (.str nm :: shape nm i1 i2 i3 w g)), some (.tup (rds nm i1 i2 i3)), some (.str z), x6, x7, x8, x9, none, none, none] S6 = some (.rt (.bl true), e', S') ∧ Kp [] S9 S' := by
    refine' ⟨_, _, ?hA, ?hB⟩
    case hA =>
      refine' es_nx ?q1 ?q2
      case q1 => unfold r_7; walk_at "ex"
      case q2 =>
      refine' es_nx ?q3 ?q4
      case q3 => unfold r_8; walk_at "ex"
      case q4 =>
      refine' es_nx ?q5 ?q6
      case q5 => unfold r_9; walk_at "ex"
      case q6 =>
      refine' es_nx ?q7 ?q8
      case q7 => unfold r_10; walk_at "ex"
      case q8 =>
      refine' es_rt ?q9
      case q9 => unfold r_11; walk_at "ex"
    case hB => exact m0 _
  obtain ⟨e', S', B1, B2⟩ := B
  exact ⟨S', run_rt (b := b_13) rfl rfl rfl (A5 _ (es_nx p6 B1)), (s9.kp0 B2).le (by omega),
    (Kp.push.trans k0).trans (k2.trans (K5.nil.trans (k6.trans (k7.trans (k8.trans (k9.trans B2.nil))))))⟩
end Tm

set_option Elab.async false
set_option linter.all false
set_option maxRecDepth 100000
set_option maxHeartbeats 8000000
namespace Tm
open PySem L2
local macro_rules | `(tactic| walk_at "sm") => `(tactic| first | assumption | (unfold Sm; first | omega | decide))
local macro_rules | `(tactic| walk_at "in") => `(tactic| first | assumption | omega | decide)
local macro_rules | `(tactic| walk_at "lst") => `(tactic| first | assumption | exact l_last | exact l_lst (by assumption) | exact l_ro (by assumption) | exact l_lst (set_get (by assumption)))
local macro_rules | `(tactic| walk_at "op") => `(tactic| first
  | with_reducible exact o_add
  | with_reducible exact o_sub
  | with_reducible exact o_band
  | with_reducible exact o_bxor
  | with_reducible exact o_band
  | with_reducible exact o_bxor
  | ((with_reducible refine' o_mod ?h); (case h => walk_at "in"))
  | ((with_reducible refine' o_div ?h ?g); (case h => walk_at "in"); (case g => walk_at "sm"))
  | ((with_reducible refine' o_mul ?h ?g); (case h => walk_at "sm"); (case g => walk_at "sm"))
  | ((with_reducible refine' o_pow ?h ?g); (case h => walk_at "in"); (case g => decide)))
local macro_rules | `(tactic| walk_at "cmp") => `(tactic| first
  | ((with_reducible refine' c_eq_t ?h); (case h => walk_at "in"))
  | ((with_reducible refine' c_lt_t ?h); (case h => walk_at "in"))
  | ((with_reducible refine' c_gt_t ?h); (case h => walk_at "in"))
  | ((with_reducible refine' c_ne_t ?h); (case h => walk_at "in"))
  | ((with_reducible refine' c_le_t ?h); (case h => walk_at "in"))
  | ((with_reducible refine' c_ge_t ?h); (case h => walk_at "in"))
  | ((with_reducible refine' c_eq_f ?h); (case h => walk_at "in"))
  | ((with_reducible refine' c_lt_f ?h); (case h => walk_at "in"))
  | ((with_reducible refine' c_gt_f ?h); (case h => walk_at "in"))
  | ((with_reducible refine' c_ne_f ?h); (case h => walk_at "in"))
  | ((with_reducible refine' c_le_f ?h); (case h => walk_at "in"))
  | ((with_reducible refine' c_ge_f ?h); (case h => walk_at "in"))
  | ((with_reducible refine' c_str_t ?h); (case h => with_reducible exact rfl))
  | ((with_reducible refine' c_str_f ?h); (case h => first | assumption | decide))
  | ((with_reducible refine' c_strn_f ?h); (case h => with_reducible exact rfl))
  | ((with_reducible refine' c_strn_t ?h); (case h => first | assumption | decide))
  | ((with_reducible refine' c_in (t := true) ?h ?g ?f ?e); (case h => walk_at "lst"); (case g => exact rfl); (case f => exact rfl); (case e => first | assumption | decide))
  | ((with_reducible refine' c_in (t := false) ?h ?g ?f ?e); (case h => walk_at "lst"); (case g => exact rfl); (case f => exact rfl); (case e => first | assumption | decide))
  | ((with_reducible refine' c_inT (t := true) ?g ?f ?e); (case g => exact rfl); (case f => exact rfl); (case e => first | assumption | decide))
  | ((with_reducible refine' c_inT (t := false) ?g ?f ?e); (case g => exact rfl); (case f => exact rfl); (case e => first | assumption | decide)))
local macro_rules | `(tactic| walk_at "bi") => `(tactic| first | with_reducible exact b_int | with_reducible exact b_bool | with_reducible exact b_abs | with_reducible exact b_max | with_reducible exact b_min | with_reducible exact b_lenT | ((with_reducible refine' b_lenL ?h); (case h => walk_at "lst")) | with_reducible apply_assumption)
local macro_rules | `(tactic| walk_at "pick") => `(tactic| first | with_reducible exact pk1 | with_reducible exact pk2 | with_reducible exact pk3 | with_reducible exact pk4 | with_reducible exact pn1 | with_reducible exact pn2 | with_reducible exact pn3)
local macro_rules | `(tactic| walk_at "call") => `(tactic| first | with_reducible assumption | with_reducible apply_assumption)
local macro_rules | `(tactic| walk_at "ev") => `(tactic| first
  | (with_reducible exact er_nil)
  | (with_reducible exact gl0)
  | ((with_reducible refine' er_lit ?h); (case h => exact rfl))
  | ((with_reducible refine' er_var ?h); (case h => exact rfl))
  | ((with_reducible refine' er_cons ?h1 ?h2); (case h1 => walk_at "ev"); (case h2 => walk_at "ev"))
  | ((with_reducible refine' er_tup ?h1 ?h2); (case h1 => walk_at "ev"); (case h2 => exact Nat.le_of_ble_eq_true rfl))
  | ((with_reducible refine' er_lst ?h1 ?h2); (case h1 => walk_at "ev"); (case h2 => exact Nat.le_of_ble_eq_true rfl))
  | ((with_reducible refine' er_bin ?h1 ?h2 ?h3); (case h1 => walk_at "ev"); (case h2 => walk_at "ev"); (case h3 => walk_at "op"))
  | ((with_reducible refine' er_idx ?h1 ?h2 ?h3); (case h1 => walk_at "ev"); (case h2 => walk_at "ev"); (case h3 => first | exact i_tup (by first | assumption | rfl) | exact i_lst (by walk_at "lst") (by first | assumption | rfl)))
  | ((with_reducible refine' er_call ?h1 ?h2 ?h3 ?h4); (case h1 => walk_at "ev"); (case h2 => walk_at "ev"); (case h3 => walk_at "pick"); (case h4 => walk_at "call"))
  | ((with_reducible refine' er_bi ?h1 ?h2); (case h1 => walk_at "ev"); (case h2 => walk_at "bi"))
  | ((with_reducible refine' er_cmp ?h1 ?h2 ?h3); (case h1 => walk_at "ev"); (case h2 => walk_at "ev"); (case h3 => walk_at "cmp"))
  | ((with_reducible refine' er_nots ?h1 ?h2); (case h1 => walk_at "ev"); (case h2 => first | exact Neg.t | exact Neg.f))
  | ((with_reducible refine' er_ors ?h1 ?h2); (case h1 => walk_at "ev"); (case h2 => first | exact ors_t | ((with_reducible refine' ors_f ?h3); (case h3 => walk_at "ev"))))
  | ((with_reducible refine' er_ands ?h1 ?h2); (case h1 => walk_at "ev"); (case h2 => first | exact ands_f | ((with_reducible refine' ands_t ?h3); (case h3 => walk_at "ev"))))
  | ((with_reducible refine' er_br ?h1 ?h2); (case h1 => walk_at "ev"); (case h2 => first | ((with_reducible refine' bre_t ?h3); (case h3 => walk_at "ev")) | ((with_reducible refine' bre_f ?h3); (case h3 => walk_at "ev")))))
local macro_rules | `(tactic| walk_at "ex") => `(tactic| first
  | ((with_reducible refine' es_skip2 ?h1 ?h2); (case h1 => exact rfl); (case h2 => exact rfl))
  | ((with_reducible refine' es_sq ?h1 ?h2); (case h1 => walk_at "ex"); (case h2 => first | exact nxt_rt | exact nxt_bk | exact nxt_ct | ((with_reducible refine' nxt_nx ?h3); (case h3 => walk_at "ex"))))
  | ((with_reducible refine' es_ret ?h1); (case h1 => walk_at "ev"))
  | ((with_reducible refine' es_asg ?h1 ?h2); (case h1 => walk_at "ev"); (case h2 => exact rfl))
  | ((with_reducible refine' es_seti ?h1 ?h2 ?h3 ?h4); (case h1 => walk_at "ev"); (case h2 => walk_at "ev"); (case h3 => walk_at "ev"); (case h4 => exact s_set (by first | assumption | exact set_get (by assumption)) rfl))
  | ((with_reducible refine' es_drop ?h1); (case h1 => walk_at "ev"))
  | ((with_reducible refine' es_br ?h1 ?h2); (case h1 => walk_at "ev"); (case h2 => first | ((with_reducible refine' brs_t ?h3); (case h3 => walk_at "ex")) | ((with_reducible refine' brs_f ?h3); (case h3 => walk_at "ex")))))


theorem Kp.drop {S S' : Store} {a : Nat} (h : Kp [a] S S') (l : S.length ≤ a) : Kp [] S S' := fun i o _ e => by
  refine h i o ?_ e
  have := (List.getElem?_eq_some_iff.mp e).1
  simp; omega
theorem Kp.from {S S1 S' : Store} {a : Nat} (h : Kp [] S S1) (k : Kp [a] S1 S') (l : S.length ≤ a) : Kp [] S S' := fun i o n e => by
  refine k i o ?_ (h i o n e)
  have := (List.getElem?_eq_some_iff.mp e).1
  simp; omega
theorem beqs_ints : ∀ ns : List Int, D.beqs (ns.map D.int) (ns.map D.int) = true
  | [] => rfl
  | n :: ns => by
    show (decide (n = n) && D.beqs (ns.map D.int) (ns.map D.int)) = true
    rw [beqs_ints ns, decide_eq_true rfl]; rfl
def b_4l : St := (.seq (.asg (.nm 3) (.bin .mod (.bi .int (.cons (.bin .add (.bin .mul (.var 3) (.lit (.int 524287))) (.bin .mod (.bi .int (.cons (.var 4) .nil)) (.bin .add (.bin .pow (.lit (.int 10)) (.lit (.int 18))) (.lit (.int 9))))) .nil)) (.bin .sub (.bin .pow (.lit (.int 2)) (.lit (.int 61))) (.lit (.int 1)))))
  .skip)
theorem spring_loop {W k : Nat} {S : Store} {cks : List D} (hc : chks S cks = true) {v0 v1 v2 : Option D} : ∀ (ns : List Int) (m : Int) (x4 : Option D), 0 ≤ m → m < 2 ^ 61 →
    ∃ m' x4', forL (ex (pm prK01 W k) b_4l) (.nm 4) cks (ns.map D.int) [v0, v1, v2, some (.int m), x4] S = some (.nx, [v0, v1, v2, some (.int m'), x4'], S) ∧ 0 ≤ m' ∧ m' < 2 ^ 61
  | [], m, x4, h0, h1 => ⟨m, x4, forL_nil hc, h0, h1⟩
  | n :: ns, m, x4, h0, h1 => by
    have w3 : 0 < (10 : Int) ^ (18 : Int).toNat + 9 := by decide
    have w4 : 0 < (2 : Int) ^ (61 : Int).toNat - 1 := by decide
    have w5 : Sm m := by unfold Sm; omega
    have w6 := Int.emod_nonneg (m * 524287 + n % ((10 : Int) ^ (18 : Int).toNat + 9)) (show (2 : Int) ^ (61 : Int).toNat - 1 ≠ 0 by decide)
    have w7 : (m * 524287 + n % ((10 : Int) ^ (18 : Int).toNat + 9)) % ((2 : Int) ^ (61 : Int).toNat - 1) < 2 ^ 61 := Int.lt_trans (Int.emod_lt_of_pos _ w4) (by decide)
    obtain ⟨m', x4', he, k0, k1⟩ := spring_loop (W := W) (k := k) hc (v0 := v0) (v1 := v1) (v2 := v2) ns _ (some (.int n)) w6 w7
    exact ⟨m', x4', forL_nx hc rfl (by unfold b_4l; walk_at "ex") he, k0, k1⟩
theorem at_ints (ns : List Int) (i : Int) (h0 : 0 ≤ i) (h1 : i < ((ns.map D.int).length : Int)) : ∃ u, atI (ns.map D.int) i = some (.int u) := by
  have hl : i.toNat < ns.length := by simp at h1; omega
  refine ⟨ns[i.toNat], ?_⟩
  have e : ixN (ns.map D.int).length i = some i.toNat := by
    unfold ixN
    rw [if_pos h0, if_pos h1]
  unfold atI
  rw [e]
  simp [hl]
theorem spring_spec {W k : Nat} {S : Store} {ns : List Int} {i : Int} (hS : S[0]? = some (.ro (ns.map D.int))) (hi : 0 ≤ i ∧ i < 100) :
    ∃ u m, run prK01 W (k + 1) 4 [.ref 0, .int i] S = some (.ref S.length, S ++ [.lst [.int u, .int m, .int 0]]) ∧ 0 ≤ m ∧ m < 2 ^ 61 := by
  have hL : listAt S 0 = some (ns.map D.int) := l_ro hS
  have A : ∃ u, ev (pm prK01 W k) (.var 2) [some (.ref 0), some (.int i), some (.int u), none, none] S = some (.int u, S) ∧ ∀ w' (st : St), ex (pm prK01 W k) st [some (.ref 0), some (.int i), some (.int u), none, none] S = some w' →
      ex (pm prK01 W k) (.seq (.asg (.nm 2) (.bin .add (.bin .mul (.lit (.int 13)) (.var 1)) (.lit (.int 5)))) (.seq (.ifs (.cmp .lt (.var 1) (.bi .len (.cons (.var 0) .nil))) (.seq (.asg (.nm 2) (.idx (.var 0) (.var 1))) .skip) .skip) st)) (env0 2 5 [.ref 0, .int i]) S = some w' := by
    have sm1 : Sm i := by unfold Sm; omega
    by_cases h : i < ((ns.map D.int).length : Int)
    · obtain ⟨u, hu⟩ := at_ints ns i hi.1 h
      refine ⟨u, rfl, fun w' st hw => ?_⟩
      refine' es_nx ?a1 ?a2
      case a1 => walk_at "ex"
      case a2 =>
      refine' es_nx ?b1 ?b2
      case b1 => walk_at "ex"
      case b2 => exact hw
    · refine ⟨13 * i + 5, rfl, fun w' st hw => ?_⟩
      · refine' es_nx ?a1 ?a2
        case a1 => walk_at "ex"
        case a2 =>
        refine' es_nx ?b1 ?b2
        case b1 => walk_at "ex"
        case b2 => exact hw
  obtain ⟨u, _, A1⟩ := A
  have w3 : 0 < (10 : Int) ^ (9 : Int).toNat + 7 := by decide
  have w5 := Int.emod_nonneg (if u < 0 then -u else u) (show (10 : Int) ^ (9 : Int).toNat + 7 ≠ 0 by decide)
  have w6 : (if u < 0 then -u else u) % ((10 : Int) ^ (9 : Int).toNat + 7) < 10 ^ 10 := Int.lt_trans (Int.emod_lt_of_pos _ w3) (by decide)
  have sm1 : Sm i := by unfold Sm; omega
  have hc : chks S [.tup [.ref 0, .tup (ns.map D.int)]] = true := by
    simp only [chks, chk1, hL, D.beqs_refl, Bool.and_true]
  obtain ⟨m, x4, B1, B2, B3⟩ := spring_loop (W := W) (k := k) hc (v0 := some (.ref 0)) (v1 := some (.int i)) (v2 := some (.int u)) ns (977 + 3 * i + (if u < 0 then -u else u) % ((10 : Int) ^ (9 : Int).toNat + 7)) none (by omega) (by omega)
  refine' ⟨_, m, run_rt (b := b_4) rfl rfl rfl (A1 _ _ ?hh), B2, B3⟩
  case hh =>
  refine' es_nx ?a1 ?a2
  case a1 => walk_at "ex"
  case a2 =>
  refine' es_nx ?b1 ?b2
  case b1 => exact es_for (er_itv (er_var rfl) (by show (listAt S 0).map _ = _; rw [hL]; rfl)) B1
  case b2 => walk_at "ex"

abbrev n13 : List Str := ["set", "add", "sub", "and", "xor", "below", "load", "store", "swap", "addto", "fence", "ifzero", "jump"]
abbrev n15 : List Str := ["set", "add", "sub", "and", "xor", "below", "load", "store", "swap", "addto", "fence", "ifzero", "jump", "gap", "stop"]
def b_14i : St := (.seq (.ifs (.not_ (.call 13 [0, 1] (.cons (.var 3) (.cons (.var 4) .nil)) .nil)) (.seq (.ret (.lit (.bl false)))
  .skip) .skip)
  .skip)
theorem inner_loop {W j m a : Nat} {v0 v1 v2 : Option D} (hma : m ≠ a) (L : List D) : ∀ (ds : List Str) (S : Store) (c : Int) (x4 : Option D), (∀ d ∈ ds, d ∈ nms) → Spr S a c → c + 40 * ds.length + 100 < 10 ^ 12 → S[m]? = some (.lst L) →
    ∃ x4' S', forL (ex (pm prK01 W (j + 4)) b_14i) (.nm 4) [.tup [.ref m, .tup L]] (ds.map D.str) [v0, v1, v2, some (.ref a), x4] S = some (.nx, [v0, v1, v2, some (.ref a), x4'], S') ∧ Kp [a] S S'
  | [], S, c, x4, hd, h, hc, hm => ⟨x4, S, forL_nil (by simp only [chks, chk1, l_lst hm, D.beqs_refl, Bool.and_true]), Kp.refl _ _⟩
  | d :: ds, S, c, x4, hd, h, hc, hm => by
    simp only [List.length_cons] at hc
    have hk : chks S [.tup [.ref m, .tup L]] = true := by simp only [chks, chk1, l_lst hm, D.beqs_refl, Bool.and_true]
    obtain ⟨S1, p1, s1, k1⟩ := right_run (W := W) (j := j) (hd d List.mem_cons_self) h (by omega)
    obtain ⟨x4', S', p2, k2⟩ := inner_loop (v0 := v0) (v1 := v1) (v2 := v2) hma L ds S1 (c + 40) (some (.str d)) (fun e he => hd e (List.mem_cons_of_mem _ he)) s1 (by push_cast at hc; omega) (k1 _ _ (by simp [hma]) hm)
    exact ⟨x4', S', forL_nx hk rfl (by unfold b_14i; walk_at "ex") p2, k1.trans k2⟩
def b_14o : St := (.seq (.asg (.nm 3) (.call 4 [0, 1] (.cons (.var 0) (.cons (.var 2) .nil)) .nil))
  (.seq (.for_ (.itv (.bin .add (.var 1) (.lst (.cons (.lit (.str "gap")) (.cons (.lit (.str "stop")) .nil))))) (.nm 4) b_14i)
  .skip))
theorem add_run {S : Store} {m n : Nat} {xs ys : List D} (h1 : S[m]? = some (.lst xs)) (h2 : S[n]? = some (.lst ys)) (h : xs.length + ys.length ≤ sizeLine) : binop .add (.ref m) (.ref n) S = some (.ref S.length, S ++ [.lst (xs ++ ys)]) := by
  simp only [binop, h1, h2, h, if_true, new]
theorem outer_loop {W j : Nat} {ns : List Int} : ∀ (ds : List Int) (S : Store) (x2 x3 x4 : Option D), (∀ d ∈ ds, 0 ≤ d ∧ d < 100) → S[0]? = some (.ro (ns.map D.int)) → S[1]? = some (.lst (n13.map D.str)) →
    ∃ x2' x3' x4' S', forL (ex (pm prK01 W (j + 4)) b_14o) (.nm 2) [] (ds.map D.int) [some (.ref 0), some (.ref 1), x2, x3, x4] S = some (.nx, [some (.ref 0), some (.ref 1), x2', x3', x4'], S')
  | [], S, x2, x3, x4, hd, h0, h1 => ⟨x2, x3, x4, S, forL_nil rfl⟩
  | d :: ds, S, x2, x3, x4, hd, h0, h1 => by
    have l1 := (List.getElem?_eq_some_iff.mp h1).1
    obtain ⟨u, m, p1, m0, m1⟩ := spring_spec (W := W) (k := j + 3) h0 (hd d List.mem_cons_self)
    have s1 : Spr (S ++ [.lst [.int u, .int m, .int 0]]) S.length 0 := ⟨u, m, 0, g_last, m0, m1, by decide, by decide⟩
    have K1 : Kp [] S (S ++ [.lst [.int u, .int m, .int 0]]) := Kp.push
    generalize hS1 : S ++ [.lst [.int u, .int m, .int 0]] = S1 at p1 s1 K1
    have K2 : Kp [] S1 (S1 ++ [.lst [.str "gap", .str "stop"]]) := Kp.push
    have s2 := s1.push (o := .lst [.str "gap", .str "stop"])
    have g2 : (S1 ++ [.lst [.str "gap", .str "stop"]])[S1.length]? = some (.lst [.str "gap", .str "stop"]) := g_last
    have ad := add_run (K2 _ _ (by simp) (K1 _ _ (by simp) h1)) g2 (Nat.le_of_ble_eq_true rfl)
    have e2 : ev (pm prK01 W (j + 4)) (.lst (.cons (.lit (.str "gap")) (.cons (.lit (.str "stop")) .nil))) [some (.ref 0), some (.ref 1), some (.int d), some (.ref S.length), x4] S1 = some (.ref S1.length, S1 ++ [.lst [.str "gap", .str "stop"]]) := by walk_at "ev"
    have lS1 : S.length < S1.length := by rw [← hS1]; simp
    generalize hS2 : S1 ++ [.lst [.str "gap", .str "stop"]] = S2 at K2 s2 ad e2
    have lS2 : S1.length < S2.length := by rw [← hS2]; simp
    have K3 : Kp [] S2 (S2 ++ [.lst (n13.map D.str ++ [.str "gap", .str "stop"])]) := Kp.push
    have s3 := s2.push (o := .lst (n13.map D.str ++ [.str "gap", .str "stop"]))
    obtain ⟨x4', S', p4, k4⟩ := inner_loop (W := W) (j := j) (m := S2.length) (a := S.length) (v0 := some (.ref 0)) (v1 := some (.ref 1)) (v2 := some (.int d)) (by omega) (n13.map D.str ++ [.str "gap", .str "stop"]) n15 _ 0 x4 (by decide) s3 (by decide) g_last
    have K : Kp [] S S' := Kp.from (K1.trans (K2.trans K3)) k4 (Nat.le_refl _)
    obtain ⟨y2, y3, y4, S9, p9⟩ := outer_loop (W := W) (j := j) (ns := ns) ds S' (some (.int d)) (some (.ref S.length)) x4' (fun e he => hd e (List.mem_cons_of_mem _ he)) (K _ _ (by simp) h0) (K _ _ (by simp) h1)
    refine' ⟨y2, y3, y4, S9, forL_nx rfl rfl ?hb p9⟩
    case hb =>
      unfold b_14o
      refine' es_nx ?a1 ?a2
      case a1 => walk_at "ex"
      case a2 =>
      refine' es_nx ?b1 ?b2
      case b1 =>
        refine' es_for (er_itv (er_bin (er_var rfl) e2 ad) ?c1) p4
        case c1 => show (listAt _ _).map _ = _; rw [l_last]; rfl
      case b2 => exact es_skip
theorem rngs_nat (n : Nat) (h : n < 1000) : rngs [.int (n : Int)] = some (((List.range n).map fun (i : Nat) => (i : Int)).map D.int) := by
  simp only [rngs]
  rw [decide_eq_true (show -2 ^ 62 ≤ (n : Int) by omega), decide_eq_true (show (n : Int) < 2 ^ 62 by omega)]
  simp only [Bool.and_self, if_true, rng, Int.toNat_natCast, List.map_map]
  congr 1
  apply List.map_congr_left
  intro i _
  simp
theorem law_run (ns : List Int) : Says prK01 14 ns := by
  obtain ⟨x2, x3, x4, S', p⟩ := outer_loop (W := 0) (j := 0) (ns := ns) ((List.range (max 1 (min 12 ns.length))).map fun (i : Nat) => (i : Int)) ([.ro (ns.map D.int)] ++ [.lst (n13.map D.str)]) none none none
    (by intro d hd; simp at hd; obtain ⟨i, hi, rfl⟩ := hd; omega) rfl rfl
  refine' ⟨0, 5, S', by decide, ?h⟩
  case h =>
  refine' run_rt (b := b_14) rfl rfl rfl ?g
  case g =>
  unfold b_14
  refine' es_nx ?a1 ?a2
  case a1 => walk_at "ex"
  case a2 =>
  refine' es_nx ?b1 ?b2
  case b1 =>
    refine' es_for ?c1 p
    case c1 =>
      have e : ([.ro (ns.map D.int)] ++ [O.lst (n13.map D.str)] : Store)[0]? = some (.ro (ns.map D.int)) := rfl
      refine' er_irng ?d1 ?d2
      rotate_left
      case d1 =>
        refine' er_cons ?f1 er_nil
        case f1 =>
          refine' er_bi (er_cons (er_lit rfl) (er_cons ?g1 er_nil)) b_max
          case g1 =>
            refine' er_bi (er_cons (er_lit rfl) (er_cons ?g2 er_nil)) b_min
            case g2 => exact er_bi (er_cons (er_var rfl) er_nil) (b_lenL (l_ro e))
      case d2 =>
        simp only [List.length_map]
        have hJ : (if (if (ns.length : Int) < 12 then (ns.length : Int) else 12) > 1 then (if (ns.length : Int) < 12 then (ns.length : Int) else 12) else 1) = ((max 1 (min 12 ns.length) : Nat) : Int) := by
          split <;> split <;> omega
        rw [hJ, rngs_nat _ (by omega)]
  case b2 => walk_at "ex"
end Tm

set_option Elab.async false
set_option linter.all false
set_option maxRecDepth 100000
set_option maxHeartbeats 4000000
namespace Tm
open PySem PySem.Spec PyProof.Rows L2
/-! ## what the top has written, in the machine's words -/
def FnHere (K : PySem.W.Frag) (mg : Str → Option Value) (q : Pr) (G : Gx) (n : Nat) (e : Str × Nat × List Str) : Prop :=
  ∃ (a : Addr) (fd : FuncData) (qual : Str) (st : Stmt) (N : List Str), mg e.1 = some (.ref a) ∧ Fun K e.1 qual st a fd ∧ FnScope N e.2.2 (defScope st) ∧ Binds K fd e.2.2 [] ∧
    (∀ r ∈ G.kws, r.1 = e.1 → ∀ (t : Shared) (us ws : List Value), us.length = r.2.1 → ws.length = r.2.2.1.length → BindsTo t fd ⟨us, r.2.2.1.zip ws⟩ (e.2.2.zip (pick r.2.2.2 (us ++ ws)))) ∧
    q.fs e.2.1 = some (e.2.2.length, N.length, cSs n ⟨N, (defScope st).names, none, G⟩ (defBody st))
theorem mem_of_lookup {α : Type} : ∀ {l : List (Str × α)} {x : Str} {y : α}, l.lookup x = some y → (x, y) ∈ l
  | (x', y') :: r, x, y, h => by
    rw [List.lookup_cons] at h
    cases e : x == x' with
    | true =>
      rw [e] at h
      have := eq_of_beq e
      subst this
      simp only [Option.some.injEq] at h
      subst h
      exact List.mem_cons_self
    | false =>
      rw [e] at h
      exact List.mem_cons_of_mem _ (mem_of_lookup h)
theorem here_mk {K : PySem.W.Frag} {h : Heap} {mg : Str → Option Value} {q : Pr} {G : Gx} {n : Nat} {x qual : Str} {f : Nat} {ps N : List Str} {st : Stmt} {a : Addr} {oc : Value} {od an : Option Addr} {osl : Array (Option Value)} {kV doc pm cdv ct : Value}
    (X : K.In h) (Gm : h.Ns mainGlobals mg) (h1 : PySem.W.nsIn K mainGlobals x = some (some (.ref a)))
    (l : List.lookup a K = some ⟨oc, od, .func (PySem.W.fnOf x qual (defArgs st) (defBody st) (defScope st) .none kV doc pm an cdv ct), osl⟩) (c : PySem.W.codeIn K cdv qual = true) (k : PySem.W.keepIn K (.ref a) = true)
    (S : FnScope N ps (defScope st))
    (b : ∀ (kV doc pm : Value) (an : Option Addr) (cdv ct : Value) (us : List Value), us.length = ps.length → bindArgs (PySem.W.fnOf x qual (defArgs st) (defBody st) (defScope st) .none kV doc pm an cdv ct) ⟨us, []⟩ = pure (ps.zip us))
    (kw : ∀ (kV doc pm : Value) (an : Option Addr) (cdv ct : Value), ∀ r ∈ G.kws, r.1 = x → ∀ (us ws : List Value), us.length = r.2.1 → ws.length = r.2.2.1.length → bindArgs (PySem.W.fnOf x qual (defArgs st) (defBody st) (defScope st) .none kV doc pm an cdv ct) ⟨us, r.2.2.1.zip ws⟩ = pure (ps.zip (pick r.2.2.2 (us ++ ws))))
    (hq : q.fs f = some (ps.length, N.length, cSs n ⟨N, (defScope st).names, none, G⟩ (defBody st))) : FnHere K mg q G n (x, f, ps) := by
  have F := fun_mk (st := st) l c k
  exact ⟨a, _, qual, st, N, PySem.W.mg_of X Gm h1, F, S, F.binds b, fun r hr e t us ws h2 h3 => .of_eq (kw kV doc pm an cdv ct r hr e us ws h2 h3), hq⟩
/-- no call by names of x -/
theorem no_kw {K : Prop} {x : Str} {l : List (Str × Nat × List Str × List Nat)} (h : (l.all fun r => !decide (r.1 = x)) = true) {r : Str × Nat × List Str × List Nat} (hr : r ∈ l) (e : r.1 = x) : K := by
  have := List.all_eq_true.mp h r hr
  rw [decide_eq_true e] at this
  cases this
inductive DMatch (K : PySem.W.Frag) : List DictEntry → List (Str × D) → Prop
  | nil : DMatch K [] []
  | cons {e : DictEntry} {x : Str} {tok : Option Nat} {d : D} {v : V} {es : List DictEntry} {l : List (Str × D)} (hk : ∃ t, e.key = .str x t) (hv : RelV v e.val) (hr : ∀ ρ H, Rep K ρ H v d) (r : DMatch K es l) : DMatch K (e :: es) ((x, d) :: l)
theorem dmatch_find {K : PySem.W.Frag} {es : List DictEntry} {l : List (Str × D)} (m : DMatch K es l) (z : Str) : (es.any fun e => e.refKey) = false ∧
    match lookK l z with
    | none => es.find? (fun e => e.key.isStr z) = none
    | some d => ∃ (e : DictEntry) (v : V), es.find? (fun e => e.key.isStr z) = some e ∧ RelV v e.val ∧ ∀ ρ H, Rep K ρ H v d := by
  induction m with
  | nil => exact ⟨rfl, rfl⟩
  | cons hk hv hr r ih =>
    rename_i e x tok d v es l
    obtain ⟨t, hk⟩ := hk
    have e1 : e.refKey = false := by unfold DictEntry.refKey; rw [hk]
    have e2 : e.key.isStr z = (x == z) := by rw [hk]; rfl
    refine ⟨by simp [e1, ih.1], ?_⟩
    unfold lookK
    rw [List.lookup_cons]
    by_cases hz : z = x
    · subst hz
      simp only [beq_self_eq_true]
      exact ⟨e, v, by rw [List.find?_cons, e2]; simp, hv, hr⟩
    · have b1 : (z == x) = false := by simpa using hz
      have b2 : (x == z) = false := by simpa using fun h => hz h.symm
      simp only [b1]
      have := ih.2
      unfold lookK at this
      rw [List.find?_cons, e2, b2]
      exact this
theorem dict_here {K : PySem.W.Frag} {h : Heap} {w : World} {mg : Str → Option Value} {x : Str} {l : List (Str × D)} {a : Addr} {es : Array DictEntry} {ep : Nat}
    (X : K.In h) (Gm : h.Ns mainGlobals mg) (h1 : PySem.W.nsIn K mainGlobals x = some (some (.ref a))) (hl : List.lookup a K = some { cls := .type "dict", data := .dict es ep }) (lit : PySem.W.KeysLit w.params es.toList) (low : (a == sysModules) = false)
    (m : DMatch K es.toList l) : ∃ (a : Addr) (es : Array DictEntry) (n : Nat), mg x = some (.ref a) ∧ KDict K w a es n ∧
    ∀ z : Str, match lookK l z with
      | none => PySem.W.nsIn K a z = some none
      | some d => ∃ (u : Value) (v : V), PySem.W.nsIn K a z = some (some u) ∧ RelV v u ∧ ∀ ρ H, Rep K ρ H v d := by
  refine ⟨a, es, ep, PySem.W.mg_of X Gm h1, ⟨hl, lit, low⟩, fun z => ?_⟩
  have f := dmatch_find m z
  have e : PySem.W.nsIn K a z = (match es.toList.find? (fun x => x.key.isStr z) with
    | some e => some (some e.val)
    | none => if (es.toList.any fun x => x.refKey) = true then none else some none) := by
    unfold PySem.W.nsIn; rw [hl]; rfl
  cases c : lookK l z with
  | none =>
    rw [c] at f
    show PySem.W.nsIn K a z = some none
    rw [e, f.2, f.1]; rfl
  | some d =>
    rw [c] at f
    obtain ⟨g1, e', v, g2, g3, g4⟩ := f
    exact ⟨e'.val, v, by rw [e, g2], g3, g4⟩
theorem tup_here {K : PySem.W.Frag} {t : Addr} {oc : Value} {od : Option Addr} {its : Array Value} {n : Nat} {osl : Array (Option Value)} {xs : List V} {ds : List D} (l : List.lookup t K = some ⟨oc, od, .seq its n, osl⟩) (hc : oc = .type "tuple") (hs : its.size ≤ sizeLine) (hv : Vals xs its.toList)
    (hr : ∀ ρ H, Reps K ρ H xs ds) : ∀ ρ H, Rep K ρ H (.ref t) (.tup ds) := fun ρ H => .tup (.inr ⟨_, its, n, l, hc, rfl, hs, hv⟩) (hr ρ H)
/-- the law's own def -/
theorem law_fng {P : Program} {w : World} {K : PySem.W.Frag} {mg : Str → Option Value} {base : Heap} {q : Pr} {G : Gx} {n : Nat} (T : Stands K mg w q G n) {x qual : Str} {st : Stmt} {a : Addr} {fd : FuncData} {N ps : List Str} {f : Nat}
    (F : Fun K x qual st a fd) (S : FnScope N ps (defScope st)) (hq : q.fs f = some (ps.length, N.length, cSs n ⟨N, (defScope st).names, none, G⟩ (defBody st))) (W : Nat) : ∀ k : Nat, FnG P w K mg base k a fd ps (spR K ps.length (run q W k f)) := by
  intro k
  cases k with
  | zero =>
    refine ⟨fun vs H Q h => h.1, fun B out t H as us vs Q _ _ _ _ _ h => ?_⟩
    obtain ⟨_, ρ, S, ds, d, S', _, _, e, _⟩ := h
    cases e
  | succ k =>
    have ih := gmat_all (P := P) (base := base) T W k
    refine fnG_of F S (fun vs H Q h => h.1) fun cdv B out t H vs Q room gd h => ?_
    have M : Mat (cxOf CX0 P w K mg base N qual (defScope st) a cdv B out t H E0).nox (pm q W k) ⟨N, (defScope st).names, none, G⟩ k :=
      ⟨rfl, S.nd, rfl, S.kind, rfl, gd, room, rfl, fun x _ => .inl rfl, ih⟩
    refine ⟨_, (snds_all (pm q W k) k n).ss _ _ M (defBody st), ?_⟩
    obtain ⟨hl, ρ, S0, ds, d, S', sm, rs, e, kq⟩ := h
    simp only [run, hq] at e
    split at e
    · rename_i hn
      unfold fin at e
      split at e
      · rename_i d' e' S'' he
        cases e
        exact ⟨ρ, S0, _, _, sm, start_env rs hn, he, fun ρ' H' p1 g1 s1 v rv => kq ρ' H' v p1 g1 s1 rv⟩
      · rename_i e' S'' he
        cases e
        exact ⟨ρ, S0, _, _, sm, start_env rs hn, he, fun ρ' H' p1 g1 s1 σ' en => kq ρ' H' .non p1 g1 s1 .non⟩
      · cases e
    · cases e
end Tm

set_option Elab.async false
set_option linter.all false
set_option maxRecDepth 100000
set_option maxHeartbeats 8000000
namespace K01
open PySem L2 Tm
def top (i : Nat) : Stmt := PySem.Challenge.pw_touchroad_k01_what_instructions_make.main.body.getD i (.Pass ⟨0, 0, 0, 0⟩)
def G : Gx := ⟨[("reads", 0, ["instruction"]), ("writes", 1, ["instruction"]), ("cell_of", 2, ["cells", "base", "offset"]), ("result", 3, ["instruction", "words"]), ("_law_spring", 4, ["script", "k"]), ("_law_pick", 5, ["spring", "many"]), ("_law_word", 6, ["spring"]), ("_law_instruction", 7, ["spring", "name", "few", "most"]), ("_law_bits", 8, ["one", "other", "wanted"]), ("_law_sum", 9, ["name", "one", "other"]), ("_law_read", 10, ["one"]), ("_law_written", 11, ["one"]), ("_law_like", 12, ["found", "due"]), ("_law_right", 13, ["spring", "name"]), ("law", 14, ["script"])],
  [("WRITERS", 0)],
  [("READ_AT", 0)],
  ["tuple", "len", "max", "abs", "int", "range", "repr", "min"],
  [("writes", 0, ["instruction"], [0]), ("reads", 0, ["instruction"], [0]), ("cell_of", 0, ["offset", "cells", "base"], [1, 2, 0]), ("result", 0, ["words", "instruction"], [1, 0])]⟩
abbrev s0 : Stmt := top 3
def n0 : List Str := ["instruction", "at"]
abbrev s1 : Stmt := top 4
def n1 : List Str := ["instruction"]
abbrev s2 : Stmt := top 5
def n2 : List Str := ["cells", "base", "offset"]
abbrev s3 : Stmt := top 6
def n3 : List Str := ["instruction", "words", "name", "one", "other"]
abbrev s4 : Stmt := top 8
def n4 : List Str := ["script", "k", "cell", "mixed", "one"]
abbrev s5 : Stmt := top 9
def n5 : List Str := ["spring", "many", "found", "mixed"]
abbrev s6 : Stmt := top 10
def n6 : List Str := ["spring", "way"]
abbrev s7 : Stmt := top 11
def n7 : List Str := ["spring", "name", "few", "most", "one", "two", "three", "word", "row"]
abbrev s8 : Stmt := top 12
def n8 : List Str := ["one", "other", "wanted", "found", "place", "turn"]
abbrev s9 : Stmt := top 13
def n9 : List Str := ["name", "one", "other"]
abbrev s10 : Stmt := top 14
def n10 : List Str := ["one"]
abbrev s11 : Stmt := top 15
def n11 : List Str := ["one"]
abbrev s12 : Stmt := top 16
def n12 : List Str := ["found", "due"]
abbrev s13 : Stmt := top 17
def n13 : List Str := ["spring", "name", "few", "one", "due", "kept", "first", "second", "made", "handed", "cells", "base", "far"]
abbrev s14 : Stmt := top 18
def n14 : List Str := ["script", "names", "k", "spring", "name"]
theorem bq0 : cSs 60 ⟨n0, (defScope s0).names, none, G⟩ (defBody s0) = b_0 := by rfl
theorem bq1 : cSs 60 ⟨n1, (defScope s1).names, none, G⟩ (defBody s1) = b_1 := by rfl
theorem bq2 : cSs 60 ⟨n2, (defScope s2).names, none, G⟩ (defBody s2) = b_2 := by rfl
theorem bq3 : cSs 60 ⟨n3, (defScope s3).names, none, G⟩ (defBody s3) = b_3 := by rfl
theorem bq4 : cSs 60 ⟨n4, (defScope s4).names, none, G⟩ (defBody s4) = b_4 := by rfl
theorem bq5 : cSs 60 ⟨n5, (defScope s5).names, none, G⟩ (defBody s5) = b_5 := by rfl
theorem bq6 : cSs 60 ⟨n6, (defScope s6).names, none, G⟩ (defBody s6) = b_6 := by rfl
theorem bq7 : cSs 60 ⟨n7, (defScope s7).names, none, G⟩ (defBody s7) = b_7 := by rfl
theorem bq8 : cSs 60 ⟨n8, (defScope s8).names, none, G⟩ (defBody s8) = b_8 := by rfl
theorem bq9 : cSs 60 ⟨n9, (defScope s9).names, none, G⟩ (defBody s9) = b_9 := by rfl
theorem bq10 : cSs 60 ⟨n10, (defScope s10).names, none, G⟩ (defBody s10) = b_10 := by rfl
theorem bq11 : cSs 60 ⟨n11, (defScope s11).names, none, G⟩ (defBody s11) = b_11 := by rfl
theorem bq12 : cSs 60 ⟨n12, (defScope s12).names, none, G⟩ (defBody s12) = b_12 := by rfl
theorem bq13 : cSs 60 ⟨n13, (defScope s13).names, none, G⟩ (defBody s13) = b_13 := by rfl
theorem bq14 : cSs 60 ⟨n14, (defScope s14).names, none, G⟩ (defBody s14) = b_14 := by rfl
end K01

set_option Elab.async false
set_option linter.all false
set_option maxRecDepth 100000
set_option maxHeartbeats 8000000
namespace K01
open PySem L2 Tm
theorem sc0 : FnScope n0 ["instruction"] (defScope s0) := ⟨rfl, rfl, rfl, by decide +kernel, rfl, by decide +kernel, by decide +kernel⟩
theorem here0 {K : PySem.W.Frag} {h : Heap} {mg : Str → Option Value} {a : Addr} {oc : Value} {od an : Option Addr} {osl : Array (Option Value)} {kV doc pm cdv ct : Value}
    (X : K.In h) (Gm : h.Ns mainGlobals mg) (h1 : PySem.W.nsIn K mainGlobals "reads" = some (some (.ref a)))
    (l : List.lookup a K = some ⟨oc, od, .func (PySem.W.fnOf "reads" "reads" (defArgs s0) (defBody s0) (defScope s0) .none kV doc pm an cdv ct), osl⟩) (c : PySem.W.codeIn K cdv "reads" = true) (k : PySem.W.keepIn K (.ref a) = true) : FnHere K mg prK01 G 60 ("reads", 0, ["instruction"]) := by
  refine here_mk X Gm h1 l c k sc0 (fun _ _ _ _ _ _ us hl => match us, hl with | [_], _ => rfl) ?_ (by rw [bq0]; rfl)
  exact by
    intro _ _ _ _ _ _ r hr e us ws h1 h2
    simp only [G, List.mem_cons, List.not_mem_nil, or_false] at hr
    rcases hr with rfl | rfl | rfl | rfl
    · exact absurd e (by decide +kernel)
    · match us, ws, h1, h2 with | [], [_], _, _ => rfl
    · exact absurd e (by decide +kernel)
    · exact absurd e (by decide +kernel)

theorem sc1 : FnScope n1 ["instruction"] (defScope s1) := ⟨rfl, rfl, rfl, by decide +kernel, rfl, by decide +kernel, by decide +kernel⟩
theorem here1 {K : PySem.W.Frag} {h : Heap} {mg : Str → Option Value} {a : Addr} {oc : Value} {od an : Option Addr} {osl : Array (Option Value)} {kV doc pm cdv ct : Value}
    (X : K.In h) (Gm : h.Ns mainGlobals mg) (h1 : PySem.W.nsIn K mainGlobals "writes" = some (some (.ref a)))
    (l : List.lookup a K = some ⟨oc, od, .func (PySem.W.fnOf "writes" "writes" (defArgs s1) (defBody s1) (defScope s1) .none kV doc pm an cdv ct), osl⟩) (c : PySem.W.codeIn K cdv "writes" = true) (k : PySem.W.keepIn K (.ref a) = true) : FnHere K mg prK01 G 60 ("writes", 1, ["instruction"]) := by
  refine here_mk X Gm h1 l c k sc1 (fun _ _ _ _ _ _ us hl => match us, hl with | [_], _ => rfl) ?_ (by rw [bq1]; rfl)
  exact by
    intro _ _ _ _ _ _ r hr e us ws h1 h2
    simp only [G, List.mem_cons, List.not_mem_nil, or_false] at hr
    rcases hr with rfl | rfl | rfl | rfl
    · match us, ws, h1, h2 with | [], [_], _, _ => rfl
    · exact absurd e (by decide +kernel)
    · exact absurd e (by decide +kernel)
    · exact absurd e (by decide +kernel)

theorem sc2 : FnScope n2 ["cells", "base", "offset"] (defScope s2) := ⟨rfl, rfl, rfl, by decide +kernel, rfl, by decide +kernel, by decide +kernel⟩
theorem here2 {K : PySem.W.Frag} {h : Heap} {mg : Str → Option Value} {a : Addr} {oc : Value} {od an : Option Addr} {osl : Array (Option Value)} {kV doc pm cdv ct : Value}
    (X : K.In h) (Gm : h.Ns mainGlobals mg) (h1 : PySem.W.nsIn K mainGlobals "cell_of" = some (some (.ref a)))
    (l : List.lookup a K = some ⟨oc, od, .func (PySem.W.fnOf "cell_of" "cell_of" (defArgs s2) (defBody s2) (defScope s2) .none kV doc pm an cdv ct), osl⟩) (c : PySem.W.codeIn K cdv "cell_of" = true) (k : PySem.W.keepIn K (.ref a) = true) : FnHere K mg prK01 G 60 ("cell_of", 2, ["cells", "base", "offset"]) := by
  refine here_mk X Gm h1 l c k sc2 (fun _ _ _ _ _ _ us hl => match us, hl with | [_, _, _], _ => rfl) ?_ (by rw [bq2]; rfl)
  exact by
    intro _ _ _ _ _ _ r hr e us ws h1 h2
    simp only [G, List.mem_cons, List.not_mem_nil, or_false] at hr
    rcases hr with rfl | rfl | rfl | rfl
    · exact absurd e (by decide +kernel)
    · exact absurd e (by decide +kernel)
    · match us, ws, h1, h2 with | [], [_, _, _], _, _ => rfl
    · exact absurd e (by decide +kernel)

theorem sc3 : FnScope n3 ["instruction", "words"] (defScope s3) := ⟨rfl, rfl, rfl, by decide +kernel, rfl, by decide +kernel, by decide +kernel⟩
theorem here3 {K : PySem.W.Frag} {h : Heap} {mg : Str → Option Value} {a : Addr} {oc : Value} {od an : Option Addr} {osl : Array (Option Value)} {kV doc pm cdv ct : Value}
    (X : K.In h) (Gm : h.Ns mainGlobals mg) (h1 : PySem.W.nsIn K mainGlobals "result" = some (some (.ref a)))
    (l : List.lookup a K = some ⟨oc, od, .func (PySem.W.fnOf "result" "result" (defArgs s3) (defBody s3) (defScope s3) .none kV doc pm an cdv ct), osl⟩) (c : PySem.W.codeIn K cdv "result" = true) (k : PySem.W.keepIn K (.ref a) = true) : FnHere K mg prK01 G 60 ("result", 3, ["instruction", "words"]) := by
  refine here_mk X Gm h1 l c k sc3 (fun _ _ _ _ _ _ us hl => match us, hl with | [_, _], _ => rfl) ?_ (by rw [bq3]; rfl)
  exact by
    intro _ _ _ _ _ _ r hr e us ws h1 h2
    simp only [G, List.mem_cons, List.not_mem_nil, or_false] at hr
    rcases hr with rfl | rfl | rfl | rfl
    · exact absurd e (by decide +kernel)
    · exact absurd e (by decide +kernel)
    · exact absurd e (by decide +kernel)
    · match us, ws, h1, h2 with | [], [_, _], _, _ => rfl

theorem sc4 : FnScope n4 ["script", "k"] (defScope s4) := ⟨rfl, rfl, rfl, by decide +kernel, rfl, by decide +kernel, by decide +kernel⟩
theorem here4 {K : PySem.W.Frag} {h : Heap} {mg : Str → Option Value} {a : Addr} {oc : Value} {od an : Option Addr} {osl : Array (Option Value)} {kV doc pm cdv ct : Value}
    (X : K.In h) (Gm : h.Ns mainGlobals mg) (h1 : PySem.W.nsIn K mainGlobals "_law_spring" = some (some (.ref a)))
    (l : List.lookup a K = some ⟨oc, od, .func (PySem.W.fnOf "_law_spring" "_law_spring" (defArgs s4) (defBody s4) (defScope s4) .none kV doc pm an cdv ct), osl⟩) (c : PySem.W.codeIn K cdv "_law_spring" = true) (k : PySem.W.keepIn K (.ref a) = true) : FnHere K mg prK01 G 60 ("_law_spring", 4, ["script", "k"]) := by
  refine here_mk X Gm h1 l c k sc4 (fun _ _ _ _ _ _ us hl => match us, hl with | [_, _], _ => rfl) ?_ (by rw [bq4]; rfl)
  exact fun _ _ _ _ _ _ r hr e => no_kw (by decide +kernel) hr e
theorem sc5 : FnScope n5 ["spring", "many"] (defScope s5) := ⟨rfl, rfl, rfl, by decide +kernel, rfl, by decide +kernel, by decide +kernel⟩
theorem here5 {K : PySem.W.Frag} {h : Heap} {mg : Str → Option Value} {a : Addr} {oc : Value} {od an : Option Addr} {osl : Array (Option Value)} {kV doc pm cdv ct : Value}
    (X : K.In h) (Gm : h.Ns mainGlobals mg) (h1 : PySem.W.nsIn K mainGlobals "_law_pick" = some (some (.ref a)))
    (l : List.lookup a K = some ⟨oc, od, .func (PySem.W.fnOf "_law_pick" "_law_pick" (defArgs s5) (defBody s5) (defScope s5) .none kV doc pm an cdv ct), osl⟩) (c : PySem.W.codeIn K cdv "_law_pick" = true) (k : PySem.W.keepIn K (.ref a) = true) : FnHere K mg prK01 G 60 ("_law_pick", 5, ["spring", "many"]) := by
  refine here_mk X Gm h1 l c k sc5 (fun _ _ _ _ _ _ us hl => match us, hl with | [_, _], _ => rfl) ?_ (by rw [bq5]; rfl)
  exact fun _ _ _ _ _ _ r hr e => no_kw (by decide +kernel) hr e
theorem sc6 : FnScope n6 ["spring"] (defScope s6) := ⟨rfl, rfl, rfl, by decide +kernel, rfl, by decide +kernel, by decide +kernel⟩
theorem here6 {K : PySem.W.Frag} {h : Heap} {mg : Str → Option Value} {a : Addr} {oc : Value} {od an : Option Addr} {osl : Array (Option Value)} {kV doc pm cdv ct : Value}
    (X : K.In h) (Gm : h.Ns mainGlobals mg) (h1 : PySem.W.nsIn K mainGlobals "_law_word" = some (some (.ref a)))
    (l : List.lookup a K = some ⟨oc, od, .func (PySem.W.fnOf "_law_word" "_law_word" (defArgs s6) (defBody s6) (defScope s6) .none kV doc pm an cdv ct), osl⟩) (c : PySem.W.codeIn K cdv "_law_word" = true) (k : PySem.W.keepIn K (.ref a) = true) : FnHere K mg prK01 G 60 ("_law_word", 6, ["spring"]) := by
  refine here_mk X Gm h1 l c k sc6 (fun _ _ _ _ _ _ us hl => match us, hl with | [_], _ => rfl) ?_ (by rw [bq6]; rfl)
  exact fun _ _ _ _ _ _ r hr e => no_kw (by decide +kernel) hr e
theorem sc7 : FnScope n7 ["spring", "name", "few", "most"] (defScope s7) := ⟨rfl, rfl, rfl, by decide +kernel, rfl, by decide +kernel, by decide +kernel⟩
theorem here7 {K : PySem.W.Frag} {h : Heap} {mg : Str → Option Value} {a : Addr} {oc : Value} {od an : Option Addr} {osl : Array (Option Value)} {kV doc pm cdv ct : Value}
    (X : K.In h) (Gm : h.Ns mainGlobals mg) (h1 : PySem.W.nsIn K mainGlobals "_law_instruction" = some (some (.ref a)))
    (l : List.lookup a K = some ⟨oc, od, .func (PySem.W.fnOf "_law_instruction" "_law_instruction" (defArgs s7) (defBody s7) (defScope s7) .none kV doc pm an cdv ct), osl⟩) (c : PySem.W.codeIn K cdv "_law_instruction" = true) (k : PySem.W.keepIn K (.ref a) = true) : FnHere K mg prK01 G 60 ("_law_instruction", 7, ["spring", "name", "few", "most"]) := by
  refine here_mk X Gm h1 l c k sc7 (fun _ _ _ _ _ _ us hl => match us, hl with | [_, _, _, _], _ => rfl) ?_ (by rw [bq7]; rfl)
  exact fun _ _ _ _ _ _ r hr e => no_kw (by decide +kernel) hr e
theorem sc8 : FnScope n8 ["one", "other", "wanted"] (defScope s8) := ⟨rfl, rfl, rfl, by decide +kernel, rfl, by decide +kernel, by decide +kernel⟩
theorem here8 {K : PySem.W.Frag} {h : Heap} {mg : Str → Option Value} {a : Addr} {oc : Value} {od an : Option Addr} {osl : Array (Option Value)} {kV doc pm cdv ct : Value}
    (X : K.In h) (Gm : h.Ns mainGlobals mg) (h1 : PySem.W.nsIn K mainGlobals "_law_bits" = some (some (.ref a)))
    (l : List.lookup a K = some ⟨oc, od, .func (PySem.W.fnOf "_law_bits" "_law_bits" (defArgs s8) (defBody s8) (defScope s8) .none kV doc pm an cdv ct), osl⟩) (c : PySem.W.codeIn K cdv "_law_bits" = true) (k : PySem.W.keepIn K (.ref a) = true) : FnHere K mg prK01 G 60 ("_law_bits", 8, ["one", "other", "wanted"]) := by
  refine here_mk X Gm h1 l c k sc8 (fun _ _ _ _ _ _ us hl => match us, hl with | [_, _, _], _ => rfl) ?_ (by rw [bq8]; rfl)
  exact fun _ _ _ _ _ _ r hr e => no_kw (by decide +kernel) hr e
theorem sc9 : FnScope n9 ["name", "one", "other"] (defScope s9) := ⟨rfl, rfl, rfl, by decide +kernel, rfl, by decide +kernel, by decide +kernel⟩
theorem here9 {K : PySem.W.Frag} {h : Heap} {mg : Str → Option Value} {a : Addr} {oc : Value} {od an : Option Addr} {osl : Array (Option Value)} {kV doc pm cdv ct : Value}
    (X : K.In h) (Gm : h.Ns mainGlobals mg) (h1 : PySem.W.nsIn K mainGlobals "_law_sum" = some (some (.ref a)))
    (l : List.lookup a K = some ⟨oc, od, .func (PySem.W.fnOf "_law_sum" "_law_sum" (defArgs s9) (defBody s9) (defScope s9) .none kV doc pm an cdv ct), osl⟩) (c : PySem.W.codeIn K cdv "_law_sum" = true) (k : PySem.W.keepIn K (.ref a) = true) : FnHere K mg prK01 G 60 ("_law_sum", 9, ["name", "one", "other"]) := by
  refine here_mk X Gm h1 l c k sc9 (fun _ _ _ _ _ _ us hl => match us, hl with | [_, _, _], _ => rfl) ?_ (by rw [bq9]; rfl)
  exact fun _ _ _ _ _ _ r hr e => no_kw (by decide +kernel) hr e
theorem sc10 : FnScope n10 ["one"] (defScope s10) := ⟨rfl, rfl, rfl, by decide +kernel, rfl, by decide +kernel, by decide +kernel⟩
theorem here10 {K : PySem.W.Frag} {h : Heap} {mg : Str → Option Value} {a : Addr} {oc : Value} {od an : Option Addr} {osl : Array (Option Value)} {kV doc pm cdv ct : Value}
    (X : K.In h) (Gm : h.Ns mainGlobals mg) (h1 : PySem.W.nsIn K mainGlobals "_law_read" = some (some (.ref a)))
    (l : List.lookup a K = some ⟨oc, od, .func (PySem.W.fnOf "_law_read" "_law_read" (defArgs s10) (defBody s10) (defScope s10) .none kV doc pm an cdv ct), osl⟩) (c : PySem.W.codeIn K cdv "_law_read" = true) (k : PySem.W.keepIn K (.ref a) = true) : FnHere K mg prK01 G 60 ("_law_read", 10, ["one"]) := by
  refine here_mk X Gm h1 l c k sc10 (fun _ _ _ _ _ _ us hl => match us, hl with | [_], _ => rfl) ?_ (by rw [bq10]; rfl)
  exact fun _ _ _ _ _ _ r hr e => no_kw (by decide +kernel) hr e
theorem sc11 : FnScope n11 ["one"] (defScope s11) := ⟨rfl, rfl, rfl, by decide +kernel, rfl, by decide +kernel, by decide +kernel⟩
theorem here11 {K : PySem.W.Frag} {h : Heap} {mg : Str → Option Value} {a : Addr} {oc : Value} {od an : Option Addr} {osl : Array (Option Value)} {kV doc pm cdv ct : Value}
    (X : K.In h) (Gm : h.Ns mainGlobals mg) (h1 : PySem.W.nsIn K mainGlobals "_law_written" = some (some (.ref a)))
    (l : List.lookup a K = some ⟨oc, od, .func (PySem.W.fnOf "_law_written" "_law_written" (defArgs s11) (defBody s11) (defScope s11) .none kV doc pm an cdv ct), osl⟩) (c : PySem.W.codeIn K cdv "_law_written" = true) (k : PySem.W.keepIn K (.ref a) = true) : FnHere K mg prK01 G 60 ("_law_written", 11, ["one"]) := by
  refine here_mk X Gm h1 l c k sc11 (fun _ _ _ _ _ _ us hl => match us, hl with | [_], _ => rfl) ?_ (by rw [bq11]; rfl)
  exact fun _ _ _ _ _ _ r hr e => no_kw (by decide +kernel) hr e
theorem sc12 : FnScope n12 ["found", "due"] (defScope s12) := ⟨rfl, rfl, rfl, by decide +kernel, rfl, by decide +kernel, by decide +kernel⟩
theorem here12 {K : PySem.W.Frag} {h : Heap} {mg : Str → Option Value} {a : Addr} {oc : Value} {od an : Option Addr} {osl : Array (Option Value)} {kV doc pm cdv ct : Value}
    (X : K.In h) (Gm : h.Ns mainGlobals mg) (h1 : PySem.W.nsIn K mainGlobals "_law_like" = some (some (.ref a)))
    (l : List.lookup a K = some ⟨oc, od, .func (PySem.W.fnOf "_law_like" "_law_like" (defArgs s12) (defBody s12) (defScope s12) .none kV doc pm an cdv ct), osl⟩) (c : PySem.W.codeIn K cdv "_law_like" = true) (k : PySem.W.keepIn K (.ref a) = true) : FnHere K mg prK01 G 60 ("_law_like", 12, ["found", "due"]) := by
  refine here_mk X Gm h1 l c k sc12 (fun _ _ _ _ _ _ us hl => match us, hl with | [_, _], _ => rfl) ?_ (by rw [bq12]; rfl)
  exact fun _ _ _ _ _ _ r hr e => no_kw (by decide +kernel) hr e
theorem sc13 : FnScope n13 ["spring", "name"] (defScope s13) := ⟨rfl, rfl, rfl, by decide +kernel, rfl, by decide +kernel, by decide +kernel⟩
theorem here13 {K : PySem.W.Frag} {h : Heap} {mg : Str → Option Value} {a : Addr} {oc : Value} {od an : Option Addr} {osl : Array (Option Value)} {kV doc pm cdv ct : Value}
    (X : K.In h) (Gm : h.Ns mainGlobals mg) (h1 : PySem.W.nsIn K mainGlobals "_law_right" = some (some (.ref a)))
    (l : List.lookup a K = some ⟨oc, od, .func (PySem.W.fnOf "_law_right" "_law_right" (defArgs s13) (defBody s13) (defScope s13) .none kV doc pm an cdv ct), osl⟩) (c : PySem.W.codeIn K cdv "_law_right" = true) (k : PySem.W.keepIn K (.ref a) = true) : FnHere K mg prK01 G 60 ("_law_right", 13, ["spring", "name"]) := by
  refine here_mk X Gm h1 l c k sc13 (fun _ _ _ _ _ _ us hl => match us, hl with | [_, _], _ => rfl) ?_ (by rw [bq13]; rfl)
  exact fun _ _ _ _ _ _ r hr e => no_kw (by decide +kernel) hr e
theorem sc14 : FnScope n14 ["script"] (defScope s14) := ⟨rfl, rfl, rfl, by decide +kernel, rfl, by decide +kernel, by decide +kernel⟩
theorem here14 {K : PySem.W.Frag} {h : Heap} {mg : Str → Option Value} {a : Addr} {oc : Value} {od an : Option Addr} {osl : Array (Option Value)} {kV doc pm cdv ct : Value}
    (X : K.In h) (Gm : h.Ns mainGlobals mg) (h1 : PySem.W.nsIn K mainGlobals "law" = some (some (.ref a)))
    (l : List.lookup a K = some ⟨oc, od, .func (PySem.W.fnOf "law" "law" (defArgs s14) (defBody s14) (defScope s14) .none kV doc pm an cdv ct), osl⟩) (c : PySem.W.codeIn K cdv "law" = true) (k : PySem.W.keepIn K (.ref a) = true) : FnHere K mg prK01 G 60 ("law", 14, ["script"]) := by
  refine here_mk X Gm h1 l c k sc14 (fun _ _ _ _ _ _ us hl => match us, hl with | [_], _ => rfl) ?_ (by rw [bq14]; rfl)
  exact fun _ _ _ _ _ _ r hr e => no_kw (by decide +kernel) hr e
end K01

set_option Elab.async false
set_option linter.all false
set_option maxRecDepth 100000
set_option maxHeartbeats 8000000
namespace K01
open PySem L2 Tm
theorem all_mk {l : PySem.W.OpenLaw} {w : World} {K : PySem.W.Frag} {h : Heap} {mg : Str → Option Value} {fa : Addr} (X : K.In h) (Gm : h.Ns mainGlobals mg) (hfa : mg "law" = some (.ref fa))
    {f0 : Addr} {oc0 : Value} {od0 an0 : Option Addr} {osl0 : Array (Option Value)} {kV0 doc0 pm0 cdv0 ct0 : Value}
    {f1 : Addr} {oc1 : Value} {od1 an1 : Option Addr} {osl1 : Array (Option Value)} {kV1 doc1 pm1 cdv1 ct1 : Value}
    {f2 : Addr} {oc2 : Value} {od2 an2 : Option Addr} {osl2 : Array (Option Value)} {kV2 doc2 pm2 cdv2 ct2 : Value}
    {f3 : Addr} {oc3 : Value} {od3 an3 : Option Addr} {osl3 : Array (Option Value)} {kV3 doc3 pm3 cdv3 ct3 : Value}
    {f4 : Addr} {oc4 : Value} {od4 an4 : Option Addr} {osl4 : Array (Option Value)} {kV4 doc4 pm4 cdv4 ct4 : Value}
    {f5 : Addr} {oc5 : Value} {od5 an5 : Option Addr} {osl5 : Array (Option Value)} {kV5 doc5 pm5 cdv5 ct5 : Value}
    {f6 : Addr} {oc6 : Value} {od6 an6 : Option Addr} {osl6 : Array (Option Value)} {kV6 doc6 pm6 cdv6 ct6 : Value}
    {f7 : Addr} {oc7 : Value} {od7 an7 : Option Addr} {osl7 : Array (Option Value)} {kV7 doc7 pm7 cdv7 ct7 : Value}
    {f8 : Addr} {oc8 : Value} {od8 an8 : Option Addr} {osl8 : Array (Option Value)} {kV8 doc8 pm8 cdv8 ct8 : Value}
    {f9 : Addr} {oc9 : Value} {od9 an9 : Option Addr} {osl9 : Array (Option Value)} {kV9 doc9 pm9 cdv9 ct9 : Value}
    {f10 : Addr} {oc10 : Value} {od10 an10 : Option Addr} {osl10 : Array (Option Value)} {kV10 doc10 pm10 cdv10 ct10 : Value}
    {f11 : Addr} {oc11 : Value} {od11 an11 : Option Addr} {osl11 : Array (Option Value)} {kV11 doc11 pm11 cdv11 ct11 : Value}
    {f12 : Addr} {oc12 : Value} {od12 an12 : Option Addr} {osl12 : Array (Option Value)} {kV12 doc12 pm12 cdv12 ct12 : Value}
    {f13 : Addr} {oc13 : Value} {od13 an13 : Option Addr} {osl13 : Array (Option Value)} {kV13 doc13 pm13 cdv13 ct13 : Value}
    {f14 : Addr} {oc14 : Value} {od14 an14 : Option Addr} {osl14 : Array (Option Value)} {kV14 doc14 pm14 cdv14 ct14 : Value}
    (a0 : PySem.W.nsIn K mainGlobals "reads" = some (some (.ref f0))) (l0 : List.lookup f0 K = some ⟨oc0, od0, .func (PySem.W.fnOf "reads" "reads" (defArgs s0) (defBody s0) (defScope s0) .none kV0 doc0 pm0 an0 cdv0 ct0), osl0⟩) (c0 : PySem.W.codeIn K cdv0 "reads" = true) (k0 : PySem.W.keepIn K (.ref f0) = true)
    (a1 : PySem.W.nsIn K mainGlobals "writes" = some (some (.ref f1))) (l1 : List.lookup f1 K = some ⟨oc1, od1, .func (PySem.W.fnOf "writes" "writes" (defArgs s1) (defBody s1) (defScope s1) .none kV1 doc1 pm1 an1 cdv1 ct1), osl1⟩) (c1 : PySem.W.codeIn K cdv1 "writes" = true) (k1 : PySem.W.keepIn K (.ref f1) = true)
    (a2 : PySem.W.nsIn K mainGlobals "cell_of" = some (some (.ref f2))) (l2 : List.lookup f2 K = some ⟨oc2, od2, .func (PySem.W.fnOf "cell_of" "cell_of" (defArgs s2) (defBody s2) (defScope s2) .none kV2 doc2 pm2 an2 cdv2 ct2), osl2⟩) (c2 : PySem.W.codeIn K cdv2 "cell_of" = true) (k2 : PySem.W.keepIn K (.ref f2) = true)
    (a3 : PySem.W.nsIn K mainGlobals "result" = some (some (.ref f3))) (l3 : List.lookup f3 K = some ⟨oc3, od3, .func (PySem.W.fnOf "result" "result" (defArgs s3) (defBody s3) (defScope s3) .none kV3 doc3 pm3 an3 cdv3 ct3), osl3⟩) (c3 : PySem.W.codeIn K cdv3 "result" = true) (k3 : PySem.W.keepIn K (.ref f3) = true)
    (a4 : PySem.W.nsIn K mainGlobals "_law_spring" = some (some (.ref f4))) (l4 : List.lookup f4 K = some ⟨oc4, od4, .func (PySem.W.fnOf "_law_spring" "_law_spring" (defArgs s4) (defBody s4) (defScope s4) .none kV4 doc4 pm4 an4 cdv4 ct4), osl4⟩) (c4 : PySem.W.codeIn K cdv4 "_law_spring" = true) (k4 : PySem.W.keepIn K (.ref f4) = true)
    (a5 : PySem.W.nsIn K mainGlobals "_law_pick" = some (some (.ref f5))) (l5 : List.lookup f5 K = some ⟨oc5, od5, .func (PySem.W.fnOf "_law_pick" "_law_pick" (defArgs s5) (defBody s5) (defScope s5) .none kV5 doc5 pm5 an5 cdv5 ct5), osl5⟩) (c5 : PySem.W.codeIn K cdv5 "_law_pick" = true) (k5 : PySem.W.keepIn K (.ref f5) = true)
    (a6 : PySem.W.nsIn K mainGlobals "_law_word" = some (some (.ref f6))) (l6 : List.lookup f6 K = some ⟨oc6, od6, .func (PySem.W.fnOf "_law_word" "_law_word" (defArgs s6) (defBody s6) (defScope s6) .none kV6 doc6 pm6 an6 cdv6 ct6), osl6⟩) (c6 : PySem.W.codeIn K cdv6 "_law_word" = true) (k6 : PySem.W.keepIn K (.ref f6) = true)
    (a7 : PySem.W.nsIn K mainGlobals "_law_instruction" = some (some (.ref f7))) (l7 : List.lookup f7 K = some ⟨oc7, od7, .func (PySem.W.fnOf "_law_instruction" "_law_instruction" (defArgs s7) (defBody s7) (defScope s7) .none kV7 doc7 pm7 an7 cdv7 ct7), osl7⟩) (c7 : PySem.W.codeIn K cdv7 "_law_instruction" = true) (k7 : PySem.W.keepIn K (.ref f7) = true)
    (a8 : PySem.W.nsIn K mainGlobals "_law_bits" = some (some (.ref f8))) (l8 : List.lookup f8 K = some ⟨oc8, od8, .func (PySem.W.fnOf "_law_bits" "_law_bits" (defArgs s8) (defBody s8) (defScope s8) .none kV8 doc8 pm8 an8 cdv8 ct8), osl8⟩) (c8 : PySem.W.codeIn K cdv8 "_law_bits" = true) (k8 : PySem.W.keepIn K (.ref f8) = true)
    (a9 : PySem.W.nsIn K mainGlobals "_law_sum" = some (some (.ref f9))) (l9 : List.lookup f9 K = some ⟨oc9, od9, .func (PySem.W.fnOf "_law_sum" "_law_sum" (defArgs s9) (defBody s9) (defScope s9) .none kV9 doc9 pm9 an9 cdv9 ct9), osl9⟩) (c9 : PySem.W.codeIn K cdv9 "_law_sum" = true) (k9 : PySem.W.keepIn K (.ref f9) = true)
    (a10 : PySem.W.nsIn K mainGlobals "_law_read" = some (some (.ref f10))) (l10 : List.lookup f10 K = some ⟨oc10, od10, .func (PySem.W.fnOf "_law_read" "_law_read" (defArgs s10) (defBody s10) (defScope s10) .none kV10 doc10 pm10 an10 cdv10 ct10), osl10⟩) (c10 : PySem.W.codeIn K cdv10 "_law_read" = true) (k10 : PySem.W.keepIn K (.ref f10) = true)
    (a11 : PySem.W.nsIn K mainGlobals "_law_written" = some (some (.ref f11))) (l11 : List.lookup f11 K = some ⟨oc11, od11, .func (PySem.W.fnOf "_law_written" "_law_written" (defArgs s11) (defBody s11) (defScope s11) .none kV11 doc11 pm11 an11 cdv11 ct11), osl11⟩) (c11 : PySem.W.codeIn K cdv11 "_law_written" = true) (k11 : PySem.W.keepIn K (.ref f11) = true)
    (a12 : PySem.W.nsIn K mainGlobals "_law_like" = some (some (.ref f12))) (l12 : List.lookup f12 K = some ⟨oc12, od12, .func (PySem.W.fnOf "_law_like" "_law_like" (defArgs s12) (defBody s12) (defScope s12) .none kV12 doc12 pm12 an12 cdv12 ct12), osl12⟩) (c12 : PySem.W.codeIn K cdv12 "_law_like" = true) (k12 : PySem.W.keepIn K (.ref f12) = true)
    (a13 : PySem.W.nsIn K mainGlobals "_law_right" = some (some (.ref f13))) (l13 : List.lookup f13 K = some ⟨oc13, od13, .func (PySem.W.fnOf "_law_right" "_law_right" (defArgs s13) (defBody s13) (defScope s13) .none kV13 doc13 pm13 an13 cdv13 ct13), osl13⟩) (c13 : PySem.W.codeIn K cdv13 "_law_right" = true) (k13 : PySem.W.keepIn K (.ref f13) = true)
    (a14 : PySem.W.nsIn K mainGlobals "law" = some (some (.ref f14))) (l14 : List.lookup f14 K = some ⟨oc14, od14, .func (PySem.W.fnOf "law" "law" (defArgs s14) (defBody s14) (defScope s14) .none kV14 doc14 pm14 an14 cdv14 ct14), osl14⟩) (c14 : PySem.W.codeIn K cdv14 "law" = true) (k14 : PySem.W.keepIn K (.ref f14) = true)
    {ad0 : Addr} {es0 : Array DictEntry} {ep0 : Nat} (da0 : PySem.W.nsIn K mainGlobals "READ_AT" = some (some (.ref ad0))) (dl0 : List.lookup ad0 K = some { cls := .type "dict", data := .dict es0 ep0 }) (lit0 : PySem.W.KeysLit w.params es0.toList) (low0 : (ad0 == sysModules) = false) (dm0 : DMatch K es0.toList (kdK01 0))
    {ac0 : Addr} (ca0 : PySem.W.nsIn K mainGlobals "WRITERS" = some (some (.ref ac0))) (cr0 : ∀ ρ H, Rep K ρ H (.ref ac0) (glK01 0))
    (z0 : PySem.W.nsIn K mainGlobals "tuple" = some none)
    (z1 : PySem.W.nsIn K mainGlobals "len" = some none)
    (z2 : PySem.W.nsIn K mainGlobals "max" = some none)
    (z3 : PySem.W.nsIn K mainGlobals "abs" = some none)
    (z4 : PySem.W.nsIn K mainGlobals "int" = some none)
    (z5 : PySem.W.nsIn K mainGlobals "range" = some none)
    (z6 : PySem.W.nsIn K mainGlobals "repr" = some none)
    (z7 : PySem.W.nsIn K mainGlobals "min" = some none)
    : ∃ fd : FuncData, (∀ (s : Shared) (u : Value), BindsTo s fd ⟨[u], []⟩ [(("script" : Str), u)]) ∧ ∀ (W k : Nat) (base : Heap), K.In base → base.Ns mainGlobals mg → FnG l.prog w K mg base k fa fd ["script"] (spR K 1 (run prK01 W k 14)) := by
  have e := hfa.symm.trans (PySem.W.mg_of X Gm a14)
  cases e
  have T : Stands K mg w prK01 G 60 := by
    refine ⟨fun x f ps hl => ?_, fun x g hl => ?_, fun x g hl => ?_, fun x hx => ?_⟩
    · refine (show ∀ e ∈ G.funs, FnHere K mg prK01 G 60 e from ?_) _ (Tm.mem_of_lookup hl)
      exact List.forall_mem_cons.2 ⟨here0 X Gm a0 l0 c0 k0, List.forall_mem_cons.2 ⟨here1 X Gm a1 l1 c1 k1, List.forall_mem_cons.2 ⟨here2 X Gm a2 l2 c2 k2, List.forall_mem_cons.2 ⟨here3 X Gm a3 l3 c3 k3, List.forall_mem_cons.2 ⟨here4 X Gm a4 l4 c4 k4, List.forall_mem_cons.2 ⟨here5 X Gm a5 l5 c5 k5, List.forall_mem_cons.2 ⟨here6 X Gm a6 l6 c6 k6, List.forall_mem_cons.2 ⟨here7 X Gm a7 l7 c7 k7, List.forall_mem_cons.2 ⟨here8 X Gm a8 l8 c8 k8, List.forall_mem_cons.2 ⟨here9 X Gm a9 l9 c9 k9, List.forall_mem_cons.2 ⟨here10 X Gm a10 l10 c10 k10, List.forall_mem_cons.2 ⟨here11 X Gm a11 l11 c11 k11, List.forall_mem_cons.2 ⟨here12 X Gm a12 l12 c12 k12, List.forall_mem_cons.2 ⟨here13 X Gm a13 l13 c13 k13, List.forall_mem_cons.2 ⟨here14 X Gm a14 l14 c14 k14, (fun _ hn => absurd hn List.not_mem_nil)⟩⟩⟩⟩⟩⟩⟩⟩⟩⟩⟩⟩⟩⟩⟩
    · have hm := Tm.mem_of_lookup hl
      simp only [G, List.mem_cons, List.not_mem_nil, or_false, Prod.mk.injEq] at hm
      obtain ⟨rfl, rfl⟩ := hm
      exact ⟨_, .ref ac0, PySem.W.mg_of X Gm ca0, rfl, cr0⟩
    · have hm := Tm.mem_of_lookup hl
      simp only [G, List.mem_cons, List.not_mem_nil, or_false, Prod.mk.injEq] at hm
      obtain ⟨rfl, rfl⟩ := hm
      exact dict_here X Gm da0 dl0 lit0 low0 dm0
    · have hm : x ∈ G.blt := by simpa using hx
      simp only [G, List.mem_cons, List.not_mem_nil, or_false] at hm
      rcases hm with rfl | rfl | rfl | rfl | rfl | rfl | rfl | rfl
      · exact PySem.W.mg_none_of X Gm z0
      · exact PySem.W.mg_none_of X Gm z1
      · exact PySem.W.mg_none_of X Gm z2
      · exact PySem.W.mg_none_of X Gm z3
      · exact PySem.W.mg_none_of X Gm z4
      · exact PySem.W.mg_none_of X Gm z5
      · exact PySem.W.mg_none_of X Gm z6
      · exact PySem.W.mg_none_of X Gm z7
  exact ⟨_, fun s v => .of_eq rfl, fun W k base _ _ => law_fng T (fun_mk (st := s14) l14 c14 k14) sc14 (by rw [bq14]; rfl) W k⟩
end K01

open PySem PySem.W PyProof.Rows in
set_option maxRecDepth 100000 in
set_option maxHeartbeats 0 in
theorem PySem.Challenge.cw_touchroad_k01_what_instructions_make_holds : PySem.Challenge.rw_touchroad_k01_what_instructions_make.Holds := by
  w_on; o_law; k_head; (case hw => w_witness2)
  k_fill
  refine Tm.walk_M (l := PySem.Challenge.rw_touchroad_k01_what_instructions_make) (q := Tm.prK01) (f := 14) rfl rfl (fun w h Y => PySem.W.kIn_of Y) ?F (fun ns _ => Tm.law_run ns)
  case F =>
    intro w mg fa h KX G hmg
    refine' K01.all_mk KX G hmg ?a0 ?l0 ?c0 ?k0 ?a1 ?l1 ?c1 ?k1 ?a2 ?l2 ?c2 ?k2 ?a3 ?l3 ?c3 ?k3 ?a4 ?l4 ?c4 ?k4 ?a5 ?l5 ?c5 ?k5 ?a6 ?l6 ?c6 ?k6 ?a7 ?l7 ?c7 ?k7 ?a8 ?l8 ?c8 ?k8 ?a9 ?l9 ?c9 ?k9 ?a10 ?l10 ?c10 ?k10 ?a11 ?l11 ?c11 ?k11 ?a12 ?l12 ?c12 ?k12 ?a13 ?l13 ?c13 ?k13 ?a14 ?l14 ?c14 ?k14 ?da0 ?dl0 ?lit0 ?low0 ?dm0 ?ca0 ?cr0 ?z0 ?z1 ?z2 ?z3 ?z4 ?z5 ?z6 ?z7
    (case a0 => k_is)
    (case l0 => k_is)
    (case c0 => k_is)
    (case k0 => k_is)
    (case a1 => k_is)
    (case l1 => k_is)
    (case c1 => k_is)
    (case k1 => k_is)
    (case a2 => k_is)
    (case l2 => k_is)
    (case c2 => k_is)
    (case k2 => k_is)
    (case a3 => k_is)
    (case l3 => k_is)
    (case c3 => k_is)
    (case k3 => k_is)
    (case a4 => k_is)
    (case l4 => k_is)
    (case c4 => k_is)
    (case k4 => k_is)
    (case a5 => k_is)
    (case l5 => k_is)
    (case c5 => k_is)
    (case k5 => k_is)
    (case a6 => k_is)
    (case l6 => k_is)
    (case c6 => k_is)
    (case k6 => k_is)
    (case a7 => k_is)
    (case l7 => k_is)
    (case c7 => k_is)
    (case k7 => k_is)
    (case a8 => k_is)
    (case l8 => k_is)
    (case c8 => k_is)
    (case k8 => k_is)
    (case a9 => k_is)
    (case l9 => k_is)
    (case c9 => k_is)
    (case k9 => k_is)
    (case a10 => k_is)
    (case l10 => k_is)
    (case c10 => k_is)
    (case k10 => k_is)
    (case a11 => k_is)
    (case l11 => k_is)
    (case c11 => k_is)
    (case k11 => k_is)
    (case a12 => k_is)
    (case l12 => k_is)
    (case c12 => k_is)
    (case k12 => k_is)
    (case a13 => k_is)
    (case l13 => k_is)
    (case c13 => k_is)
    (case k13 => k_is)
    (case a14 => k_is)
    (case l14 => k_is)
    (case c14 => k_is)
    (case k14 => k_is)
    (case da0 => k_is)
    (case dl0 => k_is)
    (case lit0 => exact He.keysLit_of (ks := ["add", "sub", "and", "xor", "below", "load", "store", "swap", "addto", "ifzero"]) rfl)
    (case low0 => rfl)
    (case dm0 =>
      refine' .cons (tok := none) ⟨_, rfl⟩ (v := L2.V.ref _) rfl (Tm.tup_here (xs := [L2.V.int 2, L2.V.int 3]) ?tdm0_0 ?tdm0_0c ?tdm0_0s ?tdm0_0v (fun _ _ => (.cons (Tm.Rep.int 2) (.cons (Tm.Rep.int 3) .nil)))) (.cons (tok := none) ⟨_, rfl⟩ (v := L2.V.ref _) rfl (Tm.tup_here (xs := [L2.V.int 2, L2.V.int 3]) ?tdm0_1 ?tdm0_1c ?tdm0_1s ?tdm0_1v (fun _ _ => (.cons (Tm.Rep.int 2) (.cons (Tm.Rep.int 3) .nil)))) (.cons (tok := none) ⟨_, rfl⟩ (v := L2.V.ref _) rfl (Tm.tup_here (xs := [L2.V.int 2, L2.V.int 3]) ?tdm0_2 ?tdm0_2c ?tdm0_2s ?tdm0_2v (fun _ _ => (.cons (Tm.Rep.int 2) (.cons (Tm.Rep.int 3) .nil)))) (.cons (tok := none) ⟨_, rfl⟩ (v := L2.V.ref _) rfl (Tm.tup_here (xs := [L2.V.int 2, L2.V.int 3]) ?tdm0_3 ?tdm0_3c ?tdm0_3s ?tdm0_3v (fun _ _ => (.cons (Tm.Rep.int 2) (.cons (Tm.Rep.int 3) .nil)))) (.cons (tok := none) ⟨_, rfl⟩ (v := L2.V.ref _) rfl (Tm.tup_here (xs := [L2.V.int 2, L2.V.int 3]) ?tdm0_4 ?tdm0_4c ?tdm0_4s ?tdm0_4v (fun _ _ => (.cons (Tm.Rep.int 2) (.cons (Tm.Rep.int 3) .nil)))) (.cons (tok := none) ⟨_, rfl⟩ (v := L2.V.ref _) rfl (Tm.tup_here (xs := [L2.V.int 2]) ?tdm0_5 ?tdm0_5c ?tdm0_5s ?tdm0_5v (fun _ _ => (.cons (Tm.Rep.int 2) .nil))) (.cons (tok := none) ⟨_, rfl⟩ (v := L2.V.ref _) rfl (Tm.tup_here (xs := [L2.V.int 1, L2.V.int 2]) ?tdm0_6 ?tdm0_6c ?tdm0_6s ?tdm0_6v (fun _ _ => (.cons (Tm.Rep.int 1) (.cons (Tm.Rep.int 2) .nil)))) (.cons (tok := none) ⟨_, rfl⟩ (v := L2.V.ref _) rfl (Tm.tup_here (xs := [L2.V.int 2, L2.V.int 3]) ?tdm0_7 ?tdm0_7c ?tdm0_7s ?tdm0_7v (fun _ _ => (.cons (Tm.Rep.int 2) (.cons (Tm.Rep.int 3) .nil)))) (.cons (tok := none) ⟨_, rfl⟩ (v := L2.V.ref _) rfl (Tm.tup_here (xs := [L2.V.int 2, L2.V.int 3]) ?tdm0_8 ?tdm0_8c ?tdm0_8s ?tdm0_8v (fun _ _ => (.cons (Tm.Rep.int 2) (.cons (Tm.Rep.int 3) .nil)))) (.cons (tok := none) ⟨_, rfl⟩ (v := L2.V.ref _) rfl (Tm.tup_here (xs := [L2.V.int 1]) ?tdm0_9 ?tdm0_9c ?tdm0_9s ?tdm0_9v (fun _ _ => (.cons (Tm.Rep.int 1) .nil))) (.nil))))))))))
      (case tdm0_0 => k_is)
      (case tdm0_0c => rfl)
      (case tdm0_0s => exact Nat.le_of_ble_eq_true rfl)
      (case tdm0_0v => exact (.cons ⟨_, rfl⟩ (.cons ⟨_, rfl⟩ .nil)))
      (case tdm0_1 => k_is)
      (case tdm0_1c => rfl)
      (case tdm0_1s => exact Nat.le_of_ble_eq_true rfl)
      (case tdm0_1v => exact (.cons ⟨_, rfl⟩ (.cons ⟨_, rfl⟩ .nil)))
      (case tdm0_2 => k_is)
      (case tdm0_2c => rfl)
      (case tdm0_2s => exact Nat.le_of_ble_eq_true rfl)
      (case tdm0_2v => exact (.cons ⟨_, rfl⟩ (.cons ⟨_, rfl⟩ .nil)))
      (case tdm0_3 => k_is)
      (case tdm0_3c => rfl)
      (case tdm0_3s => exact Nat.le_of_ble_eq_true rfl)
      (case tdm0_3v => exact (.cons ⟨_, rfl⟩ (.cons ⟨_, rfl⟩ .nil)))
      (case tdm0_4 => k_is)
      (case tdm0_4c => rfl)
      (case tdm0_4s => exact Nat.le_of_ble_eq_true rfl)
      (case tdm0_4v => exact (.cons ⟨_, rfl⟩ (.cons ⟨_, rfl⟩ .nil)))
      (case tdm0_5 => k_is)
      (case tdm0_5c => rfl)
      (case tdm0_5s => exact Nat.le_of_ble_eq_true rfl)
      (case tdm0_5v => exact (.cons ⟨_, rfl⟩ .nil))
      (case tdm0_6 => k_is)
      (case tdm0_6c => rfl)
      (case tdm0_6s => exact Nat.le_of_ble_eq_true rfl)
      (case tdm0_6v => exact (.cons ⟨_, rfl⟩ (.cons ⟨_, rfl⟩ .nil)))
      (case tdm0_7 => k_is)
      (case tdm0_7c => rfl)
      (case tdm0_7s => exact Nat.le_of_ble_eq_true rfl)
      (case tdm0_7v => exact (.cons ⟨_, rfl⟩ (.cons ⟨_, rfl⟩ .nil)))
      (case tdm0_8 => k_is)
      (case tdm0_8c => rfl)
      (case tdm0_8s => exact Nat.le_of_ble_eq_true rfl)
      (case tdm0_8v => exact (.cons ⟨_, rfl⟩ (.cons ⟨_, rfl⟩ .nil)))
      (case tdm0_9 => k_is)
      (case tdm0_9c => rfl)
      (case tdm0_9s => exact Nat.le_of_ble_eq_true rfl)
      (case tdm0_9v => exact (.cons ⟨_, rfl⟩ .nil)))
    (case ca0 => k_is)
    (case cr0 =>
      refine' (Tm.tup_here (xs := [L2.V.str "set", L2.V.str "add", L2.V.str "sub", L2.V.str "and", L2.V.str "xor", L2.V.str "below", L2.V.str "load", L2.V.str "swap", L2.V.str "addto"]) ?tcr0 ?tcr0c ?tcr0s ?tcr0v (fun _ _ => (.cons (Tm.Rep.str "set") (.cons (Tm.Rep.str "add") (.cons (Tm.Rep.str "sub") (.cons (Tm.Rep.str "and") (.cons (Tm.Rep.str "xor") (.cons (Tm.Rep.str "below") (.cons (Tm.Rep.str "load") (.cons (Tm.Rep.str "swap") (.cons (Tm.Rep.str "addto") .nil)))))))))))
      (case tcr0 => k_is)
      (case tcr0c => rfl)
      (case tcr0s => exact Nat.le_of_ble_eq_true rfl)
      (case tcr0v => exact (.cons ⟨_, rfl⟩ (.cons ⟨_, rfl⟩ (.cons ⟨_, rfl⟩ (.cons ⟨_, rfl⟩ (.cons ⟨_, rfl⟩ (.cons ⟨_, rfl⟩ (.cons ⟨_, rfl⟩ (.cons ⟨_, rfl⟩ (.cons ⟨_, rfl⟩ .nil)))))))))))
    (case z0 => k_is)
    (case z1 => k_is)
    (case z2 => k_is)
    (case z3 => k_is)
    (case z4 => k_is)
    (case z5 => k_is)
    (case z6 => k_is)
    (case z7 => k_is)
