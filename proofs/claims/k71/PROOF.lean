import PyProof.Rows.All
import Wide.All
import OpenK.AllK
import Wide.FinOn
import HandS.ForMost
import HandS.Conv
import HandS.Wide
import HandS.WideMore
import HandS.TupAny
import HandS.TupMul
import HandS.Deep
import HandS.Style
import HandS.IsInst
import HandS.RaiseMore
import HandS.Defaults
import HandS.More
import HandS.Dict
import HandS.Rev
import HandS.Zip
import HandS.TryOnly
import HandS.Text
import KE.GoesZip
import KE.GoesMore
import HandS.MapObj
import HandS.Iter
import HandS.Steps
import HandS.HeadHook3
import PySem.Challenge.RW_touchroad_k71_programs_written_and_read
set_option Elab.async false
set_option linter.all false
set_option maxRecDepth 100000
namespace Tm
open PySem PySem.Spec PyProof.Rows L2

/-! ## values, the store -/
inductive D where
  | non | bl (b : Bool) | int (i : Int) | str (x : Str) | tup (ds : List D) | ref (n : Nat) | fn (x : Str)
inductive O where
  | lst (xs : List D) | ro (xs : List D) | dct (kvs : List (Key × D)) | ins (c : Str) (fs : List (Str × D))
def O.mut : O → Bool
  | .ro _ => false
  | _ => true
abbrev Store := List O
abbrev Env' := List (Option D)

mutual
def D.beq : D → D → Bool
  | .non, .non => true
  | .bl a, .bl b => a == b
  | .int i, .int j => decide (i = j)
  | .str x, .str y => decide (x = y)
  | .tup xs, .tup ys => D.beqs xs ys
  | .ref m, .ref n => Nat.beq m n
  | .fn x, .fn y => decide (x = y)
  | .non, .bl _ | .non, .int _ | .non, .str _ | .non, .tup _ | .non, .ref _ => false
  | .bl _, .non | .bl _, .int _ | .bl _, .str _ | .bl _, .tup _ | .bl _, .ref _ => false
  | .int _, .non | .int _, .bl _ | .int _, .str _ | .int _, .tup _ | .int _, .ref _ => false
  | .str _, .non | .str _, .bl _ | .str _, .int _ | .str _, .tup _ | .str _, .ref _ => false
  | .tup _, .non | .tup _, .bl _ | .tup _, .int _ | .tup _, .str _ | .tup _, .ref _ => false
  | .ref _, .non | .ref _, .bl _ | .ref _, .int _ | .ref _, .str _ | .ref _, .tup _ => false
  | .fn _, .non | .fn _, .bl _ | .fn _, .int _ | .fn _, .str _ | .fn _, .tup _ | .fn _, .ref _ => false
  | .non, .fn _ | .bl _, .fn _ | .int _, .fn _ | .str _, .fn _ | .tup _, .fn _ | .ref _, .fn _ => false
def D.beqs : List D → List D → Bool
  | [], [] => true
  | x :: xs, y :: ys => D.beq x y && D.beqs xs ys
  | [], _ :: _ | _ :: _, [] => false
end
mutual
theorem D.beq_eq : ∀ a b : D, D.beq a b = true → a = b
  | .non, b, h => by cases b <;> simp [D.beq] at h <;> rfl
  | .bl a, b, h => by cases b <;> simp [D.beq] at h; rw [h]
  | .int i, b, h => by cases b <;> simp [D.beq] at h; rw [h]
  | .str i, b, h => by cases b <;> simp [D.beq] at h; rw [h]
  | .tup xs, b, h => by cases b <;> simp [D.beq] at h; rw [D.beqs_eq _ _ h]
  | .ref n, b, h => by cases b <;> simp [D.beq] at h; rw [h]
  | .fn n, b, h => by cases b <;> simp [D.beq] at h; rw [h]
theorem D.beqs_eq : ∀ a b : List D, D.beqs a b = true → a = b
  | [], [], _ => rfl
  | x :: xs, y :: ys, h => by
    simp only [D.beqs, Bool.and_eq_true] at h
    rw [D.beq_eq x y h.1, D.beqs_eq xs ys h.2]
  | [], _ :: _, h => by simp [D.beqs] at h
  | _ :: _, [], h => by simp [D.beqs] at h
end
mutual
theorem D.beq_refl : ∀ a : D, D.beq a a = true
  | .non => rfl
  | .bl a => by simp [D.beq]
  | .int i => by simp [D.beq]
  | .str i => by simp [D.beq]
  | .tup xs => by simp only [D.beq]; exact D.beqs_refl xs
  | .ref n => by simp [D.beq]
  | .fn n => by simp [D.beq]
theorem D.beqs_refl : ∀ a : List D, D.beqs a a = true
  | [] => rfl
  | x :: xs => by simp only [D.beqs, Bool.and_eq_true]; exact ⟨D.beq_refl x, D.beqs_refl xs⟩
end

/-- the data of a value, through the lists of the store to a depth -/
def listAt (S : Store) (n : Nat) : Option (List D) :=
  match S[n]? with
  | some (.lst xs) => some xs
  | some (.ro xs) => some xs
  | _ => none
/-- the entries of a dict of the store -/
def dctAt (S : Store) (n : Nat) : Option (List (Key × D)) :=
  match S[n]? with
  | some (.dct kvs) => some kvs
  | _ => none
/-- an instance of the store: its class, its fields -/
def insAt (S : Store) (n : Nat) : Option (Str × List (Str × D)) :=
  match S[n]? with
  | some (.ins c fs) => some (c, fs)
  | _ => none
def mapO {α β : Type} (f : α → Option β) : List α → Option (List β)
  | [] => some []
  | x :: xs => (f x).bind fun y => (mapO f xs).map fun ys => y :: ys
mutual
def pdG (g : Nat → Option PyData) : D → Option PyData
  | .non => some .none
  | .bl b => some (.bool b)
  | .int i => some (.int i)
  | .str x => some (.str x)
  | .tup ds => (pdsG g ds).map .tuple
  | .ref n => g n
  | .fn _ => none
def pdsG (g : Nat → Option PyData) : List D → Option (List PyData)
  | [] => some []
  | d :: ds => (pdG g d).bind fun x => (pdsG g ds).map fun xs => x :: xs
end
def pdN (S : Store) : Nat → Nat → Option PyData
  | 0, _ => none
  | k + 1, n => (listAt S n).bind fun xs => (pdsG (pdN S k) xs).map .list
/-- lists within lists, to a depth of sixty -/
abbrev pd (S : Store) : D → Option PyData := pdG (pdN S 60)
abbrev pds (S : Store) : List D → Option (List PyData) := pdsG (pdN S 60)

/-! ## what stands for what -/
mutual
inductive Rep (K : PySem.W.Frag) (ρ : List Addr) (H : Hp) : V → D → Prop
  | non : Rep K ρ H .non .non
  | bl (b : Bool) : Rep K ρ H (.bl b) (.bl b)
  | int (i : Int) : Rep K ρ H (.int i) (.int i)
  | str (x : Str) : Rep K ρ H (.str x) (.str x)
  | tup {a : Addr} {vs : List V} {ds : List D} : SqT K H a vs → Reps K ρ H vs ds → Rep K ρ H (.ref a) (.tup ds)
  | ref {a : Addr} {n : Nat} : ρ[n]? = some a → Rep K ρ H (.ref a) (.ref n)
  | fn {a : Addr} {x : Str} : PySem.W.nsIn K mainGlobals x = some (some (.ref a)) → Rep K ρ H (.ref a) (.fn x)
inductive Reps (K : PySem.W.Frag) (ρ : List Addr) (H : Hp) : List V → List D → Prop
  | nil : Reps K ρ H [] []
  | cons {v : V} {vs : List V} {d : D} {ds : List D} : Rep K ρ H v d → Reps K ρ H vs ds → Reps K ρ H (v :: vs) (d :: ds)
end
structure Gro (H H' : Hp) : Prop where
  tup : ∀ a xs, H a = some (.tup xs) → H' a = some (.tup xs)
  frz : ∀ a o u, H a = some (.frz o u) → H' a = some (.frz o u)
  dk : ∀ a ks, H a = some (.dK ks) → ∃ ks', H' a = some (.dK ks')
theorem Gro.refl (H : Hp) : Gro H H := ⟨fun _ _ h => h, fun _ _ _ h => h, fun _ ks h => ⟨ks, h⟩⟩
theorem Gro.trans {H H1 H2 : Hp} (a : Gro H H1) (b : Gro H1 H2) : Gro H H2 :=
  ⟨fun x y h => b.tup x y (a.tup x y h), fun x y z h => b.frz x y z (a.frz x y z h), fun x y h => let ⟨_, q⟩ := a.dk x y h; b.dk x _ q⟩
theorem Gro.new {H : Hp} {p : Addr} {o : HO} (h : H p = none) : Gro H (upd H p o) :=
  ⟨fun a xs e => by rw [upd_ne (ne_of_none e h)]; exact e, fun a o u e => by rw [upd_ne (ne_of_none e h)]; exact e, fun a ks e => ⟨ks, by rw [upd_ne (ne_of_none e h)]; exact e⟩⟩
theorem Gro.mut {H : Hp} {p : Addr} {xs : List V} {o : HO} (h : H p = some (.lst xs)) : Gro H (upd H p o) :=
  ⟨fun a ys e => by rw [upd_ne (ne_of e h (by intro z; cases z))]; exact e, fun a o u e => by rw [upd_ne (ne_of e h (by intro z; cases z))]; exact e,
    fun a ks e => ⟨ks, by rw [upd_ne (ne_of e h (by intro z; cases z))]; exact e⟩⟩
theorem Gro.mutD {H : Hp} {p : Addr} {xs ys : List (Key × V)} (h : H p = some (.dK xs)) : Gro H (upd H p (.dK ys)) :=
  ⟨fun a ys e => by rw [upd_ne (ne_of e h (by intro z; cases z))]; exact e, fun a o u e => by rw [upd_ne (ne_of e h (by intro z; cases z))]; exact e,
    fun a ks e => by
      by_cases q : a = p
      · subst q; exact ⟨ys, upd_same⟩
      · exact ⟨ks, by rw [upd_ne q]; exact e⟩⟩
theorem Gro.mutI {H : Hp} {p : Addr} {C dx : Addr} {xs : List (Str × V)} {o : HO} (h : H p = some (.ins C dx xs)) : Gro H (upd H p o) :=
  ⟨fun a ys e => by rw [upd_ne (ne_of e h (by intro z; cases z))]; exact e, fun a o u e => by rw [upd_ne (ne_of e h (by intro z; cases z))]; exact e,
    fun a ks e => ⟨ks, by rw [upd_ne (ne_of e h (by intro z; cases z))]; exact e⟩⟩
theorem Gro.sqt {K : PySem.W.Frag} {H H' : Hp} {a : Addr} {xs : List V} (g : Gro H H') (h : SqT K H a xs) : SqT K H' a xs := by
  rcases h with (h | ⟨o, h⟩) | h
  · exact .inl (.inl (g.tup _ _ h))
  · exact .inl (.inr ⟨o, g.frz _ _ _ h⟩)
  · exact .inr h
def Pre (ρ ρ' : List Addr) : Prop := ∀ (n : Nat) (a : Addr), ρ[n]? = some a → ρ'[n]? = some a
theorem Pre.refl (ρ : List Addr) : Pre ρ ρ := fun _ _ h => h
theorem Pre.trans {a b c : List Addr} (h : Pre a b) (k : Pre b c) : Pre a c := fun n x e => k n x (h n x e)
theorem Pre.app (ρ : List Addr) (p : Addr) : Pre ρ (ρ ++ [p]) := fun n a e => by
  have := (List.getElem?_eq_some_iff.mp e).1
  rw [List.getElem?_append_left this]; exact e
section
variable {K : PySem.W.Frag} {ρ ρ' : List Addr} {H H' : Hp}
mutual
theorem Rep.mono (g : Gro H H') (q : Pre ρ ρ') : ∀ {v : V} {d : D}, Rep K ρ H v d → Rep K ρ' H' v d
  | _, _, .non => .non
  | _, _, .bl b => .bl b
  | _, _, .int i => .int i
  | _, _, .str x => .str x
  | _, _, .tup h r => .tup (g.sqt h) (Reps.mono g q r)
  | _, _, .ref h => .ref (q _ _ h)
  | _, _, .fn h => .fn h
theorem Reps.mono (g : Gro H H') (q : Pre ρ ρ') : ∀ {v : List V} {d : List D}, Reps K ρ H v d → Reps K ρ' H' v d
  | _, _, .nil => .nil
  | _, _, .cons h r => .cons (Rep.mono g q h) (Reps.mono g q r)
end
theorem Reps.length : ∀ {vs : List V} {ds : List D}, Reps K ρ H vs ds → vs.length = ds.length
  | _, _, .nil => rfl
  | _, _, .cons _ r => by simp [Reps.length r]
theorem Reps.get : ∀ {vs : List V} {ds : List D}, Reps K ρ H vs ds → ∀ {i : Nat} {d : D}, ds[i]? = some d → ∃ v, vs[i]? = some v ∧ Rep K ρ H v d
  | _, _, .nil, i, d, h => by simp at h
  | _, _, .cons r _, 0, d, h => by simp at h; subst h; exact ⟨_, rfl, r⟩
  | _, _, .cons _ t, i + 1, d, h => by
    obtain ⟨v, e, r⟩ := Reps.get t (i := i) (d := d) (by simpa using h)
    exact ⟨v, by simpa using e, r⟩
theorem Reps.get' : ∀ {vs : List V} {ds : List D}, Reps K ρ H vs ds → ∀ {i : Nat} {v : V}, vs[i]? = some v → ∃ d, ds[i]? = some d ∧ Rep K ρ H v d
  | _, _, .nil, i, d, h => by simp at h
  | _, _, .cons r _, 0, d, h => by simp at h; subst h; exact ⟨_, rfl, r⟩
  | _, _, .cons _ t, i + 1, d, h => by
    obtain ⟨v, e, r⟩ := Reps.get' t (i := i) (v := d) (by simpa using h)
    exact ⟨v, by simpa using e, r⟩
theorem Reps.append : ∀ {vs ws : List V} {ds es : List D}, Reps K ρ H vs ds → Reps K ρ H ws es → Reps K ρ H (vs ++ ws) (ds ++ es)
  | _, _, _, _, .nil, t => t
  | _, _, _, _, .cons r q, t => .cons r (Reps.append q t)
theorem Reps.take : ∀ {vs : List V} {ds : List D} (n : Nat), Reps K ρ H vs ds → Reps K ρ H (vs.take n) (ds.take n)
  | _, _, 0, _ => .nil
  | _, _, _ + 1, .nil => .nil
  | _, _, n + 1, .cons r t => .cons r (Reps.take n t)
theorem Reps.drop : ∀ {vs : List V} {ds : List D} (n : Nat), Reps K ρ H vs ds → Reps K ρ H (vs.drop n) (ds.drop n)
  | _, _, 0, r => r
  | _, _, _ + 1, .nil => .nil
  | _, _, n + 1, .cons _ t => Reps.drop n t
theorem Reps.set {v : V} {d : D} (r : Rep K ρ H v d) : ∀ {vs : List V} {ds : List D} (i : Nat), Reps K ρ H vs ds → Reps K ρ H (vs.set i v) (ds.set i d)
  | _, _, _, .nil => .nil
  | _, _, 0, .cons _ t => .cons r t
  | _, _, i + 1, .cons q t => .cons q (Reps.set r i t)
theorem Reps.flat {vs : List V} {ds : List D} (r : Reps K ρ H vs ds) : ∀ n : Nat, Reps K ρ H (List.replicate n vs).flatten (List.replicate n ds).flatten
  | 0 => .nil
  | n + 1 => by simp only [List.replicate_succ, List.flatten_cons]; exact r.append (r.flat n)
theorem rep_int {v : V} {i : Int} (h : Rep K ρ H v (.int i)) : v = .int i := by cases h; rfl
theorem rep_bl {v : V} {i : Bool} (h : Rep K ρ H v (.bl i)) : v = .bl i := by cases h; rfl
theorem rep_str {v : V} {i : Str} (h : Rep K ρ H v (.str i)) : v = .str i := by cases h; rfl
theorem rep_non {v : V} (h : Rep K ρ H v .non) : v = .non := by cases h; rfl
theorem rep_tup {v : V} {ds : List D} (h : Rep K ρ H v (.tup ds)) : ∃ a vs, v = .ref a ∧ SqT K H a vs ∧ Reps K ρ H vs ds := by
  cases h with | tup h r => exact ⟨_, _, rfl, h, r⟩
theorem rep_fn {v : V} {x : Str} (h : Rep K ρ H v (.fn x)) : ∃ a, v = .ref a ∧ PySem.W.nsIn K mainGlobals x = some (some (.ref a)) := by
  cases h with | fn h => exact ⟨_, rfl, h⟩
theorem rep_ref {v : V} {n : Nat} (h : Rep K ρ H v (.ref n)) : ∃ a, v = .ref a ∧ ρ[n]? = some a := by
  cases h with | ref h => exact ⟨_, rfl, h⟩
theorem reps_ints : ∀ (ns : List Int), Reps K ρ H (ns.map V.int) (ns.map D.int)
  | [] => .nil
  | n :: r => .cons (.int n) (reps_ints r)
end

/-- a list that nobody writes -/
def Fix (K : PySem.W.Frag) (H : Hp) (a : Addr) (vs : List V) : Prop := (∃ o, H a = some (.frz o (.lst vs))) ∨ SqL K (fun _ => none) a vs
theorem Fix.sql {K : PySem.W.Frag} {H : Hp} {a : Addr} {vs : List V} (h : Fix K H a vs) : SqL K H a vs := by
  rcases h with ⟨o, h⟩ | (h | ⟨o, h⟩) | h
  · exact .inl (.inr ⟨o, h⟩)
  · cases h
  · cases h
  · exact .inr h
theorem Fix.gro {K : PySem.W.Frag} {H H' : Hp} {a : Addr} {vs : List V} (g : Gro H H') (h : Fix K H a vs) : Fix K H' a vs := by
  rcases h with ⟨o, h⟩ | h
  · exact .inl ⟨o, g.frz _ _ _ h⟩
  · exact .inr h
def ObjR (K : PySem.W.Frag) (ρ : List Addr) (H : Hp) (a : Addr) : O → Prop
  | .lst xs => ∃ vs, H a = some (.lst vs) ∧ Reps K ρ H vs xs
  | .ro xs => ∃ vs, Fix K H a vs ∧ Reps K ρ H vs xs
  | .dct kvs => ∃ (ws : List (Key × V)), H a = some (.dK ws) ∧ ws.map Prod.fst = kvs.map Prod.fst ∧ Reps K ρ H (ws.map Prod.snd) (kvs.map Prod.snd)
  | .ins c fs => ∃ (C dx : Addr) (ws : List (Str × V)), H a = some (.ins C dx ws) ∧ PySem.W.nsIn K mainGlobals c = some (some (.ref C)) ∧ ws.map Prod.fst = fs.map Prod.fst ∧ Reps K ρ H (ws.map Prod.snd) (fs.map Prod.snd)
theorem ObjR.mono {K : PySem.W.Frag} {ρ ρ' : List Addr} {H H' : Hp} {a : Addr} {o : O} (g : Gro H H') (q : Pre ρ ρ') (hs : o.mut = true → H' a = H a) (r : ObjR K ρ H a o) : ObjR K ρ' H' a o := by
  cases o with
  | lst ys => obtain ⟨vs, h1, r⟩ := r; exact ⟨vs, (hs rfl).trans h1, r.mono g q⟩
  | ro ys => obtain ⟨vs, h1, r⟩ := r; exact ⟨vs, h1.gro g, r.mono g q⟩
  | dct ys => obtain ⟨vs, h1, h2, r⟩ := r; exact ⟨vs, (hs rfl).trans h1, h2, r.mono g q⟩
  | ins c ys => obtain ⟨C, dx, ws, h1, h2, h3, r⟩ := r; exact ⟨C, dx, ws, (hs rfl).trans h1, h2, h3, r.mono g q⟩
theorem ObjR.some {K : PySem.W.Frag} {ρ : List Addr} {H : Hp} {a : Addr} {o : O} (hm : o.mut = true) (r : ObjR K ρ H a o) : ∃ u, H a = some u := by
  cases o with
  | lst ys => obtain ⟨vs, h1, r⟩ := r; exact ⟨_, h1⟩
  | ro ys => cases hm
  | dct ys => obtain ⟨vs, h1, h2, r⟩ := r; exact ⟨_, h1⟩
  | ins c ys => obtain ⟨C, dx, ws, h1, h2, h3, r⟩ := r; exact ⟨_, h1⟩
def isMut (S : Store) (n : Nat) : Prop := ∃ o, S[n]? = some o ∧ o.mut = true
structure Sim (K : PySem.W.Frag) (ρ : List Addr) (S : Store) (H : Hp) : Prop where
  len : ρ.length = S.length
  obj : ∀ (n : Nat) (o : O) (a : Addr), S[n]? = some o → ρ[n]? = some a → ObjR K ρ H a o
  inj : ∀ (m n : Nat) (a : Addr), ρ[m]? = some a → ρ[n]? = some a → isMut S m → isMut S n → m = n
section
variable {K : PySem.W.Frag} {ρ ρ' : List Addr} {H H' : Hp} {S : Store}
theorem Sim.at (h : Sim K ρ S H) {n : Nat} {o : O} (e : S[n]? = some o) : ∃ a, ρ[n]? = some a ∧ ObjR K ρ H a o := by
  have hn := (List.getElem?_eq_some_iff.mp e).1
  rw [← h.len] at hn
  exact ⟨ρ[n], by simp [hn], h.obj n o _ e (by simp [hn])⟩
theorem Sim.at' (h : Sim K ρ S H) {n : Nat} {a : Addr} (e : ρ[n]? = some a) : ∃ o, S[n]? = some o ∧ ObjR K ρ H a o := by
  have hn := (List.getElem?_eq_some_iff.mp e).1
  rw [h.len] at hn
  exact ⟨S[n], by simp [hn], h.obj n _ _ (by simp [hn]) e⟩
theorem Sim.list (h : Sim K ρ S H) {n : Nat} {xs : List D} {a : Addr} (e : listAt S n = some xs) (ea : ρ[n]? = some a) : ∃ vs, SqL K H a vs ∧ Reps K ρ H vs xs := by
  unfold listAt at e
  split at e
  · rename_i ys e1
    cases e
    obtain ⟨vs, h1, r⟩ := h.obj n _ a e1 ea
    exact ⟨vs, SqL.of h1, r⟩
  · rename_i ys e1
    cases e
    obtain ⟨vs, h1, r⟩ := h.obj n _ a e1 ea
    exact ⟨vs, h1.sql, r⟩
  · cases e
/-- a tuple is made -/
theorem Sim.tup (h : Sim K ρ S H) {p : Addr} {xs : List V} (hp : H p = none) : Sim K ρ S (upd H p (.tup xs)) := by
  refine ⟨h.len, fun n o a e ea => (h.obj n o a e ea).mono (Gro.new hp) (Pre.refl ρ) fun hm => ?_, h.inj⟩
  obtain ⟨u, hu⟩ := (h.obj n o a e ea).some hm
  exact upd_ne (ne_of_none hu hp)
/-- an object is made -/
theorem Sim.newG (h : Sim K ρ S H) {p : Addr} {o : O} {ho : HO} (hp : H p = none) (r : ObjR K (ρ ++ [p]) (upd H p ho) p o) : Sim K (ρ ++ [p]) (S ++ [o]) (upd H p ho) := by
  have g : Gro H (upd H p ho) := Gro.new hp
  refine ⟨by simp [h.len], fun n o' a e ea => ?_, fun m n a e1 e2 m1 m2 => ?_⟩
  · by_cases hn : n < S.length
    · rw [List.getElem?_append_left hn] at e
      rw [List.getElem?_append_left (by rw [h.len]; exact hn)] at ea
      refine (h.obj n o' a e ea).mono g (Pre.app ρ p) fun hm => ?_
      obtain ⟨u, hu⟩ := (h.obj n o' a e ea).some hm
      exact upd_ne (ne_of_none hu hp)
    · have hl : n = S.length := by
        have := (List.getElem?_eq_some_iff.mp e).1
        simp at this; omega
      subst hl
      rw [List.getElem?_append_right (Nat.le_refl _)] at e
      rw [← h.len, List.getElem?_append_right (Nat.le_refl _)] at ea
      simp at e ea
      subst e; subst ea
      exact r
  · have old : ∀ {m : Nat}, m < S.length → (ρ ++ [p])[m]? = some a → isMut (S ++ [o]) m → ρ[m]? = some a ∧ isMut S m ∧ a ≠ p := by
      intro m hm e1 ⟨ys, m1, m2⟩
      rw [List.getElem?_append_left (by rw [h.len]; exact hm)] at e1
      rw [List.getElem?_append_left hm] at m1
      obtain ⟨u, hu⟩ := (h.obj m _ a m1 e1).some m2
      exact ⟨e1, ⟨ys, m1, m2⟩, ne_of_none hu hp⟩
    have lim : ∀ {m : Nat}, (ρ ++ [p])[m]? = some a → m < S.length ∨ (m = S.length ∧ a = p) := by
      intro m e1
      by_cases hm : m < S.length
      · exact .inl hm
      · have := (List.getElem?_eq_some_iff.mp e1).1
        simp [h.len] at this
        have hm2 : m = S.length := by omega
        subst hm2
        rw [← h.len, List.getElem?_append_right (Nat.le_refl _)] at e1
        simp at e1
        exact .inr ⟨rfl, e1.symm⟩
    rcases lim e1 with k1 | ⟨k1, q1⟩
    · obtain ⟨a1, a2, a3⟩ := old k1 e1 m1
      rcases lim e2 with k2 | ⟨k2, q2⟩
      · obtain ⟨b1, b2, _⟩ := old k2 e2 m2
        exact h.inj m n a a1 b1 a2 b2
      · exact absurd q2 a3
    · rcases lim e2 with k2 | ⟨k2, q2⟩
      · obtain ⟨_, _, b3⟩ := old k2 e2 m2
        exact absurd q1 b3
      · rw [k1, k2]
/-- a list is made -/
theorem Sim.new (h : Sim K ρ S H) {p : Addr} {vs : List V} {xs : List D} (hp : H p = none) (r : Reps K ρ H vs xs) : Sim K (ρ ++ [p]) (S ++ [.lst xs]) (upd H p (.lst vs)) :=
  h.newG hp ⟨vs, upd_same, r.mono (Gro.new hp) (Pre.app ρ p)⟩
/-- a dict is made, empty -/
theorem Sim.newD (h : Sim K ρ S H) {p : Addr} (hp : H p = none) : Sim K (ρ ++ [p]) (S ++ [.dct []]) (upd H p (.dK [])) :=
  h.newG hp ⟨[], upd_same, rfl, .nil⟩
/-- an object is changed -/
theorem Sim.putG (h : Sim K ρ S H) {n : Nat} {p : Addr} {o0 o : O} {ho : HO} (e : S[n]? = some o0) (m0 : o0.mut = true) (ep : ρ[n]? = some p) (g : Gro H (upd H p ho)) (r : ObjR K ρ (upd H p ho) p o) :
    Sim K ρ (S.set n o) (upd H p ho) := by
  have hn := (List.getElem?_eq_some_iff.mp e).1
  have mm : ∀ {m : Nat}, isMut (S.set n o) m → isMut S m := by
    intro m ⟨zs, hm, hz⟩
    by_cases q : n = m
    · subst q; exact ⟨o0, e, m0⟩
    · rw [List.getElem?_set_ne q] at hm; exact ⟨zs, hm, hz⟩
  refine ⟨by simp [h.len], fun m o' a em ea => ?_, fun m k a e1 e2 m1 m2 => h.inj m k a e1 e2 (mm m1) (mm m2)⟩
  by_cases q : n = m
  · subst q
    rw [List.getElem?_set_self hn] at em
    rw [ep] at ea
    cases ea; cases em
    exact r
  · rw [List.getElem?_set_ne q] at em
    exact (h.obj m o' a em ea).mono g (Pre.refl ρ) fun hm => upd_ne fun z => q (h.inj n m p ep (z ▸ ea) ⟨o0, e, m0⟩ ⟨o', em, hm⟩)
/-- a list is changed -/
theorem Sim.put (h : Sim K ρ S H) {n : Nat} {p : Addr} {vs ws : List V} {xs ys : List D} (e : S[n]? = some (.lst xs)) (ep : ρ[n]? = some p) (hp : H p = some (.lst ws)) (r : Reps K ρ H vs ys) :
    Sim K ρ (S.set n (.lst ys)) (upd H p (.lst vs)) :=
  h.putG e rfl ep (Gro.mut hp) ⟨vs, upd_same, r.mono (Gro.mut hp) (Pre.refl ρ)⟩
/-- a dict is changed -/
theorem Sim.putD (h : Sim K ρ S H) {n : Nat} {p : Addr} {ws us : List (Key × V)} {kvs lvs : List (Key × D)} (e : S[n]? = some (.dct kvs)) (ep : ρ[n]? = some p) (hp : H p = some (.dK us)) (hk : ws.map Prod.fst = lvs.map Prod.fst)
    (r : Reps K ρ H (ws.map Prod.snd) (lvs.map Prod.snd)) : Sim K ρ (S.set n (.dct lvs)) (upd H p (.dK ws)) :=
  h.putG e rfl ep (Gro.mutD hp) ⟨ws, upd_same, hk, r.mono (Gro.mutD hp) (Pre.refl ρ)⟩
theorem Sim.dct (h : Sim K ρ S H) {n : Nat} {kvs : List (Key × D)} {a : Addr} (e : dctAt S n = some kvs) (ea : ρ[n]? = some a) : S[n]? = some (.dct kvs) ∧ ∃ (ws : List (Key × V)), H a = some (.dK ws) ∧ ws.map Prod.fst = kvs.map Prod.fst ∧ Reps K ρ H (ws.map Prod.snd) (kvs.map Prod.snd) := by
  unfold dctAt at e
  split at e
  · rename_i ys e1
    cases e
    exact ⟨e1, h.obj n _ a e1 ea⟩
  · cases e
/-- an instance is made, empty; an object that nobody sees comes before it -/
theorem Sim.newI (h : Sim K ρ S H) {p dx C : Addr} {c : Str} (hp : H p = none) (hd : H dx = none) (hne : dx ≠ p) (hc : PySem.W.nsIn K mainGlobals c = some (some (.ref C))) :
    Sim K (ρ ++ [p]) (S ++ [.ins c []]) (upd (upd H dx (.own p)) p (.ins C dx [])) := by
  have h1 : Sim K ρ S (upd H dx (.own p)) := by
    refine ⟨h.len, fun n o a e ea => (h.obj n o a e ea).mono (Gro.new hd) (Pre.refl ρ) fun hm => ?_, h.inj⟩
    obtain ⟨u, hu⟩ := (h.obj n o a e ea).some hm
    exact upd_ne (ne_of_none hu hd)
  exact h1.newG (by rw [upd_ne (Ne.symm hne)]; exact hp) ⟨C, dx, [], upd_same, hc, rfl, .nil⟩
theorem Sim.ins (h : Sim K ρ S H) {n : Nat} {c : Str} {fs : List (Str × D)} {a : Addr} (e : insAt S n = some (c, fs)) (ea : ρ[n]? = some a) :
    S[n]? = some (.ins c fs) ∧ ∃ (C dx : Addr) (ws : List (Str × V)), H a = some (.ins C dx ws) ∧ PySem.W.nsIn K mainGlobals c = some (some (.ref C)) ∧ ws.map Prod.fst = fs.map Prod.fst ∧ Reps K ρ H (ws.map Prod.snd) (fs.map Prod.snd) := by
  unfold insAt at e
  split at e
  · rename_i c' ys e1
    cases e
    exact ⟨e1, h.obj n _ a e1 ea⟩
  · cases e
/-- a field is stored -/
theorem Sim.putI (h : Sim K ρ S H) {n : Nat} {p C dx : Addr} {c : Str} {fs0 fs : List (Str × D)} {us ws : List (Str × V)} (e : S[n]? = some (.ins c fs0)) (ep : ρ[n]? = some p) (hp : H p = some (.ins C dx us)) (hc : PySem.W.nsIn K mainGlobals c = some (some (.ref C)))
    (hk : ws.map Prod.fst = fs.map Prod.fst) (r : Reps K ρ H (ws.map Prod.snd) (fs.map Prod.snd)) : Sim K ρ (S.set n (.ins c fs)) (upd H p (.ins C dx ws)) :=
  h.putG e rfl ep (Gro.mutI hp) ⟨C, dx, ws, upd_same, hc, hk, r.mono (Gro.mutI hp) (Pre.refl ρ)⟩
theorem Rep.of_lookup {f : Str} {d : D} : ∀ {ws : List (Str × V)} {fs : List (Str × D)}, ws.map Prod.fst = fs.map Prod.fst → Reps K ρ H (ws.map Prod.snd) (fs.map Prod.snd) → fs.lookup f = some d → ∃ v, ws.lookup f = some v ∧ Rep K ρ H v d
  | [], [], _, _, h => by cases h
  | [], _ :: _, h, _, _ => by cases h
  | _ :: _, [], h, _, _ => by cases h
  | (x, w) :: ws, (y, e) :: fs, hk, .cons r t, h => by
    simp only [List.map_cons, List.cons.injEq] at hk
    obtain ⟨h1, h2⟩ := hk
    subst h1
    rw [List.lookup_cons] at h ⊢
    split
    · rename_i q; rw [q] at h; cases h; exact ⟨w, rfl, r⟩
    · rename_i q; rw [q] at h; exact Rep.of_lookup h2 t h
end
/-- a field put in, as the model puts it -/
def putFD (f : Str) (d : D) : List (Str × D) → List (Str × D)
  | [] => [(f, d)]
  | (g, e) :: r => if g = f then (g, d) :: r else (g, e) :: putFD f d r
theorem putF_cons (f : Str) (v : V) (g : Str) (w : V) (r : List (Str × V)) : putF f v ((g, w) :: r) = if g = f then (g, v) :: r else (g, w) :: putF f v r := rfl
theorem putF_reps {K : PySem.W.Frag} {ρ : List Addr} {H : Hp} {f : Str} {v : V} {d : D} (rv : Rep K ρ H v d) : ∀ {ws : List (Str × V)} {fs : List (Str × D)}, ws.map Prod.fst = fs.map Prod.fst → Reps K ρ H (ws.map Prod.snd) (fs.map Prod.snd) →
    (putF f v ws).map Prod.fst = (putFD f d fs).map Prod.fst ∧ Reps K ρ H ((putF f v ws).map Prod.snd) ((putFD f d fs).map Prod.snd)
  | [], [], _, _ => ⟨rfl, .cons rv .nil⟩
  | [], _ :: _, h, _ => by cases h
  | _ :: _, [], h, _ => by cases h
  | (x, w) :: ws, (y, e) :: fs, hk, .cons r t => by
    simp only [List.map_cons, List.cons.injEq] at hk
    obtain ⟨h1, h2⟩ := hk
    subst h1
    obtain ⟨a, b⟩ := putF_reps rv (f := f) h2 t
    rw [putF_cons]
    unfold putFD
    by_cases q : x = f
    · rw [if_pos q, if_pos q]
      exact ⟨by simp [h2], .cons rv t⟩
    · rw [if_neg q, if_neg q]
      exact ⟨by simp [a], .cons r b⟩
end Tm

set_option Elab.async false
set_option linter.all false
set_option maxRecDepth 100000
namespace Tm
open PySem PySem.Spec PyProof.Rows L2

/-! ## the core: expressions, targets, statements -/
inductive Bin where
  | add | sub | mul | fdiv | mod | pow | shl | shr | band | bor | bxor
inductive Cmp where
  | eq | ne | lt | le | gt | ge | is_ | isn | in_ | nin
inductive Bi where
  | len | int | abs | max | min | tuple | list | str | repr | sum | all | any
inductive Mt where
  | starts | ends | split | join | extend | popAt | pop | rev | insert
inductive Ty where
  | int | str | tuple | list | bool | dict
inductive Tg where
  | bad | nm (i : Nat) | tp (n : Nat) (t : Tg) | nil | cons (a r : Tg)
inductive C where
  | bad
  | var (i : Nat)
  | lit (d : D)
  | glob (g : Nat)
  | nil | cons (a r : C)
  | tup (a : C) | lst (a : C)
  | bin (op : Bin) (a b : C)
  | neg (a : C)
  | cmp (op : Cmp) (a b : C)
  | chain (o1 o2 : Cmp) (a b c : C)
  | and_ (a b : C) | or_ (a b : C) | not_ (a : C)
  | ife (c a b : C)
  | idx (a b : C)
  | slc (a lo hi : C)
  | absent
  | kget (g : Nat) (a : C) | kin (g : Nat) (neg : Bool) (a : C) | kgetd (g : Nat) (a b : C)
  | call (f : Nat) (perm : List Nat) (a b : C)
  | callv (f a : C)
  | bi (b : Bi) (a : C)
  | isty (a : C) (t : Ty)
  | app (a v : C)
  | mt (m : Mt) (o a : C)
  | dnew
  | fld (o : C) (f : Str) (cs : List Str)
  | mk (x : Str) (f : Nat) (a : C)
  | revl (a : C)
  | disp (ks : List Key) (a : C)
  | lc (it : C) (t : Tg) (cond elt : C) (own : List Nat)
  | itv (a : C) | irng (a : C) | irev (a : C) | ienum (a : C) | izip (a b : C)
inductive St where
  | skip | bad
  | seq (a b : St)
  | asg (t : Tg) (c : C)
  | seti (v o i : C)
  | aug (i : Nat) (op : Bin) (c : C)
  | setf (v o : C) (f : Str) (cs : List Str)
  | augf (o : C) (f : Str) (cs : List Str) (op : Bin) (c : C)
  | drop (c : C)
  | ret (c : C)
  | ifs (c : C) (a b : St)
  | for_ (it : C) (t : Tg) (b : St)
  | whl (c : C) (b : St)
  | brk | cont
inductive Fl where
  | nx | rt (d : D) | bk | ct
structure Pm where
  R : Nat → List D → Store → Option (D × Store)
  gl : Nat → D
  kd : Nat → List (Str × D)
  W : Nat
  fx : Str → Option Nat

/-! ## operators -/
def okI (b : Bool) (d : D) (S : Store) : Option (D × Store) := if b = true then some (d, S) else none
def new (S : Store) (xs : List D) : D × Store := (.ref S.length, S ++ [.lst xs])
def binop : Bin → D → D → Store → Option (D × Store)
  | .add, .int i, .int j, S => some (.int (i + j), S)
  | .add, .str x, .str y, S => okI (decide (x.length + y.length ≤ sizeLine)) (.str (x ++ y)) S
  | .add, .tup xs, .tup ys, S => okI (decide (xs.length + ys.length ≤ sizeLine)) (.tup (xs ++ ys)) S
  | .add, .ref m, .ref n, S => match S[m]?, S[n]? with
    | some (.lst xs), some (.lst ys) => if xs.length + ys.length ≤ sizeLine then some (new S (xs ++ ys)) else none
    | _, _ => none
  | .sub, .int i, .int j, S => some (.int (i - j), S)
  | .mul, .int i, .int j, S => okI (decide (i.natAbs.log2 + j.natAbs.log2 < 1000000) || decide (j.natAbs < 2 ^ 64)) (.int (i * j)) S
  | .mul, .ref n, .int k, S => match S[n]? with
    | some (.lst xs) => if decide (-(2 ^ 63) ≤ k) && decide (k < 2 ^ 63) && decide (xs.length * k.toNat ≤ sizeLine) then some (new S (List.replicate k.toNat xs).flatten) else none
    | _ => none
  | .mul, .tup xs, .int k, S => okI (!xs.isEmpty && decide (2 ≤ k) && decide (k ≤ 1000) && decide (xs.length ≤ 1000)) (.tup (List.replicate k.toNat xs).flatten) S
  | .fdiv, .int i, .int j, S => okI (decide (0 < j) && decide (j.natAbs.log2 < 9000)) (.int (i / j)) S
  | .mod, .int i, .int j, S => okI (decide (0 < j)) (.int (i % j)) S
  | .pow, .int i, .int j, S => okI (decide (0 ≤ j) && decide ((Builtin.Int.intBits i : Int) * j ≤ 2 ^ 27)) (.int (i ^ j.toNat)) S
  | .shl, .int i, .int j, S => okI (decide (0 ≤ j) && decide (j ≤ 1000000) && decide (i.natAbs < 2 ^ 64)) (.int (i * 2 ^ j.toNat)) S
  | .shr, .int i, .int j, S => okI (decide (0 ≤ j)) (.int (i / 2 ^ j.toNat)) S
  | .band, .int i, .int j, S => some (.int (Builtin.bitAnd i j), S)
  | .bor, .int i, .int j, S => some (.int (Builtin.bitOr i j), S)
  | .bxor, .int i, .int j, S => some (.int (Builtin.bitXor i j), S)
  | _, _, _, _ => none
/-- equality: scalars at once, else by data -/
def eqD (S : Store) : D → D → Option Bool
  | .int i, .int j => some (decide (i = j))
  | .str x, .str y => some (decide (x = y))
  | .bl a, .bl b => some (decide (a = b))
  | .non, .non => some true
  | a, b => (pd S a).bind fun x => (pd S b).bind fun y => if SeqAt.shaped x && SeqAt.shaped y then some (PyData.eqv x y) else none
def isScal : D → Bool
  | .non | .bl _ | .int _ | .str _ => true
  | _ => false
def scEq : D → D → Bool
  | .non, .non => true
  | .bl a, .bl b => a == b
  | .int i, .int j => decide (i = j)
  | .str x, .str y => decide (x = y)
  | .bl a, .int j => decide ((if a then 1 else 0) = j)
  | .int i, .bl b => decide (i = (if b then 1 else 0))
  | _, _ => false
def inD (S : Store) (x : D) : D → Option Bool
  | .tup xs => if isScal x && xs.all isScal then some (xs.any fun y => scEq y x) else none
  | .ref n => (listAt S n).bind fun xs =>
    if isScal x && xs.all isScal then some (xs.any fun y => scEq y x)
    else (pd S x).bind fun d => (pds S xs).bind fun ds => if SeqAt.shaped d && SeqAt.shaped (.list ds) then some (ds.any fun z => PyData.eqv z d) else none
  | .str z => match x with
    | .str w => match w.cps.toList with
      | [c] => some (decide (c ∈ z.cps.toList))
      | _ => none
    | _ => none
  | _ => none
def cmpop : Cmp → D → D → Store → Option Bool
  | .eq, a, b, S => eqD S a b
  | .ne, a, b, S => (eqD S a b).map (!·)
  | .lt, .int i, .int j, _ => some (decide (i < j))
  | .le, .int i, .int j, _ => some (decide (i ≤ j))
  | .gt, .int i, .int j, _ => some (decide (j < i))
  | .ge, .int i, .int j, _ => some (decide (j ≤ i))
  | .is_, .non, .non, _ => some true
  | .is_, .bl _, .non, _ | .is_, .int _, .non, _ | .is_, .str _, .non, _ | .is_, .tup _, .non, _ | .is_, .ref _, .non, _ => some false
  | .isn, .non, .non, _ => some false
  | .isn, .bl _, .non, _ | .isn, .int _, .non, _ | .isn, .str _, .non, _ | .isn, .tup _, .non, _ | .isn, .ref _, .non, _ => some true
  | .is_, .bl a, .bl b, _ => some (decide (a = b))
  | .isn, .bl a, .bl b, _ => some (!decide (a = b))
  | .in_, a, b, S => inD S a b
  | .nin, a, b, S => (inD S a b).map (!·)
  | _, _, _, _ => none
def idxop : D → D → Store → Option D
  | .tup xs, .int i, _ => atI xs i
  | .ref n, .int i, S => (listAt S n).bind fun xs => atI xs i
  | .str z, .int i, _ => if z.length ≤ sizeLine then (atI z.cps.toList i).map fun c => .str ⟨#[c]⟩ else none
  | _, _, _ => none
def isAbs : C → Bool
  | .absent => true
  | _ => false
/-- a part of a slice: absent, or an int -/
def part (b : Bool) (S : Store) (r : Option (D × Store)) : Option (Option Int × Store) :=
  if b = true then some (none, S) else r.bind fun x => match x.1 with
    | .int i => some (some i, x.2)
    | _ => none
def cutD (xs : List D) (lo hi : Option Int) : List D := (xs.drop (HT.sIx xs.length 0 lo)).take (HT.sIx xs.length xs.length hi - HT.sIx xs.length 0 lo)
def slcop : D → Option Int → Option Int → Store → Option (D × Store)
  | .tup xs, lo, hi, S => some (.tup (cutD xs lo hi), S)
  | .ref n, lo, hi, S => (listAt S n).map fun xs => new S (cutD xs lo hi)
  | .str z, lo, hi, S => okI (decide (z.length ≤ sizeLine)) (.str (cutS z lo hi)) S
  | _, _, _, _ => none
def intsD : List D → Option (List Int)
  | [] => some []
  | .int i :: r => (intsD r).map fun s => i :: s
  | _ => none
def blsD : List D → Option (List Bool)
  | [] => some []
  | .bl i :: r => (blsD r).map fun s => i :: s
  | _ => none
def biop : Bi → List D → Store → Option (D × Store)
  | .len, [.tup xs], S => some (.int xs.length, S)
  | .len, [.ref n], S => (listAt S n).map fun xs => (.int xs.length, S)
  | .len, [.str z], S => okI (decide (z.length ≤ sizeLine)) (.int z.length) S
  | .int, [.int i], S => some (.int i, S)
  | .int, [.bl b], S => some (.int (if b then 1 else 0), S)
  | .int, [.str a], S => match PySem.intText? a with
    | some n => okI (decide (a.length ≤ 640)) (.int n) S
    | none => none
  | .abs, [.int i], S => some (.int (if i < 0 then -i else i), S)
  | .max, [.int i, .int j], S => some (.int (if j > i then j else i), S)
  | .min, [.int i, .int j], S => some (.int (if j < i then j else i), S)
  | .tuple, [.tup xs], S => some (.tup xs, S)
  | .tuple, [.ref n], S => (listAt S n).map fun xs => (.tup xs, S)
  | .list, [.tup xs], S => some (new S xs)
  | .list, [.ref n], S => (listAt S n).map fun xs => new S xs
  | .str, [.int i], S => okI (decide (i.natAbs.log2 < 1920)) (.str (toString i)) S
  | .str, [.str x], S => some (.str x, S)
  | .repr, [d], S => (pd S d).bind fun x => if x.showable && decide (x.depth ≤ 64) && decide (x.shown.length ≤ sizeLine) then some (.str x.shown, S) else none
  | .sum, [.ref n], S => (listAt S n).bind fun xs => (intsD xs).map fun is => (.int is.sum, S)
  | .all, [.ref n], S => (listAt S n).bind fun xs => (blsD xs).map fun bs => (.bl (bs.all id), S)
  | .any, [.ref n], S => (listAt S n).bind fun xs => (blsD xs).map fun bs => (.bl (bs.any id), S)
  | _, _, _ => none
def tyop : D → Ty → Store → Option Bool
  | .non, _, _ => some false
  | .bl _, t, _ => some (match t with | .int | .bool => true | _ => false)
  | .int _, t, _ => some (match t with | .int => true | _ => false)
  | .str _, t, _ => some (match t with | .str => true | _ => false)
  | .tup _, t, _ => some (match t with | .tuple => true | _ => false)
  | .ref n, t, S => (listAt S n).map fun _ => match t with | .list => true | _ => false
  | .fn _, _, _ => none
def lookK (l : List (Str × D)) (x : Str) : Option D := l.lookup x
def pick {α : Type} (perm : List Nat) (l : List α) : List α := perm.filterMap fun i => l[i]?
def push (n : Nat) (d : D) (S : Store) : Option Store := match S[n]? with
  | some (.lst xs) => if xs.length < sizeLine then some (S.set n (.lst (xs ++ [d]))) else none
  | _ => none
def setS (o i v : D) (S : Store) : Option Store := match o, i with
  | .ref n, .int k => match S[n]? with
    | some (.lst xs) => (ixN xs.length k).map fun j => S.set n (.lst (xs.set j v))
    | _ => none
  | _, _ => none
/-! ### dicts, methods -/
def alt {α : Type} (a b : Option α) : Option α := match a with
  | some x => some x
  | none => b
theorem alt_some {α : Type} {a b : Option α} {x : α} (h : a = some x) : alt a b = some x := by rw [h]; rfl
theorem alt_none {α : Type} {a b : Option α} (h : a = none) : alt a b = b := by rw [h]; rfl
theorem alt_or {α : Type} {a b : Option α} {x : α} (h : alt a b = some x) : a = some x ∨ b = some x := by
  cases a with
  | none => exact .inr h
  | some y => exact .inl h
def augop : Bin → D → D → Option D
  | .add, .int i, .int j => some (.int (i + j))
  | .sub, .int i, .int j => some (.int (i - j))
  | .add, .str x, .str y => if x.length + y.length ≤ sizeLine then some (.str (x ++ y)) else none
  | _, _, _ => none
def keyD : D → Option Key
  | .int i => some (.inl i)
  | .str x => some (.inr x)
  | _ => none
def valD (kvs : List (Key × D)) (k : Key) : Option D := (kvs.find? fun kv => decide (kv.1 = k)).map (·.2)
def putD (kvs : List (Key × D)) (k : Key) (v : D) : List (Key × D) :=
  if (kvs.any fun kv => decide (kv.1 = k)) = true then kvs.map (fun kv => if kv.1 = k then (kv.1, v) else kv) else kvs ++ [(k, v)]
def mergeD (kvs more : List (Key × D)) : List (Key × D) := more.foldl (fun acc kv => putD acc kv.1 kv.2) kvs
def dgetop : D → D → Store → Option D
  | .ref n, k, S => (keyD k).bind fun kk => (dctAt S n).bind fun kvs => valD kvs kk
  | _, _, _ => none
def dinop : Cmp → D → D → Store → Option Bool
  | .in_, k, .ref n, S => (keyD k).bind fun kk => (dctAt S n).map fun kvs => (valD kvs kk).isSome
  | .nin, k, .ref n, S => (keyD k).bind fun kk => (dctAt S n).map fun kvs => !(valD kvs kk).isSome
  | _, _, _, _ => none
def dputS : D → D → D → Store → Option Store
  | .ref n, k, v, S => (keyD k).bind fun kk => (dctAt S n).bind fun kvs => if kvs.length < sizeLine then some (S.set n (.dct (putD kvs kk v))) else none
  | _, _, _, _ => none
def tydop : D → Ty → Store → Option Bool
  | .ref n, t, S => (dctAt S n).map fun _ => match t with | .dict => true | _ => false
  | _, _, _ => none
/-- a list, if anything of the store -/
def okRef (S : Store) : D → Bool
  | .ref n => (listAt S n).isSome
  | _ => true
def putfS (cs : List Str) (f : Str) (o d : D) (S : Store) : Option Store := match o with
  | .ref n => (insAt S n).bind fun r => if cs.contains r.1 = true ∧ r.2.length < 1000 then some (S.set n (.ins r.1 (putFD f d r.2))) else none
  | _ => none
def fldS (cs : List Str) (f : Str) (o : D) (S : Store) : Option D := match o with
  | .ref n => (insAt S n).bind fun r => if cs.contains r.1 = true then r.2.lookup f else none
  | _ => none
def clsS (o : D) (S : Store) : Option Str := match o with
  | .ref n => (insAt S n).map (·.1)
  | _ => none
def strsD : List D → Option (List Str)
  | [] => some []
  | .str i :: r => (strsD r).map fun s => i :: s
  | _ => none
def mtop : Mt → D → List D → Store → Option (D × Store)
  | .starts, .str a, [.str b], S => some (.bl (Txt.startswith a b), S)
  | .ends, .str a, [.str b], S => some (.bl (Txt.endswith a b), S)
  | .split, .str a, [.str b], S => if (b.length == 0) = false ∧ a.length + 2 ≤ sizeLine then some (new S ((Txt.split a b).map D.str)) else none
  | .join, .str a, [.ref n], S => (listAt S n).bind fun xs => (strsD xs).bind fun ys => okI (decide ((ys.map (·.length)).sum + ys.length * a.length ≤ 16777216)) (.str (Txt.join a ys)) S
  | .join, .str a, [.tup xs], S => (strsD xs).bind fun ys => okI (decide ((ys.map (·.length)).sum + ys.length * a.length ≤ 16777216)) (.str (Txt.join a ys)) S
  | .extend, .ref m, [.ref n], S => match S[m]?, S[n]? with
    | some (.lst xs), some (.lst zs) => if xs.length + zs.length ≤ sizeLine then some (.non, S.set m (.lst (xs ++ zs))) else none
    | _, _ => none
  | .popAt, .ref m, [.int i], S => match S[m]? with
    | some (.lst xs) => if -(2 ^ 63) ≤ i ∧ i < 2 ^ 63 then (PySem.seqIndex? i xs.length).bind fun k => (xs[k]?).map fun y => (y, S.set m (.lst (xs.eraseIdx k))) else none
    | _ => none
  | .pop, .ref m, [], S => match S[m]? with
    | some (.lst xs) => (xs[xs.length - 1]?).map fun y => (y, S.set m (.lst xs.dropLast))
    | _ => none
  | .rev, .ref m, [], S => match S[m]? with
    | some (.lst xs) => some (.non, S.set m (.lst xs.reverse))
    | _ => none
  | .insert, .ref m, [.int i, y], S => match S[m]? with
    | some (.lst xs) => if xs.length < sizeLine ∧ 0 ≤ i ∧ i < 2 ^ 63 then some (.non, S.set m (.lst (xs.take i.toNat ++ [y] ++ xs.drop i.toNat))) else none
    | _ => none
  | _, _, _, _ => none
mutual
def bindT : Tg → D → Store → Env' → Option Env'
  | .nm i, d, _, e => if i < e.length then some (e.set i (some d)) else none
  | .tp n t, .tup ds, S, e => if ds.length = n then bindTs t ds S e else none
  | .tp n t, .ref m, S, e => (listAt S m).bind fun ds => if ds.length = n then bindTs t ds S e else none
  | _, _, _, _ => none
def bindTs : Tg → List D → Store → Env' → Option Env'
  | .nil, [], _, e => some e
  | .cons a r, d :: ds, S, e => (bindT a d S e).bind fun e1 => bindTs r ds S e1
  | _, _, _, _ => none
end
def wipeE (e : Env') : List Nat → Env'
  | [] => e
  | v :: vs => (wipeE e vs).set v none

/-! ## what is walked: the items, and the lists that must stay as they are -/
def chk1 (S : Store) : D → Bool
  | .tup [.ref n, .tup xs] => match listAt S n with
    | some ys => D.beqs xs ys
    | none => false
  | _ => false
def chks (S : Store) : List D → Bool
  | [] => true
  | c :: r => chk1 S c && chks S r
def itD (items cks : List D) : D := .tup [.tup items, .tup cks]
def charsD (z : Str) : List D := z.cps.toList.map fun c => D.str ⟨#[c]⟩
def itOf (S : Store) : D → Option (List D × List D)
  | .tup xs => some (xs, [])
  | .ref n => (listAt S n).map fun xs => (xs, [.tup [.ref n, .tup xs]])
  | .str z => some (charsD z, [])
  | _ => none
def itOfR (S : Store) : D → Option (List D × List D)
  | .tup xs => some (xs, [])
  | .ref n => (listAt S n).map fun xs => (xs, [.tup [.ref n, .tup xs]])
  | _ => none
def itOfL (S : Store) : D → Option (List D × List D)
  | .ref n => (listAt S n).map fun xs => (xs, [.tup [.ref n, .tup xs]])
  | _ => none
def rng (lo : Int) (n : Nat) : List D := (List.range n).map fun (i : Nat) => D.int (lo + (i : Int))
def rngs : List D → Option (List D)
  | [.int j] => if decide (-(2 ^ 62) ≤ j) && decide (j < 2 ^ 62) then some (rng 0 j.toNat) else none
  | [.int i, .int j] => if decide (-(2 ^ 62) ≤ i) && decide (i < 2 ^ 62) && decide (-(2 ^ 62) ≤ j) && decide (j < 2 ^ 62) then some (rng i (j - i).toNat) else none
  | _ => none
def enumF : Nat → List D → List D
  | _, [] => []
  | i, d :: ds => .tup [.int (i : Int), d] :: enumF (i + 1) ds
def zipF : List D → List D → List D
  | d :: ds, f :: fs => .tup [d, f] :: zipF ds fs
  | _, _ => []

def forL (bod : Env' → Store → Option (Fl × Env' × Store)) (t : Tg) (cks : List D) : List D → Env' → Store → Option (Fl × Env' × Store)
  | [], e, S => if chks S cks = true then some (.nx, e, S) else none
  | d :: ds, e, S => if chks S cks = true then
      (bindT t d S e).bind fun e1 => (bod e1 S).bind fun r => match r.1 with
        | .nx | .ct => forL bod t cks ds r.2.1 r.2.2
        | .bk => some (.nx, r.2.1, r.2.2)
        | .rt v => some (.rt v, r.2.1, r.2.2)
    else none
def lcL (cnd elt : Env' → Store → Option (D × Store)) (t : Tg) (cks : List D) (w : Env') (n : Nat) : List D → Store → Option Store
  | [], S => if chks S cks = true then some S else none
  | d :: ds, S => if chks S cks = true then
      (bindT t d S w).bind fun e1 => (cnd e1 S).bind fun b => match b.1 with
        | .bl true => (elt e1 b.2).bind fun y => (push n y.1 y.2).bind fun S' => lcL cnd elt t cks w n ds S'
        | .bl false => lcL cnd elt t cks w n ds b.2
        | _ => none
    else none
def whL (cnd : Env' → Store → Option (D × Store)) (bod : Env' → Store → Option (Fl × Env' × Store)) : Nat → Env' → Store → Option (Fl × Env' × Store)
  | 0, _, _ => none
  | k + 1, e, S => (cnd e S).bind fun b => match b.1 with
    | .bl true => (bod e b.2).bind fun r => match r.1 with
      | .nx | .ct => whL cnd bod k r.2.1 r.2.2
      | .bk => some (.nx, r.2.1, r.2.2)
      | .rt v => some (.rt v, r.2.1, r.2.2)
    | .bl false => some (.nx, e, b.2)
    | _ => none

/-! ## the machine -/
def ev (p : Pm) : C → Env' → Store → Option (D × Store)
  | .bad, _, _ => none
  | .absent, _, _ => none
  | .var i, e, S => match e[i]? with
    | some (some d) => some (d, S)
    | _ => none
  | .lit d, _, S => if isScal d then some (d, S) else none
  | .glob g, _, S => some (p.gl g, S)
  | .nil, _, S => some (.tup [], S)
  | .cons a r, e, S => (ev p a e S).bind fun x => (ev p r e x.2).bind fun y => match y.1 with
    | .tup ds => some (.tup (x.1 :: ds), y.2)
    | _ => none
  | .tup a, e, S => (ev p a e S).bind fun x => match x.1 with
    | .tup ds => okI (decide (ds.length ≤ sizeLine)) (.tup ds) x.2
    | _ => none
  | .lst a, e, S => (ev p a e S).bind fun x => match x.1 with
    | .tup ds => if ds.length ≤ sizeLine then some (new x.2 ds) else none
    | _ => none
  | .bin op a b, e, S => (ev p a e S).bind fun x => (ev p b e x.2).bind fun y => binop op x.1 y.1 y.2
  | .neg a, e, S => (ev p a e S).bind fun x => match x.1 with
    | .int i => some (.int (-i), x.2)
    | _ => none
  | .cmp op a b, e, S => (ev p a e S).bind fun x => (ev p b e x.2).bind fun y => (alt (cmpop op x.1 y.1 y.2) (dinop op x.1 y.1 y.2)).map fun r => (.bl r, y.2)
  | .chain o1 o2 a b c, e, S => (ev p a e S).bind fun x => (ev p b e x.2).bind fun y => (cmpop o1 x.1 y.1 y.2).bind fun r =>
      if r = true then (ev p c e y.2).bind fun z => (cmpop o2 y.1 z.1 z.2).map fun q => (.bl q, z.2) else some (.bl false, y.2)
  | .and_ a b, e, S => (ev p a e S).bind fun x => match x.1 with
    | .bl true => ev p b e x.2
    | .bl false => some (.bl false, x.2)
    | _ => none
  | .or_ a b, e, S => (ev p a e S).bind fun x => match x.1 with
    | .bl true => some (.bl true, x.2)
    | .bl false => ev p b e x.2
    | _ => none
  | .not_ a, e, S => (ev p a e S).bind fun x => match x.1 with
    | .bl b => some (.bl (!b), x.2)
    | _ => none
  | .ife c a b, e, S => (ev p c e S).bind fun x => match x.1 with
    | .bl true => ev p a e x.2
    | .bl false => ev p b e x.2
    | _ => none
  | .idx a b, e, S => (ev p a e S).bind fun x => (ev p b e x.2).bind fun y => (alt (idxop x.1 y.1 y.2) (dgetop x.1 y.1 y.2)).map fun d => (d, y.2)
  | .slc a lo hi, e, S => (ev p a e S).bind fun x => (part (isAbs lo) x.2 (ev p lo e x.2)).bind fun y => (part (isAbs hi) y.2 (ev p hi e y.2)).bind fun z =>
      slcop x.1 y.1 z.1 z.2
  | .kget g a, e, S => (ev p a e S).bind fun x => match x.1 with
    | .str z => (lookK (p.kd g) z).map fun d => (d, x.2)
    | _ => none
  | .kin g neg a, e, S => (ev p a e S).bind fun x => match x.1 with
    | .str z => some (.bl (if neg then !(lookK (p.kd g) z).isSome else (lookK (p.kd g) z).isSome), x.2)
    | _ => none
  | .kgetd g a b, e, S => (ev p a e S).bind fun x => (ev p b e x.2).bind fun y => match x.1 with
    | .str z => some ((lookK (p.kd g) z).getD y.1, y.2)
    | _ => none
  | .call f perm a b, e, S => (ev p a e S).bind fun x => (ev p b e x.2).bind fun y => match x.1, y.1 with
    | .tup ds, .tup fs => p.R f (pick perm (ds ++ fs)) y.2
    | _, _ => none
  | .callv f a, e, S => (ev p f e S).bind fun x => (ev p a e x.2).bind fun y => match x.1, y.1 with
    | .fn z, .tup ds => (p.fx z).bind fun i => p.R i ds y.2
    | _, _ => none
  | .bi b a, e, S => (ev p a e S).bind fun x => match x.1 with
    | .tup ds => biop b ds x.2
    | _ => none
  | .isty a t, e, S => (ev p a e S).bind fun x => (alt (tyop x.1 t x.2) (tydop x.1 t x.2)).map fun b => (.bl b, x.2)
  | .app a v, e, S => (ev p a e S).bind fun x => (ev p v e x.2).bind fun y => match x.1 with
    | .ref n => if okRef x.2 x.1 = true then (push n y.1 y.2).map fun S' => (.non, S') else none
    | _ => none
  | .mt m o a, e, S => (ev p o e S).bind fun x => (ev p a e x.2).bind fun y => match y.1 with
    | .tup ds => if okRef x.2 x.1 = true then mtop m x.1 ds y.2 else none
    | _ => none
  | .dnew, _, S => some (.ref S.length, S ++ [.dct []])
  | .fld o f cs, e, S => (ev p o e S).bind fun x => (fldS cs f x.1 x.2).map fun d => (d, x.2)
  | .mk x f a, e, S => (ev p a e S).bind fun y => match y.1 with
    | .tup ds => (p.R f (.ref y.2.length :: ds) (y.2 ++ [.ins x []])).bind fun z => match z.1 with
      | .non => some (.ref y.2.length, z.2)
      | _ => none
    | _ => none
  | .revl a, e, S => (ev p a e S).bind fun x => match x.1 with
    | .ref n => (listAt x.2 n).map fun xs => new x.2 xs.reverse
    | _ => none
  | .disp ks a, e, S => (ev p a e (S ++ [.dct []])).bind fun x => match x.1 with
    | .tup ds => match dctAt x.2 S.length with
      | some [] => if ds.length = ks.length ∧ ks.length ≤ 15 then some (.ref S.length, x.2.set S.length (.dct (mergeD [] (ks.zip ds)))) else none
      | _ => none
    | _ => none
  | .itv a, e, S => (ev p a e S).bind fun x => (itOf x.2 x.1).map fun r => (itD r.1 r.2, x.2)
  | .irng a, e, S => (ev p a e S).bind fun x => match x.1 with
    | .tup ds => (rngs ds).map fun r => (itD r [], x.2)
    | _ => none
  | .irev a, e, S => (ev p a e S).bind fun x => (itOfR x.2 x.1).map fun r => (itD r.1.reverse r.2, x.2)
  | .ienum a, e, S => (ev p a e S).bind fun x => (itOfL x.2 x.1).map fun r => (itD (enumF 0 r.1) r.2, x.2)
  | .izip a b, e, S => (ev p a e S).bind fun x => (ev p b e x.2).bind fun y => match x.1, y.1 with
    | .tup xs, .tup ys => some (itD (zipF xs ys) [], y.2)
    | .str z, .tup xs => some (itD (zipF (z.cps.toList.map fun c => D.str ⟨#[c]⟩) xs) [], y.2)
    | .tup xs, .str z => some (itD (zipF xs (z.cps.toList.map fun c => D.str ⟨#[c]⟩)) [], y.2)
    | .ref m, .ref n => (listAt y.2 m).bind fun xs => (listAt y.2 n).map fun ys => (itD (zipF xs ys) ([.tup [.ref m, .tup xs]] ++ [.tup [.ref n, .tup ys]]), y.2)
    | .ref m, .str z => (listAt y.2 m).map fun xs => (itD (zipF xs (z.cps.toList.map fun c => D.str ⟨#[c]⟩)) [.tup [.ref m, .tup xs]], y.2)
    | _, _ => none
  | .lc it t cond elt own, e, S => (ev p it e S).bind fun x => match x.1 with
    | .tup [.tup items, .tup cks] => (lcL (ev p cond) (ev p elt) t cks (wipeE e own) x.2.length items (x.2 ++ [.lst []])).map fun S' => (.ref x.2.length, S')
    | _ => none

def ex (p : Pm) : St → Env' → Store → Option (Fl × Env' × Store)
  | .skip, e, S => some (.nx, e, S)
  | .bad, _, _ => none
  | .seq a b, e, S => (ex p a e S).bind fun r => match r.1 with
    | .nx => ex p b r.2.1 r.2.2
    | f => some (f, r.2.1, r.2.2)
  | .asg t c, e, S => (ev p c e S).bind fun x => (bindT t x.1 x.2 e).map fun e1 => (.nx, e1, x.2)
  | .seti v o i, e, S => (ev p v e S).bind fun x => (ev p o e x.2).bind fun y => (ev p i e y.2).bind fun z => (alt (setS y.1 z.1 x.1 z.2) (dputS y.1 z.1 x.1 z.2)).map fun S' => (.nx, e, S')
  | .aug i op c, e, S => match e[i]? with
    | some (some d) => (ev p c e S).bind fun x => (augop op d x.1).map fun r => (.nx, e.set i (some r), x.2)
    | _ => none
  | .setf v o f cs, e, S => (ev p v e S).bind fun x => (ev p o e x.2).bind fun y => (putfS cs f y.1 x.1 y.2).map fun S' => (.nx, e, S')
  | .augf o f cs op c, e, S => (ev p o e S).bind fun x => (fldS cs f x.1 x.2).bind fun d => (ev p c e x.2).bind fun y => (augop op d y.1).bind fun z =>
      if clsS x.1 x.2 = clsS x.1 y.2 then (putfS cs f x.1 z y.2).map fun S' => (.nx, e, S') else none
  | .drop c, e, S => (ev p c e S).map fun x => (.nx, e, x.2)
  | .ret c, e, S => (ev p c e S).map fun x => (.rt x.1, e, x.2)
  | .ifs c a b, e, S => (ev p c e S).bind fun x => match x.1 with
    | .bl true => ex p a e x.2
    | .bl false => ex p b e x.2
    | _ => none
  | .for_ it t b, e, S => (ev p it e S).bind fun x => match x.1 with
    | .tup [.tup items, .tup cks] => forL (ex p b) t cks items e x.2
    | _ => none
  | .whl c b, e, S => whL (ev p c) (ex p b) p.W e S
  | .brk, e, S => some (.bk, e, S)
  | .cont, e, S => some (.ct, e, S)
end Tm

set_option Elab.async false
set_option linter.all false
set_option maxRecDepth 100000
namespace Tm
open PySem PySem.Spec PyProof.Rows L2

/-! ## from the text to the core -/
structure Gx where
  funs : List (Str × Nat × List Str)
  cons : List (Str × Nat)
  dics : List (Str × Nat)
  blt : List Str
  kws : List (Str × Nat × List Str × List Nat)
  clss : List (Str × Nat × List Str × List Str) := []
/-- the classes of which it is known that they have no such name of their own -/
def clsFor (G : Gx) (f : Str) : List Str := (G.clss.filter fun q => q.2.2.2.contains f).map (·.1)
/-- the def at a place of a class's body -/
def inCls (s : Stmt) (j : Nat) : Stmt := match s with
  | .ClassDef _ _ _ body _ _ _ _ _ _ _ => body.getD j (.Pass ⟨0, 0, 0, 0⟩)
  | _ => .Pass ⟨0, 0, 0, 0⟩
structure Cc where
  N : List Str
  names : List (Str × NameKind)
  own : Option (List (Str × NameKind))
  G : Gx
def Cc.fnOk (c : Cc) (x : Str) : Bool := match c.own with
  | none => true
  | some nm => nm.lookup x == some .cell || c.names.lookup x == some .local
def ixOf : List Str → Str → Option Nat
  | [], _ => none
  | y :: r, x => if y = x then some 0 else (ixOf r x).map (· + 1)
theorem ixOf_get : ∀ {l : List Str} {x : Str} {i : Nat}, ixOf l x = some i → l[i]? = some x
  | [], _, _, h => by simp [ixOf] at h
  | y :: r, x, i, h => by
    unfold ixOf at h
    split at h
    · rename_i e; cases h; simp [e]
    · cases e : ixOf r x with
      | none => rw [e] at h; simp at h
      | some j => rw [e] at h; simp at h; subst h; simpa using ixOf_get e
def badName (x : Str) : Bool := x == ("__debug__" : Str) || x == ("__classdict__" : Str) || x == ("__name__" : Str)
def visB (c : Cc) (x : Str) : Bool := match c.names.lookup x with
  | some .local | some .cell | some .free => true
  | _ => false
def locB (c : Cc) (x : Str) : Bool := (match c.names.lookup x with
  | some .local | some .cell => true
  | _ => false) && c.fnOk x
def glB (c : Cc) (x : Str) : Bool := match c.names.lookup x with
  | some .globalImplicit => !badName x
  | _ => false
/-- a built-in name that nothing hides -/
def bltB (c : Cc) (x : Str) : Bool := glB c x && c.G.blt.contains x
def cName (c : Cc) (x : Str) : C :=
  if badName x then .bad
  else if visB c x then (match ixOf c.N x with | some i => .var i | none => .bad)
  else if glB c x then (match c.G.cons.lookup x with | some g => .glob g | none => .bad)
  else .bad
def cConst : Const → C
  | .none => .lit .non
  | .bool b => .lit (.bl b)
  | .int i => .lit (.int i)
  | .str s => .lit (.str s)
  | _ => .bad
def cBin : Operator → Option Bin
  | .Add => some .add | .Sub => some .sub | .Mult => some .mul | .FloorDiv => some .fdiv | .Mod => some .mod | .Pow => some .pow
  | .LShift => some .shl | .RShift => some .shr | .BitAnd => some .band | .BitOr => some .bor | .BitXor => some .bxor
  | _ => none
def cCmp : CmpOp → Cmp
  | .Eq => .eq | .NotEq => .ne | .Lt => .lt | .LtE => .le | .Gt => .gt | .GtE => .ge | .Is => .is_ | .IsNot => .isn | .In => .in_ | .NotIn => .nin
def notSet : Expr → Bool
  | .Set .. => false
  | _ => true
def isSlice : Expr → Bool
  | .Slice .. => true
  | _ => false
def notStar : Expr → Bool
  | .Starred .. => false
  | _ => true
def plainBase : Expr → Bool
  | .Name .. | .Subscript .. | .Constant .. => true
  | _ => false
def mt0 (m : Str) : Option Mt := if m = "pop" then some .pop else if m = "reverse" then some .rev else none
def mt1 (m : Str) : Option Mt :=
  if m = "startswith" then some .starts else if m = "endswith" then some .ends else if m = "split" then some .split else if m = "join" then some .join
  else if m = "extend" then some .extend else if m = "pop" then some .popAt else none
def mt2 (m : Str) : Option Mt := if m = "insert" then some .insert else none
def isTup : Expr → Bool
  | .Tuple .. => true
  | _ => false
/-- the module's dicts by name -/
def dicOf (c : Cc) : Expr → Option Nat
  | .Name x _ => if glB c x then c.G.dics.lookup x else none
  | _ => none
def tyOf (c : Cc) : Expr → Option Ty
  | .Name x _ => if bltB c x then
      (if x = "int" then some .int else if x = "str" then some .str else if x = "tuple" then some .tuple else if x = "list" then some .list
       else if x = "bool" then some .bool else if x = "dict" then some .dict else none) else none
  | _ => none
def biOf (x : Str) : Option Bi :=
  if x = "len" then some .len else if x = "int" then some .int else if x = "abs" then some .abs else if x = "max" then some .max
  else if x = "min" then some .min else if x = "tuple" then some .tuple else if x = "list" then some .list else if x = "str" then some .str
  else if x = "repr" then some .repr else if x = "sum" then some .sum else if x = "all" then some .all else if x = "any" then some .any else none
def kwNames : List Keyword → Option (List Str)
  | [] => some []
  | ⟨some x, _, _⟩ :: r => (kwNames r).map fun s => x :: s
  | ⟨none, _, _⟩ :: _ => none
/-- f(..) by its name -/
def cCall (c : Cc) (x : Str) (nargs : Nat) (a : C) : C :=
  if glB c x then (match c.G.funs.lookup x with
    | some (f, ps) => if nargs = ps.length then .call f (List.range nargs) a .nil else .bad
    | none => if c.G.blt.contains x then (match biOf x with | some b => .bi b a | none => .bad) else .bad)
  else .bad
def cIsTy (a : C) : Option Ty → C
  | some t => .isty a t
  | none => .bad
mutual
def cTg (n : Nat) (c : Cc) : Expr → Tg
  | .Name x _ => if locB c x then (match ixOf c.N x with | some i => .nm i | none => .bad) else .bad
  | .Tuple es _ _ => match n with
    | 0 => .bad
    | k + 1 => .tp es.length (cTgs k c es)
  | _ => .bad
def cTgs (n : Nat) (c : Cc) : List Expr → Tg
  | [] => .nil
  | e :: es => match n with
    | 0 => .bad
    | k + 1 => if notStar e then .cons (cTg k c e) (cTgs k c es) else .bad
end
/-- the slots that a target stores -/
def tgIn (own : List Nat) : Tg → Bool
  | .nm i => own.contains i
  | .tp _ t => tgIn own t
  | .nil => true
  | .cons a r => tgIn own a && tgIn own r
  | .bad => true
def relN (sc scope : List (Str × NameKind)) : List (Str × NameKind) :=
  scope.map fun (n, k) => if (k == NameKind.free && sc.lookup n == some .cell) then (n, NameKind.cell) else (n, k)
def ownOf (N : List Str) (names : List (Str × NameKind)) : List (Str × Nat) :=
  names.filterMap fun (n, k) => match k with
    | .local | .cell => (ixOf N n).map fun i => (n, i)
    | _ => none
def blkCc (c : Cc) (names : List (Str × NameKind)) : Cc := { N := c.N, names := relN c.names names, own := some names, G := c.G }

mutual
def cE (n : Nat) (c : Cc) (e : Expr) : C := match n with
  | 0 => .bad
  | n + 1 => match e with
    | .Name x _ => cName c x
    | .Constant k _ _ => cConst k
    | .BinOp a op b _ => match cBin op with
      | some o => .bin o (cE n c a) (cE n c b)
      | none => .bad
    | .UnaryOp op a _ => match op with
      | .USub => .neg (cE n c a)
      | .Not => .not_ (cE n c a)
      | _ => .bad
    | .Compare a ops bs _ => match ops, bs with
      | [op], [b] => if notSet b then (match dicOf c b with
          | some g => (match op with | .In => .kin g false (cE n c a) | .NotIn => .kin g true (cE n c a) | _ => .bad)
          | none => .cmp (cCmp op) (cE n c a) (cE n c b)) else .bad
      | [o1, o2], [b, d] => if !notSet d then .bad else .chain (cCmp o1) (cCmp o2) (cE n c a) (cE n c b) (cE n c d)
      | _, _ => .bad
    | .BoolOp op es _ => match op, es with
      | .And, a :: r => cAnd n c a r
      | .Or, a :: r => cOr n c a r
      | _, _ => .bad
    | .IfExp t a b _ => .ife (cT n c t) (cE n c a) (cE n c b)
    | .Tuple es _ _ => .tup (cEs n c es)
    | .List es _ => .lst (cEs n c es)
    | .Subscript a b _ => match b with
      | .Slice lo hi st _ => (match st with
        | none => .slc (cE n c a) (cO n c lo) (cO n c hi)
        | some (.UnaryOp .USub (.Constant (.int 1) _ _) _) => (match lo, hi with
          | none, none => .revl (cE n c a)
          | _, _ => .bad)
        | some _ => .bad)
      | b => (match dicOf c a with
        | some g => .kget g (cE n c b)
        | none => .idx (cE n c a) (cE n c b))
    | .Call f es kws ps => match kws with
      | [] => (match f with
        | .Name x _ => if x = ("isinstance" : Str) then (if bltB c x then (match es with
              | [a, t] => if notStar a then cIsTy (cE n c a) (tyOf c t) else .bad
              | _ => .bad) else .bad)
            else if es.length = 0 then .bad else if (glB c x && (c.G.clss.lookup x).isSome) then (match c.G.clss.lookup x with
              | some (f, ps, _) => if es.length + 1 = ps.length then .mk x f (cEs n c es) else .bad
              | none => .bad)
            else if visB c x then .callv (cName c x) (cEs n c es) else cCall c x es.length (cEs n c es)
        | .Attribute o m ap => if !(ap.endLine == ps.line) then .bad else if m = ("append" : Str) then (match es with
              | [v] => if notStar v && plainBase o then .app (cE n c o) (cE n c v) else .bad
              | _ => .bad)
            else if m = ("get" : Str) then (match dicOf c o, es with
              | some g, [a, b] => if notStar a && notStar b then .kgetd g (cE n c a) (cE n c b) else .bad
              | _, _ => .bad)
            else if !plainBase o then .bad else (match es with
              | [] => (match mt0 m with | some q => .mt q (cE n c o) .nil | none => .bad)
              | [a] => if notStar a then (match mt1 m with | some q => .mt q (cE n c o) (.cons (cE n c a) .nil) | none => .bad) else .bad
              | [a, b] => if notStar a && notStar b then (match mt2 m with | some q => .mt q (cE n c o) (.cons (cE n c a) (.cons (cE n c b) .nil)) | none => .bad) else .bad
              | _ => .bad)
        | _ => .bad)
      | kws => (match f with
        | .Name x _ => if glB c x && es.all notStar then (match c.G.funs.lookup x, kwNames kws with
            | some (f, ps), some ks => (match c.G.kws.find? (fun q => q.1 = x && q.2.1 = es.length && q.2.2.1 = ks) with
              | some q => .call f q.2.2.2 (cEs n c es) (cKs n c kws)
              | none => .bad)
            | _, _ => .bad) else .bad
        | _ => .bad)
    | .Attribute o f _ => if !plainBase o then .bad else .fld (cE n c o) f (clsFor c.G f)
    | .Dict ks vs _ => (match ks, vs with
      | [], [] => .dnew
      | _, _ => .bad)
    | .ListComp elt gs scope _ => match gs with
      | [⟨tg, it, ifs, 0⟩] =>
        let own := ownOf c.N scope.names
        let b := blkCc c scope.names
        let t := cTg n b tg
        if blkC c.N { kind := .function, names := c.names, isGenerator := false, isCoroutine := false } scope own && tgIn (own.map (·.2)) t && notSet it then
          .lc (cI n c (isTup tg) it) t (match ifs with | [] => .lit (.bl true) | [f] => cT n b f | _ => .bad) (cE n b elt) (own.map (·.2))
        else .bad
      | _ => .bad
    | _ => .bad
def cEs (n : Nat) (c : Cc) (es : List Expr) : C := match n with
  | 0 => .bad
  | n + 1 => match es with
    | [] => .nil
    | e :: r => if notStar e then .cons (cE n c e) (cEs n c r) else .bad
def cKs (n : Nat) (c : Cc) (ks : List Keyword) : C := match n with
  | 0 => .bad
  | n + 1 => match ks with
    | [] => .nil
    | ⟨_, e, _⟩ :: r => .cons (cE n c e) (cKs n c r)
def cAnd (n : Nat) (c : Cc) (a : Expr) (r : List Expr) : C := match n with
  | 0 => .bad
  | n + 1 => match r with
    | [] => cE n c a
    | b :: s => .and_ (cE n c a) (cAnd n c b s)
def cOr (n : Nat) (c : Cc) (a : Expr) (r : List Expr) : C := match n with
  | 0 => .bad
  | n + 1 => match r with
    | [] => cE n c a
    | b :: s => .or_ (cE n c a) (cOr n c b s)
/-- a test -/
def cT (n : Nat) (c : Cc) (e : Expr) : C := match n with
  | 0 => .bad
  | n + 1 => match e with
    | .BoolOp op es _ => match op, es with
      | .And, a :: r => cTAnd n c a r
      | .Or, a :: r => cTOr n c a r
      | _, _ => .bad
    | .UnaryOp op a _ => match op with
      | .Not => .not_ (cT n c a)
      | _ => .bad
    | .IfExp .. => .bad
    | .Compare a ops bs _ => match ops, bs with
      | [op], [b] => if notSet b then (match dicOf c b with
          | some g => (match op with | .In => .kin g false (cE n c a) | .NotIn => .kin g true (cE n c a) | _ => .bad)
          | none => .cmp (cCmp op) (cE n c a) (cE n c b)) else .bad
      | [o1, o2], [b, d] => if !notSet d then .bad else .chain (cCmp o1) (cCmp o2) (cE n c a) (cE n c b) (cE n c d)
      | _, _ => .bad
    | e => cE n c e
def cTAnd (n : Nat) (c : Cc) (a : Expr) (r : List Expr) : C := match n with
  | 0 => .bad
  | n + 1 => match r with
    | [] => cT n c a
    | b :: s => .and_ (cT n c a) (cTAnd n c b s)
def cTOr (n : Nat) (c : Cc) (a : Expr) (r : List Expr) : C := match n with
  | 0 => .bad
  | n + 1 => match r with
    | [] => cT n c a
    | b :: s => .or_ (cT n c a) (cTOr n c b s)
def cO (n : Nat) (c : Cc) (e : Option Expr) : C := match n with
  | 0 => .bad
  | n + 1 => match e with
    | none => .absent
    | some e => if isAbs (cE n c e) then .bad else cE n c e
/-- what is walked -/
def cI (n : Nat) (c : Cc) (tp : Bool) (e : Expr) : C := match n with
  | 0 => .bad
  | n + 1 => match e with
    | .Call f es kws _ => match f, kws with
      | .Name x _, [] =>
        if x = ("range" : Str) then (if bltB c x && (es.length == 1 || es.length == 2) then .irng (cEs n c es) else .bad)
        else if x = ("reversed" : Str) then (match es with | [a] => if bltB c x && notStar a then .irev (cE n c a) else .bad | _ => .bad)
        else if x = ("enumerate" : Str) then (match es with | [a] => if tp && bltB c x && notStar a then .ienum (cE n c a) else .bad | _ => .bad)
        else if x = ("zip" : Str) then (match es with | [a, b] => if tp && bltB c x && notStar a && notStar b then .izip (cE n c a) (cE n c b) else .bad | _ => .bad)
        else .itv (cE n c e)
      | _, _ => .itv (cE n c e)
    | e => .itv (cE n c e)
end
end Tm

set_option Elab.async false
set_option linter.all false
set_option maxRecDepth 100000
set_option maxHeartbeats 4000000
namespace Tm
open PySem PySem.Spec PyProof.Rows L2

theorem op_powW {X : Cx} : OpR X (binaryOp .Pow) (rI (fun i j => 0 ≤ j ∧ (Builtin.Int.intBits i : Int) * j ≤ 2 ^ 27) fun i j => .int (i ^ j.toNat)) := opI fun _ _ _ _ _ _ _ hc q => pow_int hc.1 hc.2 q
theorem bits_lt {i : Int} {n : Nat} (h : i.natAbs < 2 ^ n) : Builtin.Int.intBits i ≤ n := by
  unfold Builtin.Int.intBits
  by_cases q : i = 0
  · rw [if_pos (by simp [q])]; exact Nat.zero_le _
  · rw [if_neg (by simp [q])]
    have h0 : i.natAbs ≠ 0 := by omega
    have := (Nat.log2_lt h0).2 h
    omega
/-! ## data -/
section
variable {K : PySem.W.Frag} {ρ : List Addr} {H : Hp} {S : Store}
mutual
theorem dpG {g : Nat → Option PyData} (hg : ∀ (n : Nat) (a : Addr) (x : PyData), ρ[n]? = some a → g n = some x → Dp K H (.ref a) x) : ∀ {v : V} {d : D}, Rep K ρ H v d → ∀ {x : PyData}, pdG g d = some x → Dp K H v x
  | _, _, .non, x, h => by simp only [pdG, Option.some.injEq] at h; subst h; exact .non
  | _, _, .bl b, x, h => by simp only [pdG, Option.some.injEq] at h; subst h; exact .bl b
  | _, _, .int i, x, h => by simp only [pdG, Option.some.injEq] at h; subst h; exact .int i
  | _, _, .str z, x, h => by simp only [pdG, Option.some.injEq] at h; subst h; exact .str z
  | _, _, .fn _, x, h => by simp only [pdG] at h; cases h
  | _, _, .tup ht r, x, h => by
    simp only [pdG, Option.map_eq_some_iff] at h
    obtain ⟨xs, h1, rfl⟩ := h
    exact .tup ht (dpsG hg r h1)
  | _, _, .ref e, x, h => by
    simp only [pdG] at h
    exact hg _ _ _ e h
theorem dpsG {g : Nat → Option PyData} (hg : ∀ (n : Nat) (a : Addr) (x : PyData), ρ[n]? = some a → g n = some x → Dp K H (.ref a) x) : ∀ {vs : List V} {ds : List D}, Reps K ρ H vs ds → ∀ {xs : List PyData}, pdsG g ds = some xs → DpAll K H vs xs
  | _, _, .nil, xs, h => by simp only [pdsG, Option.some.injEq] at h; subst h; exact .nil
  | _, _, .cons r t, xs, h => by
    simp only [pdsG, Option.bind_eq_some_iff, Option.map_eq_some_iff] at h
    obtain ⟨y, h1, ys, h2, rfl⟩ := h
    exact .cons (dpG hg r h1) (dpsG hg t h2)
end
theorem dpN (sm : Sim K ρ S H) : ∀ (k n : Nat) (a : Addr) (x : PyData), ρ[n]? = some a → pdN S k n = some x → Dp K H (.ref a) x
  | 0, n, a, x, _, h => by simp [pdN] at h
  | k + 1, n, a, x, e, h => by
    simp only [pdN, Option.bind_eq_some_iff, Option.map_eq_some_iff] at h
    obtain ⟨xs, h1, ys, h2, rfl⟩ := h
    obtain ⟨vs, hs, r⟩ := sm.list h1 e
    exact .lst hs (dpsG (fun n a x => dpN sm k n a x) r h2)
theorem dp_of (sm : Sim K ρ S H) {v : V} {d : D} {x : PyData} (r : Rep K ρ H v d) (h : pd S d = some x) : Dp K H v x := dpG (dpN sm 60) r h
theorem dps_of (sm : Sim K ρ S H) {vs : List V} {ds : List D} {xs : List PyData} (r : Reps K ρ H vs ds) (h : pds S ds = some xs) : DpAll K H vs xs := dpsG (dpN sm 60) r h
theorem rep_scal {v : V} {d : D} (r : Rep K ρ H v d) (h : isScal d = true) : flatV v = true := by
  cases r <;> first | rfl | simp [isScal] at h
theorem reps_scal : ∀ {vs : List V} {ds : List D}, Reps K ρ H vs ds → ds.all isScal = true → vs.all flatV = true
  | _, _, .nil, _ => rfl
  | _, _, .cons r t, h => by
    simp only [List.all_cons, Bool.and_eq_true] at h ⊢
    exact ⟨rep_scal r h.1, reps_scal t h.2⟩
theorem scEq_eqV {v w : V} {d f : D} (r : Rep K ρ H v d) (q : Rep K ρ H w f) (hd : isScal d = true) (hf : isScal f = true) : eqV v w = scEq d f := by
  cases r <;> cases q <;> first | rfl | (simp [isScal] at hd; done) | (simp [isScal] at hf; done) | (simp [eqV, scEq]; done) | skip
end

/-! ## operators -/
/-- what follows, once d is the answer and S' the store -/
def Aft (K : PySem.W.Frag) (ρ : List Addr) (H : Hp) (S' : Store) (d : D) (Q : VK) : Prop :=
  ∀ (ρ' : List Addr) (H' : Hp) (v : V), Pre ρ ρ' → Gro H H' → Sim K ρ' S' H' → Rep K ρ' H' v d → Q v H'
section
variable {K : PySem.W.Frag} {ρ ρ' : List Addr} {H H' : Hp} {S S' : Store} {d : D} {Q : VK}
theorem Aft.mono (k : Aft K ρ H S' d Q) (p : Pre ρ ρ') (g : Gro H H') : Aft K ρ' H' S' d Q := fun _ _ v p' g' s r => k _ _ v (p.trans p') (g.trans g') s r
theorem Aft.here (k : Aft K ρ H S' d Q) (s : Sim K ρ S' H) {v : V} (r : Rep K ρ H v d) : Q v H := k ρ H v (Pre.refl ρ) (Gro.refl H) s r
/-- a tuple is made -/
theorem Aft.tup {ds : List D} {vs : List V} (k : Aft K ρ H S' (.tup ds) Q) (s : Sim K ρ S' H) (r : Reps K ρ H vs ds) {p : Addr} (hp : H p = none) : Q (.ref p) (upd H p (.tup vs)) :=
  k ρ _ _ (Pre.refl ρ) (Gro.new hp) (s.tup hp) (.tup (SqT.of upd_same) (r.mono (Gro.new hp) (Pre.refl ρ)))
/-- a list is made -/
theorem Aft.lst {ds : List D} {vs : List V} (k : Aft K ρ H (S ++ [.lst ds]) (.ref S.length) Q) (s : Sim K ρ S H) (r : Reps K ρ H vs ds) {p : Addr} (hp : H p = none) : Q (.ref p) (upd H p (.lst vs)) :=
  k (ρ ++ [p]) _ _ (Pre.app ρ p) (Gro.new hp) (s.new hp r) (.ref (by rw [← s.len, List.getElem?_append_right (Nat.le_refl _)]; simp))
end
theorem okI_some {b : Bool} {d : D} {S : Store} {x : D × Store} (h : okI b d S = some x) : b = true ∧ x = (d, S) := by
  unfold okI at h
  split at h
  · exact ⟨by assumption, (Option.some.inj h).symm⟩
  · cases h
/-- a two-place operation by the machine's own f -/
def rOp (K : PySem.W.Frag) (f : D → D → Store → Option (D × Store)) : R2 := fun v w H Q => ∃ (ρ : List Addr) (S : Store) (a b d : D) (S' : Store), Sim K ρ S H ∧ Rep K ρ H v a ∧ Rep K ρ H w b ∧ f a b S = some (d, S') ∧ Aft K ρ H S' d Q
section
variable {X : Cx}
theorem op_bin {o : Operator} {b : Bin} (hb : cBin o = some b) : OpR X (binaryOp o) (rOp X.K (binop b)) := by
  intro pins s σ H x y v u Q I rx ry h
  obtain ⟨ρ, S, da, db, d, S', sm, ra, rb, e, k⟩ := h
  cases o <;> simp only [cBin, Option.some.injEq, reduceCtorEq] at hb <;> subst hb
  · -- Add
    cases ra with
    | int i => cases rb with
      | int j => cases e; exact op_add pins s σ H _ _ v u Q I rx ry ⟨i, j, rfl, rfl, k.here sm (.int _)⟩
      | _ => cases e
    | str i => cases rb with
      | str j =>
        obtain ⟨c, e⟩ := okI_some e
        cases e
        exact op_add_str pins s σ H _ _ v u Q I rx ry ⟨i, j, rfl, rfl, of_decide_eq_true c, k.here sm (.str _)⟩
      | _ => cases e
    | tup h1 r1 => cases rb with
      | tup h2 r2 =>
        obtain ⟨c, e⟩ := okI_some e
        cases e
        have c := of_decide_eq_true c
        rw [← r1.length, ← r2.length] at c
        refine op_catA pins s σ H _ _ v u Q I rx ry ⟨_, _, _, _, rfl, rfl, h1, h2, c, fun z => ?_, fun _ z => ?_, fun _ _ p hp => k.tup sm (r1.append r2) hp⟩
        · subst z
          cases r1
          exact k.here sm (.tup h2 r2)
        · subst z
          cases r2
          exact k.here sm (.tup h1 (by rw [List.append_nil]; exact r1))
      | _ => cases e
    | ref e1 => cases rb with
      | ref e2 =>
        simp only [binop] at e
        split at e
        · rename_i xs ys q1 q2
          split at e
          · rename_i c
            cases e
            obtain ⟨vs, h1, r1⟩ := sm.obj _ _ _ q1 e1
            obtain ⟨ws, h2, r2⟩ := sm.obj _ _ _ q2 e2
            refine op_cat pins s σ H _ _ v u Q I rx ry ⟨_, _, vs, ws, rfl, rfl, h1, h2, by rw [r1.length, r2.length]; exact c, fun p hp => k.lst sm (r1.append r2) hp⟩
          · cases e
        · cases e
      | _ => cases e
    | _ => cases e
  · cases ra with
    | int i => cases rb with
      | int j => cases e; exact op_sub pins s σ H _ _ v u Q I rx ry ⟨i, j, rfl, rfl, k.here sm (.int _)⟩
      | _ => cases e
    | _ => cases e
  · -- Mult
    cases ra with
    | int i => cases rb with
      | int j =>
        obtain ⟨c, e⟩ := okI_some e
        cases e
        rw [Bool.or_eq_true, decide_eq_true_eq, decide_eq_true_eq] at c
        rcases c with c' | c'
        · exact op_mulW pins s σ H _ _ v u Q I rx ry ⟨i, j, rfl, rfl, c', k.here sm (.int _)⟩
        · exact op_mul pins s σ H _ _ v u Q I rx ry ⟨i, j, rfl, rfl, .inr ⟨by omega, by omega⟩, k.here sm (.int _)⟩
      | _ => cases e
    | tup h1 r1 => cases rb with
      | int j =>
        obtain ⟨c, e⟩ := okI_some e
        cases e
        simp only [Bool.and_eq_true, decide_eq_true_eq, Bool.not_eq_true', List.isEmpty_eq_false_iff] at c
        obtain ⟨⟨⟨c0, c1⟩, c2⟩, c3⟩ := c
        refine op_repT pins s σ H _ _ v u Q I rx ry ⟨_, j, _, rfl, rfl, h1, fun z => ?_, c1, c2, by rw [r1.length]; exact c3, fun p hp => k.tup sm (r1.flat _) hp⟩
        subst z
        cases r1
        exact c0 rfl
      | _ => cases e
    | ref e1 => cases rb with
      | int j =>
        simp only [binop] at e
        split at e
        · rename_i xs q1
          split at e
          · rename_i c
            cases e
            simp only [Bool.and_eq_true, decide_eq_true_eq] at c
            obtain ⟨⟨c1, c2⟩, c3⟩ := c
            obtain ⟨vs, h1, r1⟩ := sm.obj _ _ _ q1 e1
            refine op_rep pins s σ H _ _ v u Q I rx ry ⟨_, j, vs, rfl, rfl, h1, c1, c2, by rw [r1.length]; exact c3, fun p hp => k.lst sm (r1.flat _) hp⟩
          · cases e
        · cases e
      | _ => cases e
    | _ => cases e
  · cases ra with
    | int i => cases rb with
      | int j => 
        obtain ⟨c, e⟩ := okI_some e
        cases e
        simp only [Bool.and_eq_true, decide_eq_true_eq] at c
        exact op_mod pins s σ H _ _ v u Q I rx ry ⟨i, j, rfl, rfl, c, k.here sm (.int _)⟩
      | _ => cases e
    | _ => cases e
  · cases ra with
    | int i => cases rb with
      | int j => 
        obtain ⟨c, e⟩ := okI_some e
        cases e
        simp only [Bool.and_eq_true, decide_eq_true_eq] at c
        exact op_powW pins s σ H _ _ v u Q I rx ry ⟨i, j, rfl, rfl, c, k.here sm (.int _)⟩
      | _ => cases e
    | _ => cases e
  · cases ra with
    | int i => cases rb with
      | int j => 
        obtain ⟨c, e⟩ := okI_some e
        cases e
        simp only [Bool.and_eq_true, decide_eq_true_eq] at c
        exact op_shl pins s σ H _ _ v u Q I rx ry ⟨i, j, rfl, rfl, ⟨c.1.1, c.1.2, c.2⟩, k.here sm (.int _)⟩
      | _ => cases e
    | _ => cases e
  · cases ra with
    | int i => cases rb with
      | int j => 
        obtain ⟨c, e⟩ := okI_some e
        cases e
        simp only [Bool.and_eq_true, decide_eq_true_eq] at c
        exact op_shr pins s σ H _ _ v u Q I rx ry ⟨i, j, rfl, rfl, c, k.here sm (.int _)⟩
      | _ => cases e
    | _ => cases e
  · cases ra with
    | int i => cases rb with
      | int j => cases e; exact op_or pins s σ H _ _ v u Q I rx ry ⟨i, j, rfl, rfl, k.here sm (.int _)⟩
      | _ => cases e
    | _ => cases e
  · cases ra with
    | int i => cases rb with
      | int j => cases e; exact op_xor pins s σ H _ _ v u Q I rx ry ⟨i, j, rfl, rfl, k.here sm (.int _)⟩
      | _ => cases e
    | _ => cases e
  · cases ra with
    | int i => cases rb with
      | int j => cases e; exact op_and pins s σ H _ _ v u Q I rx ry ⟨i, j, rfl, rfl, k.here sm (.int _)⟩
      | _ => cases e
    | _ => cases e
  · cases ra with
    | int i => cases rb with
      | int j => 
        obtain ⟨c, e⟩ := okI_some e
        cases e
        simp only [Bool.and_eq_true, decide_eq_true_eq] at c
        exact op_fdivW pins s σ H _ _ v u Q I rx ry ⟨i, j, rfl, rfl, ⟨c.1, c.2⟩, k.here sm (.int _)⟩
      | _ => cases e
    | _ => cases e

/-- a comparison by the machine's own f -/
def rCmp (K : PySem.W.Frag) (f : D → D → Store → Option Bool) : R2 := fun v w H Q => ∃ (ρ : List Addr) (S : Store) (a b : D) (r : Bool), Sim K ρ S H ∧ Rep K ρ H v a ∧ Rep K ρ H w b ∧ f a b S = some r ∧ Q (.bl r) H
theorem op_eqM (hu : X.A.units + 64 < cLine) : OpR X (compareOp .Eq) (rCmp X.K fun a b S => eqD S a b) := by
  intro pins s σ H x y v u Q I rx ry h
  obtain ⟨ρ, S, da, db, r, sm, ra, rb, e, k⟩ := h
  have deep : ∀ {p q : PyData}, pd S da = some p → pd S db = some q → SeqAt.shaped p = true → SeqAt.shaped q = true → PyData.eqv p q = r → wpAny (model X.prog X.w) X.A (compareOp .Eq v u) (EP X pins σ Q) X.xe s := fun {p q} hp hq sp sq er => by
    subst er
    exact op_eqD hu pins s σ H x y v u Q I rx ry ⟨p, q, dp_of sm ra hp, dp_of sm rb hq, sp, sq, k⟩
  have gen : (pd S da).bind (fun x => (pd S db).bind fun y => if (SeqAt.shaped x && SeqAt.shaped y) = true then some (PyData.eqv x y) else none) = some r → wpAny (model X.prog X.w) X.A (compareOp .Eq v u) (EP X pins σ Q) X.xe s := fun g => by
    simp only [Option.bind_eq_some_iff] at g
    obtain ⟨p, hp, q, hq, g⟩ := g
    split at g
    · rename_i c
      rw [Bool.and_eq_true] at c
      exact deep hp hq c.1 c.2 (Option.some.inj g)
    · cases g
  cases ra with
  | int i => cases rb with
    | int j => cases e; exact op_eq pins s σ H _ _ v u Q I rx ry ⟨rfl, by rw [show decide (V.int i = V.int j) = decide (i = j) by simp]; exact k⟩
    | _ => exact gen e
  | str i => cases rb with
    | str j => cases e; exact op_eq pins s σ H _ _ v u Q I rx ry ⟨rfl, by rw [show decide (V.str i = V.str j) = decide (i = j) by simp]; exact k⟩
    | _ => exact gen e
  | bl i => cases rb with
    | bl j => cases e; exact op_eq pins s σ H _ _ v u Q I rx ry ⟨rfl, by rw [show decide (V.bl i = V.bl j) = decide (i = j) by simp]; exact k⟩
    | _ => exact gen e
  | non => cases rb with
    | non => cases e; exact op_eq pins s σ H _ _ v u Q I rx ry ⟨rfl, k⟩
    | _ => exact gen e
  | tup h1 r1 => exact gen (by cases rb <;> exact e)
  | ref h1 => exact gen (by cases rb <;> exact e)
  | fn h1 => exact gen (by cases rb <;> exact e)
theorem op_neM (hu : X.A.units + 64 < cLine) : OpR X (compareOp .NotEq) (rCmp X.K fun a b S => (eqD S a b).map (!·)) := by
  intro pins s σ H x y v u Q I rx ry h
  obtain ⟨ρ, S, da, db, r, sm, ra, rb, e, k⟩ := h
  simp only [Option.map_eq_some_iff] at e
  obtain ⟨r, e, rfl⟩ := e
  have gen : (pd S da).bind (fun x => (pd S db).bind fun y => if (SeqAt.shaped x && SeqAt.shaped y) = true then some (PyData.eqv x y) else none) = some r → wpAny (model X.prog X.w) X.A (compareOp .NotEq v u) (EP X pins σ Q) X.xe s := fun g => by
    simp only [Option.bind_eq_some_iff] at g
    obtain ⟨p, hp, q, hq, g⟩ := g
    split at g
    · rename_i c
      rw [Bool.and_eq_true] at c
      have er := Option.some.inj g
      subst er
      exact op_neD hu pins s σ H x y v u Q I rx ry ⟨p, q, dp_of sm ra hp, dp_of sm rb hq, c.1, c.2, k⟩
    · cases g
  cases ra with
  | int i => cases rb with
    | int j => cases e; exact op_ne pins s σ H _ _ v u Q I rx ry ⟨rfl, by rw [show decide (V.int i = V.int j) = decide (i = j) by simp]; exact k⟩
    | _ => exact gen e
  | str i => cases rb with
    | str j => cases e; exact op_ne pins s σ H _ _ v u Q I rx ry ⟨rfl, by rw [show decide (V.str i = V.str j) = decide (i = j) by simp]; exact k⟩
    | _ => exact gen e
  | bl i => cases rb with
    | bl j => cases e; exact op_ne pins s σ H _ _ v u Q I rx ry ⟨rfl, by rw [show decide (V.bl i = V.bl j) = decide (i = j) by simp]; exact k⟩
    | _ => exact gen e
  | non => cases rb with
    | non => cases e; exact op_ne pins s σ H _ _ v u Q I rx ry ⟨rfl, k⟩
    | _ => exact gen e
  | tup h1 r1 => exact gen (by cases rb <;> exact e)
  | ref h1 => exact gen (by cases rb <;> exact e)
  | fn h1 => exact gen (by cases rb <;> exact e)
theorem any_scEq {K : PySem.W.Frag} {ρ : List Addr} {H : Hp} {x : V} {d : D} (rx : Rep K ρ H x d) (hx : isScal d = true) : ∀ {vs : List V} {ds : List D}, Reps K ρ H vs ds → ds.all isScal = true → inV x vs = ds.any fun y => scEq y d
  | _, _, .nil, _ => rfl
  | _, _, .cons r t, h => by
    simp only [List.all_cons, Bool.and_eq_true] at h
    have q := any_scEq rx hx t h.2
    unfold inV at q ⊢
    rw [List.any_cons, List.any_cons, q, scEq_eqV r rx h.1 hx]
/-- x in y, x not in y by one proof: n is the sign -/
theorem op_inM (hu : X.A.units + 65 < cLine) : OpR X (compareOp .In) (rCmp X.K fun a b S => inD S a b) := by
  intro pins s σ H x y v u Q I rx ry h
  obtain ⟨ρ, S, da, db, r, sm, ra, rb, e, k⟩ := h
  cases rb with
  | tup h1 r1 =>
    simp only [inD] at e
    split at e
    · rename_i c
      rw [Bool.and_eq_true] at c
      cases e
      refine op_in_seq pins s σ H _ _ v u Q I rx ry ⟨_, _, rfl, .inr h1, rep_scal ra c.1, reps_scal r1 c.2, ?_⟩
      show Q (.bl (inV _ _)) H
      rw [any_scEq ra c.1 r1 c.2]
      exact k
    · cases e
  | ref h1 =>
    simp only [inD, Option.bind_eq_some_iff] at e
    obtain ⟨ys, hl, e⟩ := e
    obtain ⟨vs, hq, r1⟩ := sm.list hl h1
    split at e
    · rename_i c
      rw [Bool.and_eq_true] at c
      cases e
      refine op_in_seq pins s σ H _ _ v u Q I rx ry ⟨_, _, rfl, .inl hq, rep_scal ra c.1, reps_scal r1 c.2, ?_⟩
      show Q (.bl (inV _ _)) H
      rw [any_scEq ra c.1 r1 c.2]
      exact k
    · simp only [Option.bind_eq_some_iff] at e
      obtain ⟨p, hp, q, hqs, e⟩ := e
      split at e
      · rename_i c
        rw [Bool.and_eq_true] at c
        cases e
        exact op_inD hu pins s σ H _ _ v u Q I rx ry ⟨p, q, dp_of sm ra hp, .lst hq (dps_of sm r1 hqs), c.1, c.2, k⟩
      · cases e
  | str z =>
    cases ra with
    | str w =>
      simp only [inD] at e
      split at e
      · rename_i c hc
        cases e
        have hw : w = ⟨#[c]⟩ := by
          cases w with | mk a => cases a with | mk l => simp at hc; rw [hc]
        refine op_in_sign pins s σ H _ _ v u Q I rx ry ⟨c, z, by rw [hw], rfl, k⟩
      · cases e
    | _ => cases e
  | _ => cases e
theorem op_ninM (hu : X.A.units + 65 < cLine) : OpR X (compareOp .NotIn) (rCmp X.K fun a b S => (inD S a b).map (!·)) := by
  intro pins s σ H x y v u Q I rx ry h
  obtain ⟨ρ, S, da, db, r, sm, ra, rb, e, k⟩ := h
  simp only [Option.map_eq_some_iff] at e
  obtain ⟨r, e, rfl⟩ := e
  cases rb with
  | tup h1 r1 =>
    simp only [inD] at e
    split at e
    · rename_i c
      rw [Bool.and_eq_true] at c
      cases e
      refine op_notIn_seq pins s σ H _ _ v u Q I rx ry ⟨_, _, rfl, .inr h1, rep_scal ra c.1, reps_scal r1 c.2, ?_⟩
      show Q (.bl (!inV _ _)) H
      rw [any_scEq ra c.1 r1 c.2]
      exact k
    · cases e
  | ref h1 =>
    simp only [inD, Option.bind_eq_some_iff] at e
    obtain ⟨ys, hl, e⟩ := e
    obtain ⟨vs, hq, r1⟩ := sm.list hl h1
    split at e
    · rename_i c
      rw [Bool.and_eq_true] at c
      cases e
      refine op_notIn_seq pins s σ H _ _ v u Q I rx ry ⟨_, _, rfl, .inl hq, rep_scal ra c.1, reps_scal r1 c.2, ?_⟩
      show Q (.bl (!inV _ _)) H
      rw [any_scEq ra c.1 r1 c.2]
      exact k
    · simp only [Option.bind_eq_some_iff] at e
      obtain ⟨p, hp, q, hqs, e⟩ := e
      split at e
      · rename_i c
        rw [Bool.and_eq_true] at c
        cases e
        exact op_notInD hu pins s σ H _ _ v u Q I rx ry ⟨p, q, dp_of sm ra hp, .lst hq (dps_of sm r1 hqs), c.1, c.2, k⟩
      · cases e
  | str z =>
    cases ra with
    | str w =>
      simp only [inD] at e
      split at e
      · rename_i c hc
        cases e
        have hw : w = ⟨#[c]⟩ := by
          cases w with | mk a => cases a with | mk l => simp at hc; rw [hc]
        refine op_notIn_sign pins s σ H _ _ v u Q I rx ry ⟨c, z, by rw [hw], rfl, k⟩
      · cases e
    | _ => cases e
  | _ => cases e
theorem op_cmpM (hu : X.A.units + 65 < cLine) (o : CmpOp) : OpR X (compareOp o) (rCmp X.K (cmpop (cCmp o))) := by
  cases o with
  | Eq => exact op_eqM (Nat.lt_trans (Nat.lt_succ_self _) hu)
  | NotEq => exact op_neM (Nat.lt_trans (Nat.lt_succ_self _) hu)
  | In => exact op_inM hu
  | NotIn => exact op_ninM hu
  | Lt | LtE | Gt | GtE =>
    intro pins s σ H x y v u Q I rx ry h
    obtain ⟨ρ, S, da, db, r, sm, ra, rb, e, k⟩ := h
    cases ra with
    | int i => cases rb with
      | int j =>
        cases e
        first
          | exact op_lt pins s σ H _ _ v u Q I rx ry ⟨i, j, rfl, rfl, k⟩
          | exact op_le pins s σ H _ _ v u Q I rx ry ⟨i, j, rfl, rfl, k⟩
          | exact op_gt pins s σ H _ _ v u Q I rx ry ⟨i, j, rfl, rfl, k⟩
          | exact op_ge pins s σ H _ _ v u Q I rx ry ⟨i, j, rfl, rfl, k⟩
      | _ => cases e
    | _ => cases e
  | Is =>
    intro pins s σ H x y v u Q I rx ry h
    obtain ⟨ρ, S, da, db, r, sm, ra, rb, e, k⟩ := h
    cases rb with
    | non => refine op_isN pins s σ H _ _ v u Q I rx ry ⟨rfl, ?_⟩; cases ra <;> first | (cases e; exact k) | cases e
    | bl b => cases ra with
      | bl a => cases e; exact op_isBl pins s σ H _ _ v u Q I rx ry ⟨a, b, rfl, rfl, k⟩
      | _ => cases e
    | _ => cases ra <;> cases e
  | IsNot =>
    intro pins s σ H x y v u Q I rx ry h
    obtain ⟨ρ, S, da, db, r, sm, ra, rb, e, k⟩ := h
    cases rb with
    | non => refine op_notN pins s σ H _ _ v u Q I rx ry ⟨rfl, ?_⟩; cases ra <;> first | (cases e; exact k) | cases e
    | bl b => cases ra with
      | bl a => cases e; exact op_notBl pins s σ H _ _ v u Q I rx ry ⟨a, b, rfl, rfl, k⟩
      | _ => cases e
    | _ => cases ra <;> cases e
end
end Tm

set_option Elab.async false
set_option linter.all false
set_option maxRecDepth 100000
set_option maxHeartbeats 4000000
namespace Tm
open PySem PySem.Spec PyProof.Rows L2
section
variable {K : PySem.W.Frag} {ρ : List Addr} {H : Hp} {S : Store}
theorem atI_rep {vs : List V} {ds : List D} (r : Reps K ρ H vs ds) {i : Int} {d : D} (e : atI ds i = some d) : ∃ v, atI vs i = some v ∧ Rep K ρ H v d := by
  unfold atI at e ⊢
  rw [r.length]
  simp only [Option.bind_eq_some_iff] at e ⊢
  obtain ⟨j, h1, h2⟩ := e
  obtain ⟨v, h3, h4⟩ := r.get h2
  exact ⟨v, ⟨j, h1, h3⟩, h4⟩
theorem cut_rep {vs : List V} {ds : List D} (r : Reps K ρ H vs ds) (lo hi : Option Int) : Reps K ρ H (cutV vs lo hi) (cutD ds lo hi) := by
  unfold cutV cutD
  rw [r.length]
  exact (r.drop _).take _
theorem intsD_rep : ∀ {vs : List V} {ds : List D} {is : List Int}, Reps K ρ H vs ds → intsD ds = some is → vs = is.map V.int
  | _, _, is, .nil, h => by simp [intsD] at h; subst h; rfl
  | _, _, is, .cons (d := d) r t, h => by
    cases r <;> simp only [intsD, Option.map_eq_some_iff, reduceCtorEq] at h
    obtain ⟨js, h1, rfl⟩ := h
    rw [intsD_rep t h1]; rfl
theorem blsD_rep : ∀ {vs : List V} {ds : List D} {is : List Bool}, Reps K ρ H vs ds → blsD ds = some is → vs = is.map V.bl
  | _, _, is, .nil, h => by simp [blsD] at h; subst h; rfl
  | _, _, is, .cons (d := d) r t, h => by
    cases r <;> simp only [blsD, Option.map_eq_some_iff, reduceCtorEq] at h
    obtain ⟨js, h1, rfl⟩ := h
    rw [blsD_rep t h1]; rfl
end
/-- o[i] -/
def rIxM (K : PySem.W.Frag) : R2 := fun v w H Q => ∃ (ρ : List Addr) (S : Store) (a b d : D), Sim K ρ S H ∧ Rep K ρ H v a ∧ Rep K ρ H w b ∧ idxop a b S = some d ∧ ∀ x, Rep K ρ H x d → Q x H
/-- o[lo:hi] -/
def rSlM (K : PySem.W.Frag) : V → Option Int → Option Int → Hp → VK → Prop := fun v lo hi H Q => ∃ (ρ : List Addr) (S : Store) (a d : D) (S' : Store), Sim K ρ S H ∧ Rep K ρ H v a ∧ slcop a lo hi S = some (d, S') ∧ Aft K ρ H S' d Q
/-- a call by the machine's own f -/
def rCall (K : PySem.W.Frag) (f : List D → Store → Option (D × Store)) : List V → Hp → VK → Prop := fun vs H Q => ∃ (ρ : List Addr) (S : Store) (ds : List D) (d : D) (S' : Store), Sim K ρ S H ∧ Reps K ρ H vs ds ∧ f ds S = some (d, S') ∧ Aft K ρ H S' d Q
section
variable {X : Cx}
theorem ix_M : IxR X (rIxM X.K) := by
  intro ve se pins s σ H x y v u Q I rx ry h hs
  obtain ⟨ρ, S, a, b, d, sm, ra, rb, e, k⟩ := h
  cases rb with
  | int i =>
    cases ra with
    | tup h1 r1 =>
      obtain ⟨z, hz, rz⟩ := atI_rep r1 e
      exact ix_tup ve se pins s σ H _ _ v u Q I rx ry ⟨_, _, i, z, rfl, rfl, h1, hz, k z rz⟩ hs
    | ref h1 =>
      simp only [idxop, Option.bind_eq_some_iff] at e
      obtain ⟨ys, hl, e⟩ := e
      obtain ⟨vs, hq, r1⟩ := sm.list hl h1
      obtain ⟨z, hz, rz⟩ := atI_rep r1 e
      exact ix_list ve se pins s σ H _ _ v u Q I rx ry ⟨_, _, i, z, rfl, rfl, hq, hz, k z rz⟩ hs
    | str z =>
      simp only [idxop] at e
      split at e
      · rename_i c
        simp only [Option.map_eq_some_iff] at e
        obtain ⟨ch, hc, rfl⟩ := e
        exact ix_str ve se pins s σ H _ _ v u Q I rx ry ⟨z, i, ch, rfl, rfl, c, hc, k _ (.str _)⟩ hs
      · cases e
    | _ => cases e
  | _ => cases ra <;> cases e
theorem sl_M : SlR X (rSlM X.K) := by
  intro pins s σ H x v vl vu lo hi sl Q I rx hs pl pu h
  obtain ⟨ρ, S, a, d, S', sm, ra, e, k⟩ := h
  cases ra with
  | tup h1 r1 =>
    cases e
    refine sl_tupA pins s σ H _ v vl vu lo hi sl Q I rx hs pl pu ⟨_, _, rfl, h1, fun z => ?_, fun _ p hp => k.tup sm (cut_rep r1 lo hi) hp⟩
    refine k.here sm (.tup h1 ?_)
    have q := cut_rep r1 lo hi
    unfold cutV at q
    rw [z.2, z.1] at q
    simpa using q
  | ref h1 =>
    simp only [slcop, Option.map_eq_some_iff] at e
    obtain ⟨ys, hl, e⟩ := e
    cases e
    obtain ⟨vs, hq, r1⟩ := sm.list hl h1
    exact sl_list pins s σ H _ v vl vu lo hi sl Q I rx hs pl pu ⟨_, vs, rfl, hq, fun p hp => k.lst sm (cut_rep r1 lo hi) hp⟩
  | str z =>
    obtain ⟨c, e⟩ := okI_some e
    cases e
    exact sl_str pins s σ H _ v vl vu lo hi sl Q I rx hs pl pu ⟨z, rfl, of_decide_eq_true c, k.here sm (.str _)⟩
  | _ => cases e

/-! ## built-in functions -/
def biVal : Bi → Value
  | .len => .builtin "len" | .int => .type "int" | .abs => .builtin "abs" | .max => .builtin "max" | .min => .builtin "min" | .tuple => .type "tuple" | .list => .type "list"
  | .str => .type "str" | .repr => .builtin "repr" | .sum => .builtin "sum" | .all => .builtin "all" | .any => .builtin "any"
mutual
theorem dp_nodict {K : PySem.W.Frag} {H : Hp} : ∀ {v : V} {d : PyData}, Dp K H v d → d.hasDict = false
  | _, _, .non => rfl
  | _, _, .bl _ => rfl
  | _, _, .int _ => rfl
  | _, _, .str _ => rfl
  | _, _, .lst _ r => by unfold PyData.hasDict; exact dps_nodict r
  | _, _, .tup _ r => by unfold PyData.hasDict; exact dps_nodict r
theorem dps_nodict {K : PySem.W.Frag} {H : Hp} : ∀ {v : List V} {d : List PyData}, DpAll K H v d → PyData.hasDictAll d = false
  | _, _, .nil => rfl
  | _, _, .cons r t => by unfold PyData.hasDictAll; rw [dp_nodict r, dps_nodict t]; rfl
end
theorem cr_M (hc : X.calm = true) (hg : X.A.guards = some []) (hu : X.A.units + 200 < cLine) (b : Bi) : CallR X (biVal b) (rCall X.K (biop b)) := by
  intro pins s σ H xs us Q I r h
  obtain ⟨ρ, S, ds, d, S', sm, rs, e, k⟩ := h
  cases rs with
  | nil => cases b <;> cases e
  | cons r1 t1 =>
    cases t1 with
    | nil =>
      cases b with
      | len =>
        cases r1 with
        | tup h1 q1 => cases e; exact call_len_seq pins s σ H _ us Q I r ⟨_, _, rfl, .inr h1, by rw [q1.length]; exact k.here sm (.int _)⟩
        | ref h1 =>
          simp only [biop, Option.map_eq_some_iff] at e
          obtain ⟨ys, hl, e⟩ := e
          cases e
          obtain ⟨vs, hq, q1⟩ := sm.list hl h1
          exact call_len_seq pins s σ H _ us Q I r ⟨_, _, rfl, .inl hq, by rw [q1.length]; exact k.here sm (.int _)⟩
        | str z =>
          obtain ⟨c, e⟩ := okI_some e
          cases e
          exact call_len_str pins s σ H _ us Q I r ⟨z, rfl, of_decide_eq_true c, k.here sm (.int _)⟩
        | _ => cases e
      | int =>
        cases r1 with
        | int i => cases e; exact call_int1 pins s σ H _ us Q I r (.inl ⟨i, rfl, k.here sm (.int _)⟩)
        | bl b => cases e; exact call_int1 pins s σ H _ us Q I r (.inr ⟨b, rfl, k.here sm (.int _)⟩)
        | str z =>
          simp only [biop] at e
          split at e
          · rename_i n hn
            obtain ⟨c, e⟩ := okI_some e
            cases e
            exact call_int_str pins s σ H _ us Q I r ⟨z, n, rfl, hn, of_decide_eq_true c, k.here sm (.int _)⟩
          · cases e
        | _ => cases e
      | abs =>
        cases r1 with
        | int i => cases e; exact call_abs pins s σ H _ us Q I r ⟨i, rfl, k.here sm (.int _)⟩
        | _ => cases e
      | max => cases r1 <;> cases e
      | min => cases r1 <;> cases e
      | tuple =>
        cases r1 with
        | tup h1 q1 => cases e; exact call_tuple_of pins s σ H _ us Q I r ⟨_, _, rfl, .inr ⟨h1, k.here sm (.tup h1 q1)⟩⟩
        | ref h1 =>
          simp only [biop, Option.map_eq_some_iff] at e
          obtain ⟨ys, hl, e⟩ := e
          cases e
          obtain ⟨vs, hq, q1⟩ := sm.list hl h1
          exact call_tuple_of pins s σ H _ us Q I r ⟨_, _, rfl, .inl ⟨hq, fun p hp => k.tup sm q1 hp⟩⟩
        | _ => cases e
      | list =>
        cases r1 with
        | tup h1 q1 => cases e; exact call_list_of pins s σ H _ us Q I r ⟨_, _, rfl, .inr h1, fun p hp => k.lst sm q1 hp⟩
        | ref h1 =>
          simp only [biop, Option.map_eq_some_iff] at e
          obtain ⟨ys, hl, e⟩ := e
          cases e
          obtain ⟨vs, hq, q1⟩ := sm.list hl h1
          exact call_list_of pins s σ H _ us Q I r ⟨_, _, rfl, .inl hq, fun p hp => k.lst sm q1 hp⟩
        | _ => cases e
      | str =>
        cases r1 with
        | int i =>
          obtain ⟨c, e⟩ := okI_some e
          cases e
          exact call_str_int pins s σ H _ us Q I r ⟨i, rfl, of_decide_eq_true c, k.here sm (.str _)⟩
        | str z => cases e; exact SkE.call_str_str pins s σ H _ us Q I r ⟨_, rfl, k.here sm (.str _)⟩
        | _ => cases e
      | sum =>
        cases r1 with
        | ref h1 =>
          simp only [biop, Option.bind_eq_some_iff, Option.map_eq_some_iff] at e
          obtain ⟨ys, hl, is, hi, e⟩ := e
          cases e
          obtain ⟨vs, hq, q1⟩ := sm.list hl h1
          rw [intsD_rep q1 hi] at hq
          exact cr_sum hc pins s σ H _ us Q I r ⟨_, is, rfl, hq, k.here sm (.int _)⟩
        | _ => cases e
      | all =>
        cases r1 with
        | ref h1 =>
          simp only [biop, Option.bind_eq_some_iff, Option.map_eq_some_iff] at e
          obtain ⟨ys, hl, is, hi, e⟩ := e
          cases e
          obtain ⟨vs, hq, q1⟩ := sm.list hl h1
          rw [blsD_rep q1 hi] at hq
          exact cr_all hc pins s σ H _ us Q I r ⟨_, is, rfl, hq, k.here sm (.bl _)⟩
        | _ => cases e
      | any =>
        cases r1 with
        | ref h1 =>
          simp only [biop, Option.bind_eq_some_iff, Option.map_eq_some_iff] at e
          obtain ⟨ys, hl, is, hi, e⟩ := e
          cases e
          obtain ⟨vs, hq, q1⟩ := sm.list hl h1
          rw [blsD_rep q1 hi] at hq
          exact cr_any hc pins s σ H _ us Q I r ⟨_, is, rfl, hq, k.here sm (.bl _)⟩
        | _ => cases e
      | repr =>
        simp only [biop, Option.bind_eq_some_iff] at e
        obtain ⟨x, hx, e⟩ := e
        split at e
        · rename_i c
          simp only [Bool.and_eq_true, decide_eq_true_eq] at c
          cases e
          have hd := dp_of sm r1 hx
          have far : ∀ {a : Addr} {u : Value}, RelV (.ref a) u → Dp X.K H (.ref a) x → wpAny (model X.prog X.w) X.A (call (.builtin "repr") [u]) (EP X pins σ Q) X.xe s := fun {a u} ru hd => by
            obtain ⟨as, rd⟩ := Dp.reads I _ _ _ hd ru
            cases ru
            exact repr_of_reads' rd c.1.1 (fun z => by rw [dp_nodict hd] at z; cases z) hg (by have := c.1.2; omega) (fun _ _ e => e)
              (fun h' tk t' hk => ⟨.str x.shown, H, I.kept (t' := t') hk, ⟨tk, rfl⟩, k.here sm (.str _)⟩) c.2
          cases r with
          | cons ru rt =>
            cases rt
            cases r1 with
            | non =>
              cases ru
              simp only [pdG, Option.some.injEq] at hx
              subst hx
              exact PySem.P.repr_of_none ⟨.str _, H, I.tok _, ⟨_, rfl⟩, k.here sm (.str _)⟩
            | bl b =>
              cases ru
              simp only [pdG, Option.some.injEq] at hx
              subst hx
              exact PySem.P.repr_of_bool ⟨.str _, H, I.tok _, ⟨_, rfl⟩, k.here sm (.str _)⟩
            | int i =>
              obtain ⟨t, rfl⟩ := ru
              simp only [pdG, Option.some.injEq] at hx
              subst hx
              exact PySem.P.repr_of_int (of_decide_eq_true c.1.1) ⟨.str _, H, I.tok _, ⟨_, rfl⟩, k.here sm (.str _)⟩
            | str z =>
              obtain ⟨t, rfl⟩ := ru
              simp only [pdG, Option.some.injEq] at hx
              subst hx
              exact PySem.P.repr_of_str (hsz := c.2) ⟨.str _, H, I.tok _, ⟨_, rfl⟩, k.here sm (.str _)⟩
            | tup h1 q1 => exact far ru hd
            | ref h1 => exact far ru hd
            | fn h1 => simp only [pdG] at hx; cases hx
        · cases e
    | cons r2 t2 =>
      cases t2 with
      | nil =>
        cases b with
        | max =>
          cases r1 with
          | int i => cases r2 with
            | int j => cases e; exact call_max2 hc pins s σ H _ us Q I r ⟨i, j, rfl, k.here sm (.int _)⟩
            | _ => cases e
          | _ => cases e
        | min =>
          cases r1 with
          | int i => cases r2 with
            | int j => cases e; exact call_min2 hc pins s σ H _ us Q I r ⟨i, j, rfl, k.here sm (.int _)⟩
            | _ => cases e
          | _ => cases e
        | _ => simp [biop] at e
      | cons _ _ => cases b <;> simp [biop] at e
end
end Tm

set_option Elab.async false
set_option linter.all false
set_option maxRecDepth 100000
set_option maxHeartbeats 4000000
namespace Tm
open PySem PySem.Spec PyProof.Rows L2

/-! ## room, by a class's call too -/
def RoomM (k : Nat) (B : Around) : Prop := ∃ A : Around, Room k A ∧ (B = A ∨ ∃ (C : Addr) (us : List Value) (kw : List (Str × Value)), B = A.under (.builtin "type.__call__" ⟨.ref C :: us, kw⟩))
theorem RoomM.of {k : Nat} {A : Around} (h : Room k A) : RoomM k A := ⟨A, h, .inl rfl⟩
theorem RoomM.deeper {k : Nat} {B : Around} (h : RoomM (k + 1) B) (env : Env) : Room k (B.deeper env) := by
  obtain ⟨A, r, h⟩ := h
  rcases h with rfl | ⟨C, us, kw, rfl⟩
  · exact r.deeper env
  · have d := r.dp
    have u := r.un
    refine ⟨r.hd, ?_, ?_⟩
    · show (A.under _).depth + 1 + 3 * k + 5 < _
      rw [make_depth]; omega
    · show (A.under _).units + 3 + 16 * k + 200 < _
      rw [make_units]; omega
theorem RoomM.hd {k : Nat} {B : Around} (h : RoomM k B) : B.handled = none := by
  obtain ⟨A, r, h⟩ := h
  rcases h with rfl | ⟨C, us, kw, rfl⟩
  · exact r.hd
  · exact r.hd
theorem RoomM.depth {k : Nat} {B : Around} (h : RoomM k B) : B.depth < recursionLimit := by
  obtain ⟨A, r, h⟩ := h
  have d := r.dp
  rcases h with rfl | ⟨C, us, kw, rfl⟩
  · omega
  · rw [make_depth]; omega
/-! ## a def's promise where no text of an object is under way -/
structure FnG (P : Program) (w : World) (K : PySem.W.Frag) (mg : Str → Option Value) (base : Heap) (k : Nat) (f : Addr) (fd : FuncData) (ps : List Str) (sp : Sp) : Prop where
  many : ∀ vs H Q, sp vs H Q E0 → vs.length = ps.length
  go : ∀ (B : Around) (out : List Env) (t : Shared) (H : Hp) (as : Args) (us : List Value) (vs : List V) (Q : VK), RoomM k B → B.guards = some [] → Env0 P w K mg base B out t H →
    BindsTo t fd as (ps.zip us) → Vals vs us → sp vs H Q E0 → codeAny (model P w) B (.call (.ref f) as) (CR CX0 out P w H t Q E0) t
/-- the body of a def: its term and what it asks -/
theorem fnG_of {P : Program} {w : World} {K : PySem.W.Frag} {mg : Str → Option Value} {base : Heap} {k : Nat} {x qual : Str} {st : Stmt} {f : Addr} {fd : FuncData} {N ps : List Str} {sp : Sp}
    (F : Fun K x qual st f fd) (S : FnScope N ps (defScope st)) (many : ∀ vs H Q, sp vs H Q E0 → vs.length = ps.length)
    (body : ∀ (cdv : Value) (B : Around) (out : List Env) (t : Shared) (H : Hp) (vs : List V) (Q : VK), Room k (B.deeper (envOfC qual (defScope st) t.heap.objs.size f cdv)) → B.guards = some [] → sp vs H Q E0 →
      ∃ r, PSs (cxOf CX0 P w K mg base N qual (defScope st) f cdv B out t H E0).nox (defBody st) r ∧ r { nx := fun _ H' => Q .non H', rt := Q } (start N vs) H) : FnG P w K mg base (k + 1) f fd ps sp := by
  obtain ⟨oc, od, kV, doc, pm, an, cdv, ct, osl, hfd, lk, hcd⟩ := F.ex
  subst hfd
  refine ⟨many, fun B out t H as us vs Q room gd e0 bd rel h => ?_⟩
  have hlen := many _ _ _ h
  have kin : K.In t.heap := e0.mod.kin.keeps (fun b o e => (e0.bs b o e).1)
  have nolim : t.heap.NoLimit := e0.mod.nolimit.keeps (fun b o e => (e0.bs b o e).1)
  have kinds : ∀ y ∈ ps.zip us, (defScope st).names.lookup y.1 = some .local ∨ ((defScope st).names.lookup y.1 = some .cell ∧ ((cellsFrom (t.heap.objs.size + 1) (defScope st).names []).lookup y.1).isSome = true) := by
    rintro ⟨n, v⟩ hy
    rcases S.par n (List.of_mem_zip hy).1 with q | q
    · left; exact q
    · right; exact ⟨q, PySem.W.cellsFrom_some _ _ _ (Or.inl q)⟩
  apply codeAny_call_function room.depth (kin _ _ lk) rfl S.co S.gen rfl (PySem.W.codeRec_of kin hcd)
  apply bd
  apply wpAny_newFunctionEnv_cells S.kind kinds
  intro env he t1 ic
  subst he
  refine ⟨nolim.keeps ic.toInCall.keep, ?_⟩
  apply codeAny_func
  obtain ⟨r, hr, hq⟩ := body cdv B out t H vs Q (room.deeper _) gd h
  have J := inv_start (CX := CX0) (E := E0) S room.hd e0 hlen rel ic
  have fin : ∀ {σ' : L2.St} {H' : Hp} {v : V} {u : Value} {t' : Shared}, Inv (cxOf CX0 P w K mg base N qual (defScope st) f cdv B out t H E0) [] σ' H' t' → RelV v u → Q v H' → CE out P w H t Q u t' := by
    intro σ' H' v u t' J rv q
    exact ⟨v, H', J.os, J.bare, J.base, J.hok, rv, q⟩
  apply wpAny_mono (hr.nox.run [] t1 _ H _ J hq)
  · intro fl t' hs
    match fl, hs with
    | .ret u, ⟨v, σ', H', J', rv, q⟩ => exact fin J' rv q
    | .next, ⟨σ', H', J', q⟩ => exact fin (v := V.non) (u := Value.none) J' rfl q
    | .brk, ⟨_, _, _, q⟩ => exact q.elim
    | .cont, ⟨_, _, _, q⟩ => exact q.elim
  · exact fun e t' hs => hs
section
variable {X : Cx} {k : Nat} {f : Addr} {fd : FuncData} {ps : List Str} {sp : Sp}
/-- a call of such a def, its arguments bound -/
theorem callG {pins : List (Addr × Obj)} {σ : L2.St} {H : Hp} {t : Shared} {Q : VK} {us : List Value} {kw : List (Str × Value)} {bs : List Value} {vs : List V} (F : FnG X.prog X.w X.K X.mg X.base k f fd ps sp) (room : Room k X.A) (gd : X.A.guards = some [])
    (bd : BindsTo t fd ⟨us, kw⟩ (ps.zip bs)) (I : Inv X pins σ H t) (rel : Vals vs bs) (h : sp vs H Q E0) : wpAny (model X.prog X.w) X.A (call (.ref f) us kw) (EP X pins σ Q) X.xe t := by
  apply wpAny_call
  apply codeAny_mono (F.go X.A X.stack t H ⟨us, kw⟩ bs vs Q (.of room) gd I.env0 bd rel h)
  intro res t' hq
  match res, hq with
  | .ok (.ret u), hq => exact I.after hq
/-- an object of an own class is made, its first def called -/
theorem makeG {pins : List (Addr × Obj)} {σ : L2.St} {H : Hp} {t : Shared} {Q : VK} {us : List Value} {vs : List V} {C : Addr} (M : Mk X.K C f) (F : FnG X.prog X.w X.K X.mg X.base k f fd ps sp) (room : Room k X.A) (gd : X.A.guards = some [])
    (hb : Binds X.K fd ps []) (I : Inv X pins σ H t) (rel : Vals vs us)
    (h : ∀ (x dx : Addr), H x = none → H dx = none → dx ≠ x → sp (.ref x :: vs) (upd (upd H dx (.own x)) x (.ins C dx [])) (fun v H2 => v = .non ∧ Q (.ref x) H2) E0) :
    wpAny (model X.prog X.w) X.A (call (.ref C) us) (EP X pins σ Q) X.xe t := by
  have hq := h (t.heap.objs.size + 1) t.heap.objs.size (HOk.fresh I.hok (Nat.le_succ _)) (HOk.fresh I.hok (Nat.le_refl _)) (Nat.ne_of_lt (Nat.lt_succ_self _))
  have I2 := Inv.made (C := C) I
  have r2 : Vals (V.ref (t.heap.objs.size + 1) :: vs) (Value.ref (t.heap.objs.size + 1) :: us) := .cons rfl rel
  have hl : (Value.ref (t.heap.objs.size + 1) :: (us ++ ([] : List Value))).length = ps.length := by
    have e1 := F.many _ _ _ hq
    have e2 := r2.length
    simp only [List.append_nil]
    omega
  have bd := hb _ (Value.ref (t.heap.objs.size + 1) :: us) (Inv.kIn I2) hl
  rw [List.append_nil] at bd
  refine wpAny_call (make_map (Inv.kIn I) M.makes M.init (beq_iff_eq.mp M.fn) (codeAny_mono (F.go _ X.stack _ _ _ _ _ _ ⟨X.A, room, .inr ⟨C, us, [], rfl⟩⟩ ?_ (Env0.make (Inv.env0 I2) C us []) bd r2 hq) ?_))
  · have e : ((Code.builtin "type.__call__" ⟨Value.ref C :: us, []⟩).guards : List Code) = [] := rfl
    show pushGuards (Code.builtin "type.__call__" ⟨Value.ref C :: us, []⟩).guards X.A.guards = some []
    rw [gd, e]; rfl
  · intro res t' hq'
    match res, hq' with
    | .ok (.ret u), hq' =>
      obtain ⟨v, H', I3, rv, ev, q3⟩ := Inv.after I2 hq'
      subst ev
      exact ⟨rv, V.ref (t.heap.objs.size + 1), H', I3, rfl, q3⟩
end
end Tm

set_option Elab.async false
set_option linter.all false
set_option maxRecDepth 100000
set_option maxHeartbeats 4000000
namespace Tm
open PySem PySem.Spec PyProof.Rows L2

/-! ## the machine's runs as readings -/
def EnvR (K : PySem.W.Frag) (ρ : List Addr) (H : Hp) (e : Env') (σ : L2.St) : Prop := e.length = σ.length ∧ ∀ (i : Nat) (d : D), e[i]? = some (some d) → ∃ v, σ[i]? = some (some v) ∧ Rep K ρ H v d
theorem EnvR.mono {K : PySem.W.Frag} {ρ ρ' : List Addr} {H H' : Hp} {e : Env'} {σ : L2.St} (h : EnvR K ρ H e σ) (p : Pre ρ ρ') (g : Gro H H') : EnvR K ρ' H' e σ :=
  ⟨h.1, fun i d q => let ⟨v, a, r⟩ := h.2 i d q; ⟨v, a, r.mono g p⟩⟩
def tE (p : Pm) (K : PySem.W.Frag) (c : C) : TE := fun σ H Q => ∃ (ρ : List Addr) (S : Store) (e : Env') (x : D × Store), Sim K ρ S H ∧ EnvR K ρ H e σ ∧ ev p c e S = some x ∧ Aft K ρ H x.2 x.1 Q
def AftA (K : PySem.W.Frag) (ρ : List Addr) (H : Hp) (S' : Store) (ds : List D) (Q : List V → Hp → Prop) : Prop :=
  ∀ (ρ' : List Addr) (H' : Hp) (vs : List V), Pre ρ ρ' → Gro H H' → Sim K ρ' S' H' → Reps K ρ' H' vs ds → Q vs H'
def tA (p : Pm) (K : PySem.W.Frag) (c : C) : TA := fun σ H Q => ∃ (ρ : List Addr) (S : Store) (e : Env') (ds : List D) (S' : Store), Sim K ρ S H ∧ EnvR K ρ H e σ ∧ ev p c e S = some (.tup ds, S') ∧ AftA K ρ H S' ds Q
def AftT (K : PySem.W.Frag) (ρ : List Addr) (H : Hp) (S' : Store) (b : Bool) (Q : Bool → Hp → Prop) : Prop :=
  ∀ (ρ' : List Addr) (H' : Hp), Pre ρ ρ' → Gro H H' → Sim K ρ' S' H' → Q b H'
def tTs (p : Pm) (K : PySem.W.Frag) (c : C) : TT := fun σ H Q => ∃ (ρ : List Addr) (S : Store) (e : Env') (b : Bool) (S' : Store), Sim K ρ S H ∧ EnvR K ρ H e σ ∧ ev p c e S = some (.bl b, S') ∧ AftT K ρ H S' b Q
def tO' (p : Pm) (K : PySem.W.Frag) (c : C) : TO := fun σ H Q => ∃ (ρ : List Addr) (S : Store) (e : Env') (x : Option Int × Store), Sim K ρ S H ∧ EnvR K ρ H e σ ∧ part (isAbs c) S (ev p c e S) = some x ∧
  ∀ (ρ' : List Addr) (H' : Hp), Pre ρ ρ' → Gro H H' → Sim K ρ' x.2 H' → Q x.1 H'
/-- what a walk of the items is -/
def ItOk (K : PySem.W.Frag) (ρ : List Addr) (H : Hp) (items cks : List D) (J : It) : Prop :=
  ∀ (ρ2 : List Addr) (S2 : Store) (H2 : Hp), Pre ρ ρ2 → Gro H H2 → Sim K ρ2 S2 H2 → chks S2 cks = true →
    ∀ i : Nat, (i = items.length → J.stop i H2) ∧ ∀ d, items[i]? = some d → J.go i H2 ∧ ∀ x H3, J.yld i H2 x H3 → Gro H2 H3 ∧ Sim K ρ2 S2 H3 ∧ Rep K ρ2 H3 x d
def tI (p : Pm) (K : PySem.W.Frag) (c : C) : TI := fun σ H R => ∃ (ρ : List Addr) (S : Store) (e : Env') (items cks : List D) (S' : Store), Sim K ρ S H ∧ EnvR K ρ H e σ ∧ ev p c e S = some (itD items cks, S') ∧
  ∀ (ρ' : List Addr) (H' : Hp) (J : It), Pre ρ ρ' → Gro H H' → Sim K ρ' S' H' → ItOk K ρ' H' items cks J → R J H'

theorem PE.imp {X : Cx} {e : Expr} {t t' : TE} (h : PE X e t) (f : ∀ σ H Q, t' σ H Q → t σ H Q) : PE X e t' := ⟨fun pins s σ H Q I q => h.run pins s σ H Q I (f σ H Q q)⟩
theorem PE.by2 {X : Cx} {e : Expr} {t t1 t2 : TE} (h1 : PE X e t1) (h2 : PE X e t2) (f : ∀ σ H Q, t σ H Q → t1 σ H Q ∨ t2 σ H Q) : PE X e t :=
  ⟨fun pins s σ H Q I q => (f σ H Q q).elim (h1.run pins s σ H Q I) (h2.run pins s σ H Q I)⟩
theorem PT.by2 {X : Cx} {e : Expr} {t t1 t2 : TT} (h1 : PT X e t1) (h2 : PT X e t2) (f : ∀ σ H Q, t σ H Q → t1 σ H Q ∨ t2 σ H Q) : PT X e t :=
  ⟨fun pins s σ H Q I q => (f σ H Q q).elim (h1.run pins s σ H Q I) (h2.run pins s σ H Q I)⟩
theorem PT.imp {X : Cx} {e : Expr} {t t' : TT} (h : PT X e t) (f : ∀ σ H Q, t' σ H Q → t σ H Q) : PT X e t' := ⟨fun pins s σ H Q I q => h.run pins s σ H Q I (f σ H Q q)⟩
theorem PW.imp {X : Cx} {e : Expr} {t t' : TT} (h : PW X e t) (f : ∀ σ H Q, t' σ H Q → t σ H Q) : PW X e t' := ⟨fun wh pins s σ H Q I q => h.run wh pins s σ H Q I (f σ H Q q)⟩
theorem PA.imp {X : Cx} {e : List Expr} {t t' : TA} (h : PA X e t) (f : ∀ σ H Q, t' σ H Q → t σ H Q) : PA X e t' := ⟨fun pos pins s σ H Q I q => h.run pos pins s σ H Q I (f σ H Q q)⟩
theorem PO.imp {X : Cx} {e : Option Expr} {t t' : TO} (h : PO X e t) (f : ∀ σ H Q, t' σ H Q → t σ H Q) : PO X e t' := ⟨fun pins s σ H Q I q => h.run pins s σ H Q I (f σ H Q q)⟩
theorem PI.imp {X : Cx} {tg e : Expr} {t t' : TI} (h : PI X tg e t) (f : ∀ σ H Q, t' σ H Q → t σ H Q) : PI X tg e t' := ⟨fun pins s σ H Q I q => h.run pins s σ H Q I (f σ H Q q)⟩

/-! ## one step after another -/
section
variable {p : Pm} {K : PySem.W.Frag} {ρ : List Addr} {S : Store} {H : Hp} {e : Env'} {σ : L2.St} {a b : C} {x y : D × Store}
theorem st1 (sm : Sim K ρ S H) (en : EnvR K ρ H e σ) (ha : ev p a e S = some x) {Q : VK} (k : ∀ (ρ' : List Addr) (H' : Hp) (v : V), Pre ρ ρ' → Gro H H' → Sim K ρ' x.2 H' → EnvR K ρ' H' e σ → Rep K ρ' H' v x.1 → Q v H') : tE p K a σ H Q :=
  ⟨ρ, S, e, x, sm, en, ha, fun ρ' H' v p1 g1 s1 r1 => k ρ' H' v p1 g1 s1 (en.mono p1 g1) r1⟩
theorem st2 (sm : Sim K ρ S H) (en : EnvR K ρ H e σ) (ha : ev p a e S = some x) (hb : ev p b e x.2 = some y) {R : V → V → Hp → Prop}
    (k : ∀ (ρ' : List Addr) (H' : Hp) (v w : V), Pre ρ ρ' → Gro H H' → Sim K ρ' y.2 H' → EnvR K ρ' H' e σ → Rep K ρ' H' v x.1 → Rep K ρ' H' w y.1 → R v w H') : tE p K a σ H fun v H1 => tE p K b σ H1 fun w H2 => R v w H2 :=
  st1 sm en ha fun ρ1 H1 v p1 g1 s1 e1 r1 => st1 s1 e1 hb fun ρ2 H2 w p2 g2 s2 e2 r2 => k ρ2 H2 v w (p1.trans p2) (g1.trans g2) s2 e2 (r1.mono g2 p2) r2
theorem stT (sm : Sim K ρ S H) (en : EnvR K ρ H e σ) {q : Bool} {S' : Store} (ha : ev p a e S = some (.bl q, S')) {Q : Bool → Hp → Prop} (k : ∀ (ρ' : List Addr) (H' : Hp), Pre ρ ρ' → Gro H H' → Sim K ρ' S' H' → EnvR K ρ' H' e σ → Q q H') : tTs p K a σ H Q :=
  ⟨ρ, S, e, q, S', sm, en, ha, fun ρ' H' p1 g1 s1 => k ρ' H' p1 g1 s1 (en.mono p1 g1)⟩
end

/-! ## what the context of a body must be -/
/-- what all of the machine's functions ask: as many arguments as parameters -/
def Arity (R : Nat → List D → Store → Option (D × Store)) (f n : Nat) : Prop := ∀ ds S x, R f ds S = some x → ds.length = n
/-- what a def of the machine promises -/
def spR (K : PySem.W.Frag) (n : Nat) (f : List D → Store → Option (D × Store)) : Sp := fun vs H Q _ => vs.length = n ∧ rCall K f vs H Q
structure GMat (P : Program) (w : World) (K : PySem.W.Frag) (mg : Str → Option Value) (base : Heap) (p : Pm) (G : Gx) (k : Nat) : Prop where
  funs : ∀ (x : Str) (f : Nat) (ps : List Str), G.funs.lookup x = some (f, ps) → ∃ (a : Addr) (fd : FuncData), mg x = some (.ref a) ∧ PySem.W.keepIn K (.ref a) = true ∧ FnG P w K mg base k a fd ps (spR K ps.length (p.R f)) ∧ Binds K fd ps [] ∧
    ∀ q ∈ G.kws, q.1 = x → ∀ (t : Shared) (us ws : List Value), us.length = q.2.1 → ws.length = q.2.2.1.length → BindsTo t fd ⟨us, q.2.2.1.zip ws⟩ (ps.zip (pick q.2.2.2 (us ++ ws)))
  cons : ∀ (x : Str) (g : Nat), G.cons.lookup x = some g → ∃ (u : Value) (v : V), mg x = some u ∧ RelV v u ∧ ∀ ρ H, Rep K ρ H v (p.gl g)
  dics : ∀ (x : Str) (g : Nat), G.dics.lookup x = some g → ∃ (a : Addr) (es : Array DictEntry) (n : Nat), mg x = some (.ref a) ∧ KDict K w a es n ∧
    ∀ z : Str, match lookK (p.kd g) z with
      | none => PySem.W.nsIn K a z = some none
      | some d => ∃ (u : Value) (v : V), PySem.W.nsIn K a z = some (some u) ∧ RelV v u ∧ ∀ ρ H, Rep K ρ H v d
  blt : ∀ x : Str, G.blt.contains x = true → mg x = none
  ar : ∀ (x : Str) (f : Nat) (ps : List Str), G.funs.lookup x = some (f, ps) → Arity p.R f ps.length
  fnv : ∀ (x : Str) (a : Addr), PySem.W.nsIn K mainGlobals x = some (some (.ref a)) → mg x = some (.ref a)
  fxs : ∀ (x : Str) (i : Nat), p.fx x = some i → ∃ ps, G.funs.lookup x = some (i, ps)
  clss : ∀ (x : Str) (f : Nat) (ps fl : List Str), G.clss.lookup x = some (f, ps, fl) → ∃ (C fa : Addr) (fd : FuncData), mg x = some (.ref C) ∧ PySem.W.nsIn K mainGlobals x = some (some (.ref C)) ∧ Mk K C fa ∧ FnG P w K mg base k fa fd ps (spR K ps.length (p.R f)) ∧ Binds K fd ps [] ∧ Arity p.R f ps.length
  flds : ∀ e ∈ G.clss, ∀ C, PySem.W.nsIn K mainGlobals e.1 = some (some (.ref C)) → Cls K C ∧ ∀ f ∈ e.2.2.2, NoAttr K C f
structure Mat (X : Cx) (p : Pm) (c : Cc) (k : Nat) : Prop where
  hN : X.N = c.N
  nd : c.N.Nodup
  sc : X.env.scope.names = c.names
  kind : X.env.scope.kind = .function
  calm : X.calm = true
  gd : X.A.guards = some []
  room : Room k X.A
  xe : X.xe = fun _ _ => False
  fn : ∀ x : Str, c.fnOk x = true → X.fn x = true ∨ X.env.scope.names.lookup x = some .local
  glob : GMat X.prog X.w X.K X.mg X.base p c.G k
section
variable {X : Cx} {p : Pm} {c : Cc} {k : Nat} {e : Expr}
theorem Mat.hu (M : Mat X p c k) : X.A.units + 200 < cLine := by have := M.room.un; omega
theorem Mat.vis (M : Mat X p c k) {x : Str} (h : visB c x = true) : Vis X.env.scope x := by
  unfold Vis
  rw [M.sc]
  unfold visB at h
  split at h <;> first | (exact .inl (by assumption)) | (exact .inr (.inl (by assumption))) | (exact .inr (.inr (by assumption))) | cases h
theorem Mat.loc (M : Mat X p c k) {x : Str} (h : locB c x = true) : L2.Loc X.env.scope x ∧ (X.fn x = true ∨ X.env.scope.names.lookup x = some .local) := by
  unfold locB at h
  rw [Bool.and_eq_true] at h
  refine ⟨?_, M.fn x h.2⟩
  unfold L2.Loc
  rw [M.sc]
  have h1 := h.1
  split at h1 <;> first | (exact .inl (by assumption)) | (exact .inr (by assumption)) | cases h1
theorem Mat.gl (M : Mat X p c k) {x : Str} (h : glB c x = true) : Gl X x ∧ badName x = false := by
  unfold glB at h
  split at h
  · rename_i q
    refine ⟨?_, by simpa using h⟩
    unfold Gl Env.kindOf
    rw [M.sc]
    exact q
  · cases h
theorem Mat.bl (M : Mat X p c k) {x : Str} (h : bltB c x = true) : Gl X x ∧ X.mg x = none ∧ badName x = false := by
  unfold bltB at h
  rw [Bool.and_eq_true] at h
  exact ⟨(M.gl h.1).1, M.glob.blt x h.2, (M.gl h.1).2⟩
theorem bad3 {x : Str} (h : badName x = false) : (x == ("__debug__" : Str)) = false ∧ (x == ("__classdict__" : Str)) = false ∧ x ≠ ("__name__" : Str) := by
  unfold badName at h
  simp only [Bool.or_eq_false_iff] at h
  exact ⟨h.1.1, h.1.2, fun z => by rw [z] at h; exact absurd h.2 (by decide)⟩
theorem none_bad {e : Env'} {S : Store} {x : D × Store} (h : ev p .bad e S = some x) : False := by simp [ev] at h
theorem k_bad : PE X e (tE p X.K .bad) := ⟨fun _ _ _ _ _ _ h => by obtain ⟨_, _, _, _, _, _, h, _⟩ := h; exact (none_bad h).elim⟩
theorem k_badT : PT X e (tTs p X.K .bad) := ⟨fun _ _ _ _ _ _ h => by obtain ⟨_, _, _, _, _, _, _, h, _⟩ := h; exact (none_bad h).elim⟩
theorem k_badW : PW X e (tTs p X.K .bad) := ⟨fun _ _ _ _ _ _ _ h => by obtain ⟨_, _, _, _, _, _, _, h, _⟩ := h; exact (none_bad h).elim⟩
theorem k_name (M : Mat X p c k) {x : Str} {pos : Pos} : PE X (.Name x pos) (tE p X.K (cName c x)) := by
  unfold cName
  split
  · exact k_bad
  · rename_i hb
    obtain ⟨b1, b2, b3⟩ := bad3 (by simpa using hb)
    split
    · rename_i hv
      split
      · rename_i i hi
        refine PE.imp (pe_var (i := i) (by rw [M.hN]; exact ixOf_get hi) (M.vis hv) b1 b2) fun σ H Q h => ?_
        obtain ⟨ρ, S, e, x, sm, en, h, q⟩ := h
        simp only [ev] at h
        split at h
        · rename_i d hd
          cases h
          obtain ⟨v, h1, r⟩ := en.2 i d hd
          exact ⟨v, h1, q.here sm r⟩
        · cases h
      · exact k_bad
    · split
      · rename_i hg
        split
        · rename_i g hc
          obtain ⟨u, v, h1, h2, h3⟩ := M.glob.cons x g hc
          refine PE.imp (pe_glob (M.gl hg).1 h1 h2 b1) fun σ H Q h => ?_
          obtain ⟨ρ, S, e, x, sm, en, h, q⟩ := h
          simp only [ev, Option.some.injEq] at h
          subst h
          exact q.here sm (h3 ρ H)
        · exact k_bad
      · exact k_bad
theorem k_const {kc : Const} {j : Nat} {pos : Pos} : PE X (.Constant kc j pos) (tE p X.K (cConst kc)) := by
  cases kc with
  | none => refine PE.imp pe_non fun σ H Q h => ?_; obtain ⟨ρ, S, e, x, sm, en, h, q⟩ := h; simp only [cConst, ev, isScal, if_true, Option.some.injEq] at h; subst h; exact q.here sm .non
  | bool b => refine PE.imp pe_bl fun σ H Q h => ?_; obtain ⟨ρ, S, e, x, sm, en, h, q⟩ := h; simp only [cConst, ev, isScal, if_true, Option.some.injEq] at h; subst h; exact q.here sm (.bl b)
  | int b => refine PE.imp pe_int fun σ H Q h => ?_; obtain ⟨ρ, S, e, x, sm, en, h, q⟩ := h; simp only [cConst, ev, isScal, if_true, Option.some.injEq] at h; subst h; exact q.here sm (.int b)
  | str b => refine PE.imp pe_str fun σ H Q h => ?_; obtain ⟨ρ, S, e, x, sm, en, h, q⟩ := h; simp only [cConst, ev, isScal, if_true, Option.some.injEq] at h; subst h; exact q.here sm (.str b)
  | _ => exact k_bad
variable {a b d : Expr} {ca cb cd : C} {pos : Pos}
theorem k_bin {o : Operator} {q : Bin} (ho : cBin o = some q) (ha : PE X a (tE p X.K ca)) (hb : PE X b (tE p X.K cb)) : PE X (.BinOp a o b pos) (tE p X.K (.bin q ca cb)) := by
  refine PE.imp (pe_op (op_bin ho) ha hb) fun σ H Q h => ?_
  obtain ⟨ρ, S, e, x, sm, en, h, kq⟩ := h
  simp only [ev, Option.bind_eq_some_iff] at h
  obtain ⟨x1, h1, x2, h2, h3⟩ := h
  exact st2 sm en h1 h2 fun ρ' H' v w p1 g1 s1 e1 r1 r2 => ⟨ρ', x2.2, x1.1, x2.1, x.1, x.2, s1, r1, r2, h3, kq.mono p1 g1⟩
theorem k_neg (ha : PE X a (tE p X.K ca)) : PE X (.UnaryOp .USub a pos) (tE p X.K (.neg ca)) := by
  refine PE.imp (pe_un un_neg ha) fun σ H Q h => ?_
  obtain ⟨ρ, S, e, x, sm, en, h, kq⟩ := h
  simp only [ev, Option.bind_eq_some_iff] at h
  obtain ⟨x1, h1, h2⟩ := h
  refine st1 sm en h1 fun ρ' H' v p1 g1 s1 e1 r1 => ?_
  split at h2
  · rename_i i hi
    cases h2
    rw [hi] at r1
    exact ⟨i, rep_int r1, (kq.mono p1 g1).here s1 (.int _)⟩
  · cases h2
theorem k_notE (ha : PE X a (tE p X.K ca)) : PE X (.UnaryOp .Not a pos) (tE p X.K (.not_ ca)) := by
  refine PE.imp (pe_not ha) fun σ H Q h => ?_
  obtain ⟨ρ, S, e, x, sm, en, h, kq⟩ := h
  simp only [ev, Option.bind_eq_some_iff] at h
  obtain ⟨x1, h1, h2⟩ := h
  refine st1 sm en h1 fun ρ' H' v p1 g1 s1 e1 r1 => ?_
  split at h2
  · rename_i i hi
    cases h2
    rw [hi] at r1
    exact ⟨i, rep_bl r1, (kq.mono p1 g1).here s1 (.bl _)⟩
  · cases h2
theorem noSet {b : Expr} (h : notSet b = true) (op : CmpOp) : behindInMarks op b = false := by
  cases b <;> first | rfl | (simp [notSet] at h; done)
/-! dicts of the store -/
theorem val_rel {K : PySem.W.Frag} {ρ : List Addr} {H : Hp} {kk : Key} : ∀ {ws : List (Key × V)} {kvs : List (Key × D)}, ws.map Prod.fst = kvs.map Prod.fst → Reps K ρ H (ws.map Prod.snd) (kvs.map Prod.snd) →
    (∃ v d, valV ws kk = some v ∧ valD kvs kk = some d ∧ Rep K ρ H v d) ∨ (valV ws kk = none ∧ valD kvs kk = none)
  | [], [], _, _ => .inr ⟨rfl, rfl⟩
  | [], _ :: _, h, _ => by cases h
  | _ :: _, [], h, _ => by cases h
  | w :: ws, q :: kvs, h, r => by
    simp only [List.map_cons, List.cons.injEq] at h
    simp only [List.map_cons] at r
    cases r with
    | cons r1 r2 =>
      by_cases e : w.1 = kk
      · exact .inl ⟨w.2, q.2, valV_pos e, by simp only [valD, List.find?_cons, ← h.1, e, decide_true, Option.map_some], r1⟩
      · have e2 : ¬ q.1 = kk := by rw [← h.1]; exact e
        rcases val_rel (kk := kk) h.2 r2 with ⟨v, d, h1, h2, h3⟩ | ⟨h1, h2⟩
        · exact .inl ⟨v, d, by rw [valV_neg e]; exact h1, by simp only [valD, List.find?_cons, decide_eq_false e2]; exact h2, h3⟩
        · exact .inr ⟨by rw [valV_neg e]; exact h1, by simp only [valD, List.find?_cons, decide_eq_false e2]; exact h2⟩
theorem any_rel {kk : Key} : ∀ {ws : List (Key × V)} {kvs : List (Key × D)}, ws.map Prod.fst = kvs.map Prod.fst → (ws.any fun kv => decide (kv.1 = kk)) = (kvs.any fun kv => decide (kv.1 = kk))
  | [], [], _ => rfl
  | [], _ :: _, h => by cases h
  | _ :: _, [], h => by cases h
  | w :: ws, q :: kvs, h => by
    simp only [List.map_cons, List.cons.injEq] at h
    simp only [List.any_cons, any_rel h.2, h.1]
theorem map_rel {K : PySem.W.Frag} {ρ : List Addr} {H : Hp} {kk : Key} {v : V} {d : D} (rv : Rep K ρ H v d) : ∀ {ws : List (Key × V)} {kvs : List (Key × D)}, ws.map Prod.fst = kvs.map Prod.fst → Reps K ρ H (ws.map Prod.snd) (kvs.map Prod.snd) →
    (ws.map fun kv => if kv.1 = kk then (kv.1, v) else kv).map Prod.fst = (kvs.map fun kv => if kv.1 = kk then (kv.1, d) else kv).map Prod.fst ∧
    Reps K ρ H ((ws.map fun kv => if kv.1 = kk then (kv.1, v) else kv).map Prod.snd) ((kvs.map fun kv => if kv.1 = kk then (kv.1, d) else kv).map Prod.snd)
  | [], [], _, _ => ⟨rfl, .nil⟩
  | [], _ :: _, h, _ => by cases h
  | _ :: _, [], h, _ => by cases h
  | w :: ws, q :: kvs, h, r => by
    simp only [List.map_cons, List.cons.injEq] at h
    simp only [List.map_cons] at r
    cases r with
    | cons r1 r2 =>
      obtain ⟨h1, h2⟩ := map_rel (kk := kk) rv h.2 r2
      by_cases e : w.1 = kk
      · have e2 : q.1 = kk := by rw [← h.1]; exact e
        simp only [List.map_cons, if_pos e, if_pos e2, h.1]
        exact ⟨by rw [h1], .cons rv h2⟩
      · have e2 : ¬ q.1 = kk := by rw [← h.1]; exact e
        simp only [List.map_cons, if_neg e, if_neg e2, h.1]
        exact ⟨by rw [h1], .cons r1 h2⟩
theorem put_rel {K : PySem.W.Frag} {ρ : List Addr} {H : Hp} {kk : Key} {v : V} {d : D} (rv : Rep K ρ H v d) {ws : List (Key × V)} {kvs : List (Key × D)} (h : ws.map Prod.fst = kvs.map Prod.fst) (r : Reps K ρ H (ws.map Prod.snd) (kvs.map Prod.snd)) :
    (putK ws kk v).map Prod.fst = (putD kvs kk d).map Prod.fst ∧ Reps K ρ H ((putK ws kk v).map Prod.snd) ((putD kvs kk d).map Prod.snd) := by
  unfold putK putD
  rw [any_rel h]
  by_cases e : (kvs.any fun kv => decide (kv.1 = kk)) = true
  · rw [if_pos e, if_pos e]; exact map_rel rv h r
  · rw [if_neg e, if_neg e]
    simp only [List.map_append, List.map_cons, List.map_nil]
    exact ⟨by rw [h], r.append (.cons rv .nil)⟩
theorem rep_key {K : PySem.W.Frag} {ρ : List Addr} {H : Hp} {w : V} {d : D} {kk : Key} (r : Rep K ρ H w d) (h : keyD d = some kk) : w = kV kk := by
  cases r <;> simp only [keyD, Option.some.injEq, reduceCtorEq] at h <;> subst h <;> rfl
theorem din_rd {K : PySem.W.Frag} {ρ : List Addr} {S : Store} {H : Hp} {v w : V} {d f : D} {t : Bool} (sm : Sim K ρ S H) (r1 : Rep K ρ H v d) (r2 : Rep K ρ H w f) {n : Nat} {kk : Key} {kvs : List (Key × D)} (e1 : f = .ref n) (e2 : keyD d = some kk)
    (e3 : dctAt S n = some kvs) : ∃ a o, w = .ref a ∧ DGet H a v o ∧ o.isSome = (valD kvs kk).isSome := by
  subst e1
  obtain ⟨a, ea, hA⟩ := rep_ref r2
  obtain ⟨e4, ws, q1, q2, q3⟩ := sm.dct e3 hA
  refine ⟨a, valV ws kk, ea, .inl ⟨ws, kk, .inl q1, rep_key r1 e2, rfl⟩, ?_⟩
  rcases val_rel (kk := kk) q2 q3 with ⟨v', d', h1, h2, h3⟩ | ⟨h1, h2⟩
  · rw [h1, h2]; rfl
  · rw [h1, h2]; rfl
theorem k_cmp (M : Mat X p c k) {o : CmpOp} (hs : notSet b = true) (ha : PE X a (tE p X.K ca)) (hb : PE X b (tE p X.K cb)) : PE X (.Compare a [o] [b] pos) (tE p X.K (.cmp (cCmp o) ca cb)) := by
  have hu : X.A.units + 1 < cLine := by have := M.hu; omega
  have main : ∀ σ H (Q : VK), tE p X.K (.cmp (cCmp o) ca cb) σ H Q → tOp (rCmp X.K (cmpop (cCmp o))) (tE p X.K ca) (tE p X.K cb) σ H Q ∨
      (o = .In ∧ tDIn (tE p X.K ca) (tE p X.K cb) σ H Q) ∨ (o = .NotIn ∧ tDNotIn (tE p X.K ca) (tE p X.K cb) σ H Q) := fun σ H Q h => by
    obtain ⟨ρ, S, e, x, sm, en, h, kq⟩ := h
    simp only [ev, Option.bind_eq_some_iff, Option.map_eq_some_iff] at h
    obtain ⟨x1, h1, x2, h2, r, h3, h4⟩ := h
    subst h4
    rcases alt_or h3 with h3 | h3
    · exact .inl (st2 sm en h1 h2 fun ρ' H' v w p1 g1 s1 e1 r1 r2 => ⟨ρ', x2.2, x1.1, x2.1, r, s1, r1, r2, h3, (kq.mono p1 g1).here s1 (.bl _)⟩)
    · right
      unfold dinop at h3
      split at h3
      · rename_i n hq _
        simp only [Option.bind_eq_some_iff, Option.map_eq_some_iff] at h3
        obtain ⟨kk, h4, kvs, h5, h6⟩ := h3
        have ho : o = .In := by cases o <;> simp only [cCmp, reduceCtorEq] at hq <;> rfl
        refine .inl ⟨ho, st2 sm en h1 h2 fun ρ' H' v w p1 g1 s1 e1 r1 r2 => ?_⟩
        obtain ⟨A, oo, q1, q2, q3⟩ := din_rd (t := r) s1 r1 r2 (by assumption) h4 h5
        exact ⟨A, oo, q1, q2, by rw [q3, h6]; exact (kq.mono p1 g1).here s1 (.bl _)⟩
      · rename_i n hq _
        simp only [Option.bind_eq_some_iff, Option.map_eq_some_iff] at h3
        obtain ⟨kk, h4, kvs, h5, h6⟩ := h3
        have ho : o = .NotIn := by cases o <;> simp only [cCmp, reduceCtorEq] at hq <;> rfl
        refine .inr ⟨ho, st2 sm en h1 h2 fun ρ' H' v w p1 g1 s1 e1 r1 r2 => ?_⟩
        obtain ⟨A, oo, q1, q2, q3⟩ := din_rd (t := r) s1 r1 r2 (by assumption) h4 h5
        exact ⟨A, oo, q1, q2, by rw [q3, h6]; exact (kq.mono p1 g1).here s1 (.bl _)⟩
      · cases h3
  have base := pe_cmpR (pos := pos) (op_cmpM (X := X) (by have := M.hu; omega) o) ha hb (noSet hs o)
  by_cases h1 : o = .In
  · subst h1
    exact PE.by2 base (pe_cmp (pc_din hu ha hb) (noSet hs _)) fun σ H Q h => by
      rcases main σ H Q h with h | ⟨_, h⟩ | ⟨h, _⟩
      · exact .inl h
      · exact .inr h
      · cases h
  · by_cases h2 : o = .NotIn
    · subst h2
      exact PE.by2 base (pe_cmp (pc_dnotin hu ha hb) (noSet hs _)) fun σ H Q h => by
        rcases main σ H Q h with h | ⟨h, _⟩ | ⟨_, h⟩
        · exact .inl h
        · cases h
        · exact .inr h
    · exact PE.imp base fun σ H Q h => by
        rcases main σ H Q h with h | ⟨h, _⟩ | ⟨h, _⟩
        · exact h
        · exact absurd h h1
        · exact absurd h h2
theorem k_chain (M : Mat X p c k) {o1 o2 : CmpOp} (hs : notSet d = true) (ha : PE X a (tE p X.K ca)) (hb : PE X b (tE p X.K cb)) (hd : PE X d (tE p X.K cd)) :
    PE X (.Compare a [o1, o2] [b, d] pos) (tE p X.K (.chain (cCmp o1) (cCmp o2) ca cb cd)) := by
  have hu : X.A.units + 65 < cLine := by have := M.hu; omega
  refine PE.imp (pe_chain (op_cmpM hu o1) (op_cmpM hu o2) ha hb hd (by simp only [lastMarks]; exact noSet hs o2)) fun σ H Q h => ?_
  obtain ⟨ρ, S, e, x, sm, en, h, kq⟩ := h
  simp only [ev, Option.bind_eq_some_iff] at h
  obtain ⟨x1, h1, x2, h2, r, h3, h4⟩ := h
  refine st2 sm en h1 h2 fun ρ' H' v w p1 g1 s1 e1 r1 r2 => ⟨ρ', x2.2, x1.1, x2.1, r, s1, r1, r2, h3, r, rfl, ?_⟩
  cases r with
  | true =>
    simp only [if_true, Option.bind_eq_some_iff, Option.map_eq_some_iff] at h4 ⊢
    obtain ⟨x3, h5, r', h6, h7⟩ := h4
    subst h7
    exact st1 s1 e1 h5 fun ρ2 H2 z p2 g2 s2 e2 r3 => ⟨ρ2, x3.2, x2.1, x3.1, r', s2, r2.mono g2 p2, r3, h6, (kq.mono (p1.trans p2) (g1.trans g2)).here s2 (.bl _)⟩
  | false =>
    simp only [Bool.false_eq_true, if_false, Option.some.injEq] at h4 ⊢
    subst h4
    exact (kq.mono p1 g1).here s1 (.bl _)
theorem k_and1 {op : BoolOp} (ha : PE X a (tE p X.K ca)) : PE X (.BoolOp op [a] pos) (tE p X.K ca) := pe_one ha
theorem k_and {r : List Expr} (ha : PE X a (tE p X.K ca)) (hb : PE X (.BoolOp .And (b :: r) pos) (tE p X.K cb)) : PE X (.BoolOp .And (a :: b :: r) pos) (tE p X.K (.and_ ca cb)) := by
  refine PE.imp (pe_and ha hb) fun σ H Q h => ?_
  obtain ⟨ρ, S, e, x, sm, en, h, kq⟩ := h
  simp only [ev, Option.bind_eq_some_iff] at h
  obtain ⟨x1, h1, h2⟩ := h
  refine st1 sm en h1 fun ρ' H' v p1 g1 s1 e1 r1 => ?_
  split at h2
  · rename_i hi
    rw [hi] at r1
    refine ⟨true, rep_bl r1, ?_⟩
    exact ⟨ρ', x1.2, e, x, s1, e1, h2, kq.mono p1 g1⟩
  · rename_i hi
    cases h2
    rw [hi] at r1
    exact ⟨false, rep_bl r1, (kq.mono p1 g1).here s1 (.bl _)⟩
  · cases h2
theorem k_or {r : List Expr} (ha : PE X a (tE p X.K ca)) (hb : PE X (.BoolOp .Or (b :: r) pos) (tE p X.K cb)) : PE X (.BoolOp .Or (a :: b :: r) pos) (tE p X.K (.or_ ca cb)) := by
  refine PE.imp (pe_or ha hb) fun σ H Q h => ?_
  obtain ⟨ρ, S, e, x, sm, en, h, kq⟩ := h
  simp only [ev, Option.bind_eq_some_iff] at h
  obtain ⟨x1, h1, h2⟩ := h
  refine st1 sm en h1 fun ρ' H' v p1 g1 s1 e1 r1 => ?_
  split at h2
  · rename_i hi
    cases h2
    rw [hi] at r1
    exact ⟨true, rep_bl r1, (kq.mono p1 g1).here s1 (.bl _)⟩
  · rename_i hi
    rw [hi] at r1
    refine ⟨false, rep_bl r1, ?_⟩
    exact ⟨ρ', x1.2, e, x, s1, e1, h2, kq.mono p1 g1⟩
  · cases h2
theorem k_ife {t : Expr} {ct : C} (ht : PT X t (tTs p X.K ct)) (ha : PE X a (tE p X.K ca)) (hb : PE X b (tE p X.K cb)) : PE X (.IfExp t a b pos) (tE p X.K (.ife ct ca cb)) := by
  refine PE.imp (pe_ifExp ht ha hb) fun σ H Q h => ?_
  obtain ⟨ρ, S, e, x, sm, en, h, kq⟩ := h
  simp only [ev, Option.bind_eq_some_iff] at h
  obtain ⟨x1, h1, h2⟩ := h
  obtain ⟨d1, S1⟩ := x1
  split at h2
  · rename_i hi
    simp only at hi
    subst hi
    refine stT sm en h1 fun ρ' H' p1 g1 s1 e1 => ?_
    exact ⟨ρ', S1, e, x, s1, e1, h2, kq.mono p1 g1⟩
  · rename_i hi
    simp only at hi
    subst hi
    refine stT sm en h1 fun ρ' H' p1 g1 s1 e1 => ?_
    exact ⟨ρ', S1, e, x, s1, e1, h2, kq.mono p1 g1⟩
  · cases h2
/-! ### tests -/
theorem k_tval (ha : PE X e (tE p X.K ca)) (he : ∀ whole, isTrue e X.env whole = (do let v ← whole; standAt e.pos; holding [v] (truthy v))) : PT X e (tTs p X.K ca) := by
  refine PT.imp (pt_val ha he) fun σ H Q h => ?_
  obtain ⟨ρ, S, e, b, S', sm, en, h, kq⟩ := h
  exact st1 sm en h fun ρ' H' v p1 g1 s1 e1 r1 => ⟨b, rep_bl r1, kq ρ' H' p1 g1 s1⟩
theorem k_tcmp (M : Mat X p c k) {o : CmpOp} (hs : notSet b = true) (ha : PE X a (tE p X.K ca)) (hb : PE X b (tE p X.K cb)) : PT X (.Compare a [o] [b] pos) (tTs p X.K (.cmp (cCmp o) ca cb)) := by
  have hu : X.A.units + 1 < cLine := by have := M.hu; omega
  have main : ∀ σ H (Q : Bool → Hp → Prop), tTs p X.K (.cmp (cCmp o) ca cb) σ H Q → tTest (tOp (rCmp X.K (cmpop (cCmp o))) (tE p X.K ca) (tE p X.K cb)) σ H Q ∨
      (o = .In ∧ tB (tDIn (tE p X.K ca) (tE p X.K cb)) σ H Q) ∨ (o = .NotIn ∧ tB (tDNotIn (tE p X.K ca) (tE p X.K cb)) σ H Q) := fun σ H Q h => by
    obtain ⟨ρ, S, e, q, S', sm, en, h, kq⟩ := h
    simp only [ev, Option.bind_eq_some_iff, Option.map_eq_some_iff] at h
    obtain ⟨x1, h1, x2, h2, r, h3, h4⟩ := h
    cases h4
    rcases alt_or h3 with h3 | h3
    · exact .inl (st2 sm en h1 h2 fun ρ' H' v w p1 g1 s1 e1 r1 r2 => ⟨ρ', x2.2, x1.1, x2.1, q, s1, r1, r2, h3, q, rfl, kq ρ' H' p1 g1 s1⟩)
    · right
      unfold dinop at h3
      split at h3
      · rename_i n hq _
        simp only [Option.bind_eq_some_iff, Option.map_eq_some_iff] at h3
        obtain ⟨kk, h4, kvs, h5, h6⟩ := h3
        have ho : o = .In := by cases o <;> simp only [cCmp, reduceCtorEq] at hq <;> rfl
        refine .inl ⟨ho, st2 sm en h1 h2 fun ρ' H' v w p1 g1 s1 e1 r1 r2 => ?_⟩
        obtain ⟨A, oo, q1, q2, q3⟩ := din_rd (t := q) s1 r1 r2 (by assumption) h4 h5
        exact ⟨A, oo, q1, q2, q, by rw [q3, h6], kq ρ' H' p1 g1 s1⟩
      · rename_i n hq _
        simp only [Option.bind_eq_some_iff, Option.map_eq_some_iff] at h3
        obtain ⟨kk, h4, kvs, h5, h6⟩ := h3
        have ho : o = .NotIn := by cases o <;> simp only [cCmp, reduceCtorEq] at hq <;> rfl
        refine .inr ⟨ho, st2 sm en h1 h2 fun ρ' H' v w p1 g1 s1 e1 r1 r2 => ?_⟩
        obtain ⟨A, oo, q1, q2, q3⟩ := din_rd (t := q) s1 r1 r2 (by assumption) h4 h5
        exact ⟨A, oo, q1, q2, q, by rw [q3, h6], kq ρ' H' p1 g1 s1⟩
      · cases h3
  have base := pt_cmpR (pos := pos) (op_cmpM (X := X) (by have := M.hu; omega) o) ha hb (noSet hs o)
  by_cases h1 : o = .In
  · subst h1
    exact PT.by2 base (pt_cmp (pc_din hu ha hb) (noSet hs _)) fun σ H Q h => by
      rcases main σ H Q h with h | ⟨_, h⟩ | ⟨h, _⟩
      · exact .inl h
      · exact .inr h
      · cases h
  · by_cases h2 : o = .NotIn
    · subst h2
      exact PT.by2 base (pt_cmp (pc_dnotin hu ha hb) (noSet hs _)) fun σ H Q h => by
        rcases main σ H Q h with h | ⟨h, _⟩ | ⟨_, h⟩
        · exact .inl h
        · cases h
        · exact .inr h
    · exact PT.imp base fun σ H Q h => by
        rcases main σ H Q h with h | ⟨h, _⟩ | ⟨h, _⟩
        · exact h
        · exact absurd h h1
        · exact absurd h h2
theorem k_tnot (ha : PT X a (tTs p X.K ca)) : PT X (.UnaryOp .Not a pos) (tTs p X.K (.not_ ca)) := by
  refine PT.imp (pt_not ha) fun σ H Q h => ?_
  obtain ⟨ρ, S, e, q, S', sm, en, h, kq⟩ := h
  simp only [ev, Option.bind_eq_some_iff] at h
  obtain ⟨⟨d1, S1⟩, h1, h2⟩ := h
  split at h2
  · rename_i b hi
    simp only at hi
    subst hi
    cases h2
    exact stT sm en h1 fun ρ' H' p1 g1 s1 e1 => kq ρ' H' p1 g1 s1
  · cases h2
theorem k_tand1 (ha : PT X a (tTs p X.K ca)) : PW X (.BoolOp .And [a] pos) (tTs p X.K ca) := pw_and1 ha
theorem k_tor1 (ha : PT X a (tTs p X.K ca)) : PW X (.BoolOp .Or [a] pos) (tTs p X.K ca) := pw_or1 ha
theorem k_tand {r : List Expr} (ha : PT X a (tTs p X.K ca)) (hb : PW X (.BoolOp .And (b :: r) pos) (tTs p X.K cb)) : PW X (.BoolOp .And (a :: b :: r) pos) (tTs p X.K (.and_ ca cb)) := by
  refine PW.imp (pw_and ha hb) fun σ H Q h => ?_
  obtain ⟨ρ, S, e, q, S', sm, en, h, kq⟩ := h
  simp only [ev, Option.bind_eq_some_iff] at h
  obtain ⟨⟨d1, S1⟩, h1, h2⟩ := h
  split at h2
  · rename_i hi
    simp only at hi
    subst hi
    refine stT sm en h1 fun ρ' H' p1 g1 s1 e1 => ?_
    exact ⟨ρ', S1, e, q, S', s1, e1, h2, fun ρ2 H2 p2 g2 s2 => kq ρ2 H2 (p1.trans p2) (g1.trans g2) s2⟩
  · rename_i hi
    simp only at hi
    subst hi
    cases h2
    exact stT sm en h1 fun ρ' H' p1 g1 s1 e1 => kq ρ' H' p1 g1 s1
  · cases h2
theorem k_tor {r : List Expr} (ha : PT X a (tTs p X.K ca)) (hb : PW X (.BoolOp .Or (b :: r) pos) (tTs p X.K cb)) : PW X (.BoolOp .Or (a :: b :: r) pos) (tTs p X.K (.or_ ca cb)) := by
  refine PW.imp (pw_or ha hb) fun σ H Q h => ?_
  obtain ⟨ρ, S, e, q, S', sm, en, h, kq⟩ := h
  simp only [ev, Option.bind_eq_some_iff] at h
  obtain ⟨⟨d1, S1⟩, h1, h2⟩ := h
  split at h2
  · rename_i hi
    simp only at hi
    subst hi
    cases h2
    exact stT sm en h1 fun ρ' H' p1 g1 s1 e1 => kq ρ' H' p1 g1 s1
  · rename_i hi
    simp only at hi
    subst hi
    refine stT sm en h1 fun ρ' H' p1 g1 s1 e1 => ?_
    exact ⟨ρ', S1, e, q, S', s1, e1, h2, fun ρ2 H2 p2 g2 s2 => kq ρ2 H2 (p1.trans p2) (g1.trans g2) s2⟩
  · cases h2
end
end Tm

set_option Elab.async false
set_option linter.all false
set_option maxRecDepth 100000
set_option maxHeartbeats 4000000
namespace Tm
open PySem PySem.Spec PyProof.Rows L2
section
variable {X : Cx} {p : Pm} {c : Cc} {k : Nat} {e a b d : Expr} {es : List Expr} {ca cb cd : C} {pos : Pos}
/-! ### arguments -/
theorem star1 {e : Expr} (h : notStar e = true) (es : List Expr) (env : Env) : starEach (e :: es) env = (false, eval e env) :: starEach es env := by
  cases e <;> first | rfl | (simp [notStar] at h; done)
theorem noStars {es : List Expr} (h : es.all notStar = true) (pos : Pos) (env : Env) : (backTo pos (starEach es env)).any (·.1) = false := by
  induction es with
  | nil => rfl
  | cons e r ih =>
    rw [List.all_cons, Bool.and_eq_true] at h
    rw [star1 h.1]
    have q := ih h.2
    unfold backTo at q ⊢
    rw [List.map_cons, List.any_cons, q]
    rfl
theorem k_anil : PA X [] (tA p X.K .nil) := PA.imp pa_nil fun σ H Q h => by
  obtain ⟨ρ, S, e, ds, S', sm, en, h, q⟩ := h
  simp only [ev, Option.some.injEq, Prod.mk.injEq, D.tup.injEq] at h
  obtain ⟨h1, h2⟩ := h
  subst h1; subst h2
  exact q ρ H [] (Pre.refl ρ) (Gro.refl H) sm .nil
theorem k_acons (hs : notStar a = true) (ha : PE X a (tE p X.K ca)) (hb : PA X es (tA p X.K cb)) : PA X (a :: es) (tA p X.K (.cons ca cb)) := by
  refine PA.imp (pa_cons ha hb (star1 hs es _)) fun σ H Q h => ?_
  obtain ⟨ρ, S, e, ds, S', sm, en, h, q⟩ := h
  simp only [ev, Option.bind_eq_some_iff] at h
  obtain ⟨x1, h1, ⟨y, S2⟩, h2, h3⟩ := h
  refine st1 sm en h1 fun ρ1 H1 v p1 g1 s1 e1 r1 => ?_
  split at h3
  · rename_i fs hf
    cases h3
    simp only at hf
    subst hf
    exact ⟨ρ1, x1.2, e, fs, _, s1, e1, h2, fun ρ2 H2 vs p2 g2 s2 r2 => q ρ2 H2 (v :: vs) (p1.trans p2) (g1.trans g2) s2 (.cons (r1.mono g2 p2) r2)⟩
  · cases h3
theorem k_abad : PA X es (tA p X.K .bad) := ⟨fun _ _ _ _ _ _ _ h => by obtain ⟨_, _, _, _, _, _, _, h, _⟩ := h; exact (none_bad h).elim⟩
theorem stA {K : PySem.W.Frag} {ρ : List Addr} {S S' : Store} {H : Hp} {e : Env'} {σ : L2.St} {ds : List D} (sm : Sim K ρ S H) (en : EnvR K ρ H e σ) (ha : ev p ca e S = some (.tup ds, S')) {Q : List V → Hp → Prop}
    (q : ∀ (ρ' : List Addr) (H' : Hp) (vs : List V), Pre ρ ρ' → Gro H H' → Sim K ρ' S' H' → EnvR K ρ' H' e σ → Reps K ρ' H' vs ds → Q vs H') : tA p K ca σ H Q :=
  ⟨ρ, S, e, ds, S', sm, en, ha, fun ρ' H' vs p1 g1 s1 r1 => q ρ' H' vs p1 g1 s1 (en.mono p1 g1) r1⟩
theorem k_tup {kk : Nat} (ha : PA X es (tA p X.K ca)) : PE X (.Tuple es kk pos) (tE p X.K (.tup ca)) := by
  refine PE.imp (pe_tup ha) fun σ H Q h => ?_
  obtain ⟨ρ, S, e, x, sm, en, h, q⟩ := h
  simp only [ev, Option.bind_eq_some_iff] at h
  obtain ⟨⟨y, S1⟩, h1, h2⟩ := h
  split at h2
  · rename_i ds hd
    simp only at hd
    subst hd
    obtain ⟨hz, h3⟩ := okI_some h2
    subst h3
    refine stA sm en h1 fun ρ1 H1 vs p1 g1 s1 e1 r1 => ⟨by rw [r1.length]; exact of_decide_eq_true hz, fun pp hp => (q.mono p1 g1).tup s1 r1 hp⟩
  · cases h2
theorem k_lst (ha : PA X es (tA p X.K ca)) : PE X (.List es pos) (tE p X.K (.lst ca)) := by
  refine PE.imp (pe_lst ha) fun σ H Q h => ?_
  obtain ⟨ρ, S, e, x, sm, en, h, q⟩ := h
  simp only [ev, Option.bind_eq_some_iff] at h
  obtain ⟨⟨y, S1⟩, h1, h2⟩ := h
  split at h2
  · rename_i ds hd
    simp only at hd
    subst hd
    split at h2
    · rename_i hz
      cases h2
      exact stA sm en h1 fun ρ1 H1 vs p1 g1 s1 e1 r1 => ⟨by rw [r1.length]; exact hz, fun pp hp => (q.mono p1 g1).lst s1 r1 hp⟩
    · cases h2
  · cases h2
/-! ### subscripts -/
theorem plainIx (h : isSlice b = false) : PlainIx b := by
  intro o i
  cases b <;> first | rfl | (simp [isSlice] at h; done)
theorem noSl (h : isSlice b = false) : NoSl b := by
  intro ov iv
  cases b <;> first | rfl | (simp [isSlice] at h; done)
theorem k_idx (hu : X.A.units + 1 < cLine) (hs : isSlice b = false) (ha : PE X a (tE p X.K ca)) (hb : PE X b (tE p X.K cb)) : PE X (.Subscript a b pos) (tE p X.K (.idx ca cb)) := by
  refine PE.by2 (pe_ix ix_M ha hb (plainIx hs)) (pe_dget hu ha hb (noSl hs)) fun σ H Q h => ?_
  obtain ⟨ρ, S, e, x, sm, en, h, q⟩ := h
  simp only [ev, Option.bind_eq_some_iff, Option.map_eq_some_iff] at h
  obtain ⟨x1, h1, x2, h2, d, h3, h4⟩ := h
  subst h4
  rcases alt_or h3 with h3 | h3
  · exact .inl (st2 sm en h1 h2 fun ρ' H' v w p1 g1 s1 e1 r1 r2 => ⟨ρ', x2.2, x1.1, x2.1, d, s1, r1, r2, h3, fun z rz => (q.mono p1 g1).here s1 rz⟩)
  · unfold dgetop at h3
    split at h3
    · rename_i n hn
      simp only [Option.bind_eq_some_iff] at h3
      obtain ⟨kk, h4, kvs, h5, h6⟩ := h3
      refine .inr (st2 sm en h1 h2 fun ρ' H' v w p1 g1 s1 e1 r1 r2 => ?_)
      rw [hn] at r1
      obtain ⟨A, eA, hA⟩ := rep_ref r1
      obtain ⟨e4, ws, q1, q2, q3⟩ := s1.dct h5 hA
      rcases val_rel (kk := kk) q2 q3 with ⟨v', d', w1, w2, w3⟩ | ⟨w1, w2⟩
      · rw [w2] at h6
        cases h6
        exact ⟨A, v', eA, .inl ⟨ws, kk, .inl q1, rep_key r2 h4, w1.symm⟩, (q.mono p1 g1).here s1 w3⟩
      · rw [w2] at h6; cases h6
    · cases h3
theorem k_onone : PO X none (tO' p X.K .absent) := PO.imp po_none fun σ H Q h => by
  obtain ⟨ρ, S, e, x, sm, en, h, q⟩ := h
  simp only [part, isAbs, if_true, Option.some.injEq] at h
  subst h
  exact q ρ H (Pre.refl ρ) (Gro.refl H) sm
theorem k_osome (hn : isAbs ca = false) (ha : PE X a (tE p X.K ca)) : PO X (some a) (tO' p X.K ca) := PO.imp (po_some ha) fun σ H Q h => by
  obtain ⟨ρ, S, e, x, sm, en, h, q⟩ := h
  simp only [part, hn, Bool.false_eq_true, if_false, Option.bind_eq_some_iff] at h
  obtain ⟨⟨y, S1⟩, h1, h2⟩ := h
  split at h2
  · rename_i i hi
    simp only at hi
    subst hi
    cases h2
    exact st1 sm en h1 fun ρ1 H1 v p1 g1 s1 e1 r1 => ⟨i, rep_int r1, q ρ1 H1 p1 g1 s1⟩
  · cases h2
theorem k_slc {lo hi : Option Expr} {p2 : Pos} (ha : PE X a (tE p X.K ca)) (hl : PO X lo (tO' p X.K cb)) (hh : PO X hi (tO' p X.K cd)) : PE X (.Subscript a (.Slice lo hi none p2) pos) (tE p X.K (.slc ca cb cd)) := by
  refine PE.imp (pe_slice sl_M ha hl hh) fun σ H Q h => ?_
  obtain ⟨ρ, S, e, x, sm, en, h, q⟩ := h
  simp only [ev, Option.bind_eq_some_iff] at h
  obtain ⟨x1, h1, x2, h2, x3, h3, h4⟩ := h
  refine st1 sm en h1 fun ρ1 H1 v p1 g1 s1 e1 r1 => ⟨ρ1, x1.2, e, x2, s1, e1, h2, fun ρ2 H2 p2 g2 s2 => ⟨ρ2, x2.2, e, x3, s2, e1.mono p2 g2, h3, fun ρ3 H3 p3 g3 s3 => ?_⟩⟩
  exact ⟨ρ3, x3.2, x1.1, x.1, x.2, s3, r1.mono (g2.trans g3) (p2.trans p3), h4, q.mono (p1.trans (p2.trans p3)) (g1.trans (g2.trans g3))⟩
/-! ### the module's dicts -/
theorem dicOf_some {g : Nat} (h : dicOf c a = some g) : ∃ x pos, a = .Name x pos ∧ glB c x = true ∧ c.G.dics.lookup x = some g := by
  cases a with
  | Name x pos =>
    simp only [dicOf] at h
    split at h
    · exact ⟨x, pos, rfl, by assumption, h⟩
    · cases h
  | _ => simp [dicOf] at h
theorem k_kget (M : Mat X p c k) {g : Nat} (hd : dicOf c a = some g) (hs : isSlice b = false) (hb : PE X b (tE p X.K cb)) : PE X (.Subscript a b pos) (tE p X.K (.kget g cb)) := by
  obtain ⟨x, px, ea, hg, hl⟩ := dicOf_some hd
  subst ea
  obtain ⟨A, es, n, hm, hk, hz⟩ := M.glob.dics x g hl
  refine PE.imp (pe_ix ix_kdict (pe_glob (v := .ref A) (M.gl hg).1 hm rfl (bad3 (M.gl hg).2).1) hb (plainIx hs)) fun σ H Q h => ?_
  obtain ⟨ρ, S, e, x, sm, en, h, q⟩ := h
  simp only [ev, Option.bind_eq_some_iff] at h
  obtain ⟨⟨y, S1⟩, h1, h2⟩ := h
  split at h2
  · rename_i z hzz
    simp only at hzz
    subst hzz
    simp only [Option.map_eq_some_iff] at h2
    obtain ⟨d, h3, h4⟩ := h2
    subst h4
    have hz := hz z
    rw [h3] at hz
    obtain ⟨u, v, h5, h6, h7⟩ := hz
    refine st1 sm en h1 fun ρ1 H1 w p1 g1 s1 e1 r1 => ?_
    exact ⟨A, z, v, rfl, rep_str r1, ⟨es, n, u, hk.at_, hk.lit, h5, h6⟩, (q.mono p1 g1).here s1 (h7 _ _)⟩
  · cases h2
theorem k_kin (M : Mat X p c k) {g : Nat} (hd : dicOf c b = some g) (hs : notSet b = true) (ha : PE X a (tE p X.K ca)) : PE X (.Compare a [.In] [b] pos) (tE p X.K (.kin g false ca)) := by
  obtain ⟨x, px, eb, hg, hl⟩ := dicOf_some hd
  subst eb
  obtain ⟨A, es, n, hm, hk, hz⟩ := M.glob.dics x g hl
  refine PE.imp (pe_cmpR (op_in_kd hk) ha (pe_glob (v := .ref A) (M.gl hg).1 hm rfl (bad3 (M.gl hg).2).1) rfl) fun σ H Q h => ?_
  obtain ⟨ρ, S, e, x, sm, en, h, q⟩ := h
  simp only [ev, Option.bind_eq_some_iff] at h
  obtain ⟨⟨y, S1⟩, h1, h2⟩ := h
  split at h2
  · rename_i z hzz
    simp only at hzz
    subst hzz
    cases h2
    have hz := hz z
    refine st1 sm en h1 fun ρ1 H1 w p1 g1 s1 e1 r1 => ?_
    cases q1 : lookK (p.kd g) z with
    | none => rw [q1] at hz q; exact ⟨z, _, rep_str r1, rfl, hz, (q.mono p1 g1).here s1 (.bl _)⟩
    | some d =>
      rw [q1] at hz q
      obtain ⟨u, v, h5, h6, h7⟩ := hz
      exact ⟨z, _, rep_str r1, rfl, h5, (q.mono p1 g1).here s1 (.bl _)⟩
  · cases h2
theorem k_knin (M : Mat X p c k) {g : Nat} (hd : dicOf c b = some g) (hs : notSet b = true) (ha : PE X a (tE p X.K ca)) : PE X (.Compare a [.NotIn] [b] pos) (tE p X.K (.kin g true ca)) := by
  obtain ⟨x, px, eb, hg, hl⟩ := dicOf_some hd
  subst eb
  obtain ⟨A, es, n, hm, hk, hz⟩ := M.glob.dics x g hl
  refine PE.imp (pe_cmpR (op_notIn_kd hk) ha (pe_glob (v := .ref A) (M.gl hg).1 hm rfl (bad3 (M.gl hg).2).1) rfl) fun σ H Q h => ?_
  obtain ⟨ρ, S, e, x, sm, en, h, q⟩ := h
  simp only [ev, Option.bind_eq_some_iff] at h
  obtain ⟨⟨y, S1⟩, h1, h2⟩ := h
  split at h2
  · rename_i z hzz
    simp only at hzz
    subst hzz
    cases h2
    have hz := hz z
    refine st1 sm en h1 fun ρ1 H1 w p1 g1 s1 e1 r1 => ?_
    cases q1 : lookK (p.kd g) z with
    | none => rw [q1] at hz q; exact ⟨z, _, rep_str r1, rfl, hz, (q.mono p1 g1).here s1 (.bl _)⟩
    | some d =>
      rw [q1] at hz q
      obtain ⟨u, v, h5, h6, h7⟩ := hz
      exact ⟨z, _, rep_str r1, rfl, h5, (q.mono p1 g1).here s1 (.bl _)⟩
  · cases h2
theorem k_tkin (M : Mat X p c k) {g : Nat} (hd : dicOf c b = some g) (ha : PE X a (tE p X.K ca)) : PT X (.Compare a [.In] [b] pos) (tTs p X.K (.kin g false ca)) := by
  obtain ⟨x, px, eb, hg, hl⟩ := dicOf_some hd
  subst eb
  obtain ⟨A, es, n, hm, hk, hz⟩ := M.glob.dics x g hl
  refine PT.imp (pt_cmpR (op_in_kd hk) ha (pe_glob (v := .ref A) (M.gl hg).1 hm rfl (bad3 (M.gl hg).2).1) rfl) fun σ H Q h => ?_
  obtain ⟨ρ, S, e, q0, S', sm, en, h, q⟩ := h
  simp only [ev, Option.bind_eq_some_iff] at h
  obtain ⟨⟨y, S1⟩, h1, h2⟩ := h
  split at h2
  · rename_i z hzz
    simp only at hzz
    subst hzz
    cases h2
    have hz := hz z
    refine st1 sm en h1 fun ρ1 H1 w p1 g1 s1 e1 r1 => ?_
    cases q1 : lookK (p.kd g) z with
    | none => rw [q1] at hz q; exact ⟨z, _, rep_str r1, rfl, hz, _, rfl, q ρ1 H1 p1 g1 s1⟩
    | some d =>
      rw [q1] at hz q
      obtain ⟨u, v, h5, h6, h7⟩ := hz
      exact ⟨z, _, rep_str r1, rfl, h5, _, rfl, q ρ1 H1 p1 g1 s1⟩
  · cases h2
theorem k_tknin (M : Mat X p c k) {g : Nat} (hd : dicOf c b = some g) (ha : PE X a (tE p X.K ca)) : PT X (.Compare a [.NotIn] [b] pos) (tTs p X.K (.kin g true ca)) := by
  obtain ⟨x, px, eb, hg, hl⟩ := dicOf_some hd
  subst eb
  obtain ⟨A, es, n, hm, hk, hz⟩ := M.glob.dics x g hl
  refine PT.imp (pt_cmpR (op_notIn_kd hk) ha (pe_glob (v := .ref A) (M.gl hg).1 hm rfl (bad3 (M.gl hg).2).1) rfl) fun σ H Q h => ?_
  obtain ⟨ρ, S, e, q0, S', sm, en, h, q⟩ := h
  simp only [ev, Option.bind_eq_some_iff] at h
  obtain ⟨⟨y, S1⟩, h1, h2⟩ := h
  split at h2
  · rename_i z hzz
    simp only at hzz
    subst hzz
    cases h2
    have hz := hz z
    refine st1 sm en h1 fun ρ1 H1 w p1 g1 s1 e1 r1 => ?_
    cases q1 : lookK (p.kd g) z with
    | none => rw [q1] at hz q; exact ⟨z, _, rep_str r1, rfl, hz, _, rfl, q ρ1 H1 p1 g1 s1⟩
    | some d =>
      rw [q1] at hz q
      obtain ⟨u, v, h5, h6, h7⟩ := hz
      exact ⟨z, _, rep_str r1, rfl, h5, _, rfl, q ρ1 H1 p1 g1 s1⟩
  · cases h2
theorem k_tchain (M : Mat X p c k) {o1 o2 : CmpOp} (hs : notSet d = true) (ha : PE X a (tE p X.K ca)) (hb : PE X b (tE p X.K cb)) (hd : PE X d (tE p X.K cd)) :
    PT X (.Compare a [o1, o2] [b, d] pos) (tTs p X.K (.chain (cCmp o1) (cCmp o2) ca cb cd)) := by
  have hu : X.A.units + 65 < cLine := by have := M.hu; omega
  refine PT.imp (pt_chain (op_cmpM hu o1) (op_cmpM hu o2) ha hb hd (by simp only [lastMarks]; exact noSet hs o2)) fun σ H Q h => ?_
  obtain ⟨ρ, S, e, q0, S', sm, en, h, kq⟩ := h
  simp only [ev, Option.bind_eq_some_iff] at h
  obtain ⟨x1, h1, x2, h2, r, h3, h4⟩ := h
  refine st2 sm en h1 h2 fun ρ' H' v w p1 g1 s1 e1 r1 r2 => ⟨ρ', x2.2, x1.1, x2.1, r, s1, r1, r2, h3, r, rfl, ?_⟩
  cases r with
  | true =>
    simp only [if_true, Option.bind_eq_some_iff, Option.map_eq_some_iff] at h4 ⊢
    obtain ⟨x3, h5, r', h6, h7⟩ := h4
    cases h7
    exact st1 s1 e1 h5 fun ρ2 H2 z p2 g2 s2 e2 r3 => ⟨ρ2, x3.2, x2.1, x3.1, _, s2, r2.mono g2 p2, r3, h6, _, rfl, kq ρ2 H2 (p1.trans p2) (g1.trans g2) s2⟩
  | false =>
    simp only [Bool.false_eq_true, if_false, Option.some.injEq, Prod.mk.injEq, D.bl.injEq] at h4 ⊢
    obtain ⟨h5, h6⟩ := h4
    subst h5; subst h6
    exact ⟨false, rfl, kq ρ' H' p1 g1 s1⟩
theorem k_kgetd (M : Mat X p c k) {g : Nat} {o : Expr} {ap cp : Pos} (hd : dicOf c o = some g) (hap : (ap.endLine == cp.line) = true) (h1 : notStar a = true) (h2 : notStar b = true) (ha : PE X a (tE p X.K ca)) (hb : PE X b (tE p X.K cb)) :
    PE X (.Call (.Attribute o "get" ap) [a, b] [] cp) (tE p X.K (.kgetd g ca cb)) := by
  obtain ⟨x, px, eo, hg, hl⟩ := dicOf_some hd
  subst eo
  obtain ⟨A, es, n, hm, hk, hz⟩ := M.glob.dics x g hl
  have hst : starEach [a, b] X.env = [(false, eval a X.env), (false, eval b X.env)] := by rw [star1 h1, star1 h2]; rfl
  refine ⟨fun pins s σ H Q I h => ?_⟩
  obtain ⟨ρ, S, e, y, sm, en, h, q⟩ := h
  simp only [ev, Option.bind_eq_some_iff] at h
  obtain ⟨x1, e1, x2, e2, h⟩ := h
  refine wpAny_Call_method rfl (by rw [hst]; rfl) hap PySem.F.plainAttrs_dict PySem.F.slot_dict_get PySem.F.type_dict_get
    (thn ((pe_glob (v := .ref A) (M.gl hg).1 hm rfl (bad3 (M.gl hg).2).1).run pins s σ H (fun v H1 => v = .ref A ∧ H1 = H) I ⟨rfl, rfl⟩) fun u s1 ⟨v, H1, I1, rv, ev', eH⟩ => ?_)
  subst ev'
  subst eH
  cases rv
  have mo := PySem.W.mapOf_K (prog := X.prog) (w := X.w) I1.kIn hk.at_ hk.lit
  refine ⟨mo.typeIs, fun bb q' => ?_, ?_⟩
  · cases q'
    exact ⟨_, I1.kIn _ _ hk.at_, rfl⟩
  rw [hst]
  refine Calls.callWith_builtin rfl (Calls.evalArgs_plain (Calls.spliced_cons (thn (ha.run pins s1 σ H1 _ I1 (st1 sm en e1 (Q := fun v H2 => ∃ ρ2, Pre ρ ρ2 ∧ Gro H1 H2 ∧ Sim X.K ρ2 x1.2 H2 ∧ EnvR X.K ρ2 H2 e σ ∧ Rep X.K ρ2 H2 v x1.1) fun ρ' H' v p1 g1 s1 e1 r1 => ⟨ρ', p1, g1, s1, e1, r1⟩))
    fun iv s2 ⟨y1, H2, I2, ry, ρ2, p2, g2, sm2, en2, r2⟩ =>
    Calls.spliced_cons (thn (hb.run pins s2 σ H2 _ I2 (st1 sm2 en2 e2 (Q := fun v H3 => ∃ ρ3, Pre ρ2 ρ3 ∧ Gro H2 H3 ∧ Sim X.K ρ3 x2.2 H3 ∧ Rep X.K ρ3 H3 v x2.1) fun ρ' H' v p1 g1 s1 e1 r1 => ⟨ρ', p1, g1, s1, r1⟩))
    fun fv s3 ⟨z1, H3, I3, rz, ρ3, p3, g3, sm3, r3⟩ => Calls.spliced_nil ?_))))
  obtain ⟨d1, S1⟩ := x1
  split at h
  · rename_i z hzz
    simp only at hzz
    subst hzz
    cases h
    cases r2
    obtain ⟨t, rfl⟩ := ry
    have mo3 := PySem.W.mapOf_K (prog := X.prog) (w := X.w) I3.kIn hk.at_ hk.lit
    refine call_meetsIn PySem.F.slot_dict_get mo3.typeIs PySem.F.entry_dict_get (PySem.F.args_dict_get_3 _ _ _) (meets_dict_get_default (strKind X.prog X.w) A (PySem.strKind_is X.prog X.w z t) hk.low fv) ⟨_, mo3, ?_⟩
    have hz := hz z
    have kq := q.mono (p2.trans p3) (g2.trans g3)
    cases q1 : lookK (p.kd g) z with
    | none =>
      rw [q1] at hz kq
      rw [PySem.W.find_K hk.at_ hz]
      exact ⟨z1, H3, I3.tok _, rz, kq.here sm3 r3⟩
    | some d =>
      rw [q1] at hz kq
      obtain ⟨u, v, h5, h6, h7⟩ := hz
      rw [PySem.W.find_K hk.at_ h5]
      exact ⟨v, H3, I3.tok _, h6, kq.here sm3 (h7 _ _)⟩
  · cases h
end
end Tm

set_option Elab.async false
set_option linter.all false
set_option maxRecDepth 100000
set_option maxHeartbeats 4000000
namespace Tm
open PySem PySem.Spec PyProof.Rows L2
/-! ### picking arguments -/
theorem pick_rep {K : PySem.W.Frag} {ρ : List Addr} {H : Hp} {vs : List V} {ds : List D} (r : Reps K ρ H vs ds) : ∀ perm : List Nat, Reps K ρ H (pick perm vs) (pick perm ds)
  | [] => .nil
  | i :: l => by
    have ih := pick_rep r l
    unfold pick at ih ⊢
    cases e : ds[i]? with
    | none =>
      have e2 : vs[i]? = none := by
        rw [List.getElem?_eq_none_iff] at e ⊢
        rw [r.length]; exact e
      rw [List.filterMap_cons, List.filterMap_cons, e, e2]
      exact ih
    | some d =>
      obtain ⟨v, h1, h2⟩ := r.get e
      rw [List.filterMap_cons, List.filterMap_cons, e, h1]
      exact .cons h2 ih
theorem pick_vals {vs : List V} {us : List Value} (r : Vals vs us) : ∀ perm : List Nat, Vals (pick perm vs) (pick perm us)
  | [] => .nil
  | i :: l => by
    have ih := pick_vals r l
    unfold pick at ih ⊢
    cases e : vs[i]? with
    | none =>
      rw [List.filterMap_cons, List.filterMap_cons, e, r.none_of e]
      exact ih
    | some d =>
      obtain ⟨v, h1, h2⟩ := r.get e
      rw [List.filterMap_cons, List.filterMap_cons, e, h1]
      exact .cons h2 ih
theorem filterMap_range {α : Type} : ∀ l : List α, (List.range l.length).filterMap (fun i => l[i]?) = l := by
  intro l
  induction l with
  | nil => rfl
  | cons x r ih =>
    rw [List.length_cons, List.range_succ_eq_map, List.filterMap_cons]
    simp only [List.getElem?_cons_zero, List.filterMap_map]
    congr 1
theorem pick_all {α : Type} (l : List α) (n : Nat) (h : n = l.length) : pick (List.range n) l = l := by
  subst h
  exact filterMap_range l
section
variable {X : Cx} {p : Pm} {c : Cc} {k : Nat} {e a b d : Expr} {es : List Expr} {ca cb cd : C} {pos : Pos}
/-! ### keywords -/
theorem k_knil : PK X [] (tA p X.K .nil) := ⟨fun pos pins s σ H Q I h => by
  obtain ⟨ρ, S, e, ds, S', sm, en, h, q⟩ := h
  simp only [ev, Option.some.injEq, Prod.mk.injEq, D.tup.injEq] at h
  obtain ⟨h1, h2⟩ := h
  subst h1; subst h2
  exact pk_nil.run pos pins s σ H Q I (q ρ H [] (Pre.refl ρ) (Gro.refl H) sm .nil)⟩
theorem k_kcons {nm : Option Str} {kp : Pos} {kws : List Keyword} (ha : PE X a (tE p X.K ca)) (hb : PK X kws (tA p X.K cb)) : PK X (⟨nm, a, kp⟩ :: kws) (tA p X.K (.cons ca cb)) := ⟨fun pos pins s σ H Q I h => by
  refine (pk_cons ha hb).run pos pins s σ H Q I ?_
  obtain ⟨ρ, S, e, ds, S', sm, en, h, q⟩ := h
  simp only [ev, Option.bind_eq_some_iff] at h
  obtain ⟨x1, h1, ⟨y, S2⟩, h2, h3⟩ := h
  refine st1 sm en h1 fun ρ1 H1 v p1 g1 s1 e1 r1 => ?_
  split at h3
  · rename_i fs hf
    cases h3
    simp only at hf
    subst hf
    exact ⟨ρ1, x1.2, e, fs, _, s1, e1, h2, fun ρ2 H2 vs p2 g2 s2 r2 => q ρ2 H2 (v :: vs) (p1.trans p2) (g1.trans g2) s2 (.cons (r1.mono g2 p2) r2)⟩
  · cases h3⟩
theorem k_kbad {kws : List Keyword} : PK X kws (tA p X.K .bad) := ⟨fun _ _ _ _ _ _ _ h => by obtain ⟨_, _, _, _, _, _, _, h, _⟩ := h; exact (none_bad h).elim⟩
/-! ### calls -/
theorem sp_call {K : PySem.W.Frag} {f : List D → Store → Option (D × Store)} {ρ : List Addr} {S : Store} {H : Hp} {vs : List V} {ds : List D} {x : D × Store} {Q : VK} {n : Nat} (hn : ds.length = n) (sm : Sim K ρ S H) (r : Reps K ρ H vs ds) (h : f ds S = some x) (q : Aft K ρ H x.2 x.1 Q) : spR K n f vs H Q E0 :=
  ⟨by rw [r.length]; exact hn, ρ, S, ds, x.1, x.2, sm, r, h, q⟩
theorem k_call (M : Mat X p c k) {x : Str} {f : Nat} {ps : List Str} {px : Pos} (hg : glB c x = true) (hf : c.G.funs.lookup x = some (f, ps)) (har : Arity p.R f ps.length) (hst : (a :: es).all notStar = true) (hn : (a :: es).length = ps.length)
    (ha : PA X (a :: es) (tA p X.K ca)) (hl : ∀ e S ds S', ev p ca e S = some (.tup ds, S') → ds.length = (a :: es).length) : PE X (.Call (.Name x px) (a :: es) [] pos) (tE p X.K (.call f (List.range ps.length) ca .nil)) := by
  obtain ⟨A, fd, hm, hk, F, hb, _⟩ := M.glob.funs x f ps hf
  have hst2 := hst
  rw [List.all_cons, Bool.and_eq_true] at hst2
  refine ⟨fun pins s σ H Q I h => ?_⟩
  obtain ⟨ρ, S, e, y, sm, en, h, q⟩ := h
  simp only [ev, Option.bind_eq_some_iff] at h
  obtain ⟨⟨d1, S1⟩, h1, x2, h2, h3⟩ := h
  cases h2
  split at h3
  · rename_i ds fs e1 e2
    simp only at e1 e2
    subst e1
    cases e2
    rw [List.append_nil, pick_all ds ps.length (by rw [hl _ _ _ _ h1, hn])] at h3
    apply wpAny_Call_Name_kw
    apply ld_glob I (M.gl hg).1 hm _ (bad3 (M.gl hg).2).1
    apply PySem.W.callWith_K (h₀ := X.base) I.ok.mod.kin hk _ (star1 hst2.1 es X.env) (noStars hst2.2 _ _)
    refine thn (ha.run pos pins s σ H _ I (stA sm en h1 fun ρ1 H1 vs p1 g1 s1 e1 r1 => sp_call (har _ _ _ h3) s1 r1 h3 (q.mono p1 g1))) fun us s1 ⟨vs, H1, I1, rv, hsp⟩ => ⟨I1.kIn, ?_⟩
    have hz : us.length = ps.length := by
      rw [← rv.length]; exact hsp.1
    have bd := hb s1 us I1.kIn (by rw [List.append_nil]; exact hz)
    rw [List.append_nil] at bd
    exact callG F M.room M.gd bd I1 rv hsp
  · cases h3
theorem k_callv (M : Mat X p c k) {cf : C} {x : Str} {px : Pos} (hst : (a :: es).all notStar = true) (hf : PE X (.Name x px) (tE p X.K cf)) (ha : PA X (a :: es) (tA p X.K ca)) : PE X (.Call (.Name x px) (a :: es) [] pos) (tE p X.K (.callv cf ca)) := by
  have hst2 := hst
  rw [List.all_cons, Bool.and_eq_true] at hst2
  refine ⟨fun pins s σ H Q I h => ?_⟩
  obtain ⟨ρ, S, e, y, sm, en, h, q⟩ := h
  simp only [ev, Option.bind_eq_some_iff] at h
  obtain ⟨⟨d1, S1⟩, h1, ⟨d2, S2⟩, h2, h3⟩ := h
  split at h3
  · rename_i z ds e1 e2
    simp only at e1 e2
    subst e1
    subst e2
    simp only [Option.bind_eq_some_iff] at h3
    obtain ⟨i, hi, h3⟩ := h3
    obtain ⟨ps, hf2⟩ := M.glob.fxs z i hi
    obtain ⟨A, fd, hm, hk, F, hb, _⟩ := M.glob.funs z i ps hf2
    apply wpAny_Call_Name_kw
    refine thn (hf.run pins s σ H (fun v H1 => ∃ ρ1, Pre ρ ρ1 ∧ Gro H H1 ∧ Sim X.K ρ1 S1 H1 ∧ EnvR X.K ρ1 H1 e σ ∧ v = .ref A) I (st1 sm en h1 fun ρ1 H1 v p1 g1 s1 e1 r1 => ⟨ρ1, p1, g1, s1, e1, ?_⟩)) fun u s1 ⟨v, H1, I1, r1, ρ1, p1, g1, sm1, en1, evv⟩ => ?_
    · obtain ⟨A', rfl, hA⟩ := rep_fn r1
      have := M.glob.fnv z A' hA
      rw [hm] at this
      cases this
      rfl
    · subst evv
      cases r1
      apply PySem.W.callWith_K (h₀ := X.base) I1.ok.mod.kin hk _ (star1 hst2.1 es X.env) (noStars hst2.2 _ _)
      refine thn (ha.run pos pins s1 σ H1 _ I1 (stA sm1 en1 h2 fun ρ2 H2 vs p2 g2 s2 e2 r2 => sp_call (M.glob.ar z i ps hf2 _ _ _ h3) s2 r2 h3 (q.mono (p1.trans p2) (g1.trans g2)))) fun us s2 ⟨vs, H2, I2, rv, hsp⟩ => ⟨I2.kIn, ?_⟩
      have hz : us.length = ps.length := by
        rw [← rv.length]; exact hsp.1
      have bd := hb s2 us I2.kIn (by rw [List.append_nil]; exact hz)
      rw [List.append_nil] at bd
      exact callG F M.room M.gd bd I2 rv hsp
  · cases h3
theorem kwNames_ok : ∀ {kws : List Keyword} {ks : List Str}, kwNames kws = some ks → ∀ (pos : Pos) (env : Env), (backToKw pos (keywordEach kws env)).all (·.1.isSome) = true ∧ (backToKw pos (keywordEach kws env)).filterMap (·.1) = ks ∧ (backToKw pos (keywordEach kws env)).any (·.1.isNone) = false
  | [], ks, h, pos, env => by simp [kwNames] at h; subst h; exact ⟨rfl, rfl, rfl⟩
  | ⟨some x, v, kp⟩ :: r, ks, h, pos, env => by
    simp only [kwNames, Option.map_eq_some_iff] at h
    obtain ⟨s, h1, rfl⟩ := h
    obtain ⟨a1, a2, a3⟩ := kwNames_ok h1 pos env
    unfold backToKw at a1 a2 a3 ⊢
    refine ⟨?_, ?_, ?_⟩
    · show (true && _) = true; rw [Bool.true_and]; exact a1
    · show x :: _ = _; rw [← a2]
    · show (false || _) = false; rw [Bool.false_or]; exact a3
  | ⟨none, _, _⟩ :: _, ks, h, _, _ => by simp [kwNames] at h
theorem k_callK (M : Mat X p c k) {x : Str} {f : Nat} {ps ks : List Str} {px : Pos} {kws : List Keyword} {q : Str × Nat × List Str × List Nat} (hg : glB c x = true) (hf : c.G.funs.lookup x = some (f, ps)) (har : Arity p.R f ps.length) (hst : es.all notStar = true)
    (hks : kwNames kws = some ks) (hq : q ∈ c.G.kws) (hx : q.1 = x) (hnp : q.2.1 = es.length) (hqk : q.2.2.1 = ks)
    (ha : PA X es (tA p X.K ca)) (hb : PK X kws (tA p X.K cb)) (hl : ∀ e S ds S', ev p ca e S = some (.tup ds, S') → ds.length = es.length) (hl2 : ∀ e S ds S', ev p cb e S = some (.tup ds, S') → ds.length = ks.length)
    (hnil : es = [] → ∀ e S x, ev p ca e S = some x → x.2 = S) :
    PE X (.Call (.Name x px) es kws pos) (tE p X.K (.call f q.2.2.2 ca cb)) := by
  obtain ⟨A, fd, hm, hk, F, _, hbk⟩ := M.glob.funs x f ps hf
  have hbk := hbk q hq hx
  rw [hnp, hqk] at hbk
  refine ⟨fun pins s σ H Q I h => ?_⟩
  obtain ⟨ρ, S, e, y, sm, en, h, kq⟩ := h
  simp only [ev, Option.bind_eq_some_iff] at h
  obtain ⟨⟨d1, S1⟩, h1, ⟨d2, S2⟩, h2, h3⟩ := h
  obtain ⟨n1, n2, n3⟩ := kwNames_ok hks pos X.env
  split at h3
  · rename_i ds fs e1 e2
    simp only at e1 e2
    subst e1
    subst e2
    have fin : ∀ (s2 : Shared) (H2 : Hp) (us ws : List Value) (vs zs : List V) (ρ2 : List Addr), Inv X pins σ H2 s2 → Vals vs us → Vals zs ws → Pre ρ ρ2 → Gro H H2 → Sim X.K ρ2 S2 H2 → Reps X.K ρ2 H2 vs ds → Reps X.K ρ2 H2 zs fs →
        wpAny (model X.prog X.w) X.A (call (.ref A) ([] ++ us) (((backToKw pos (keywordEach kws X.env)).filterMap (·.1)).zip ws)) (EP X pins σ Q) X.xe s2 := by
      intro s2 H2 us ws vs zs ρ2 I2 rv rz p2 g2 s2' r1 r2
      rw [n2]
      have hu : us.length = es.length := by rw [← rv.length, r1.length, hl _ _ _ _ h1]
      have hw : ws.length = ks.length := by rw [← rz.length, r2.length, hl2 _ _ _ _ h2]
      exact callG F M.room M.gd (hbk s2 us ws hu hw) I2 (pick_vals (rv.append rz) _) (sp_call (har _ _ _ h3) s2' (pick_rep (r1.append r2) _) h3 (kq.mono p2 g2))
    apply wpAny_Call_Name_kw
    apply ld_glob I (M.gl hg).1 hm _ (bad3 (M.gl hg).2).1
    cases es with
    | nil =>
      refine PySem.W.callWith_KW0 (h₀ := X.base) I.ok.mod.kin hk n1 ?_ (by rw [n3]; rfl)
      have h0 := hl _ _ _ _ h1
      simp only [List.length_nil, List.length_eq_zero_iff] at h0
      subst h0
      have hS := hnil rfl _ _ _ h1
      simp only at hS
      subst hS
      refine thn (hb.run pos pins s σ H (fun zs H1 => ∃ ρ1, Pre ρ ρ1 ∧ Gro H H1 ∧ Sim X.K ρ1 S2 H1 ∧ Reps X.K ρ1 H1 zs fs) I (stA sm en h2 fun ρ1 H1 vs p1 g1 s1 e1 r1 => ⟨ρ1, p1, g1, s1, r1⟩))
        fun ws s1 ⟨zs, H1, I1, rz, ρ1, p1, g1, s1', r1⟩ => ⟨I1.kIn, fin s1 H1 [] ws [] zs ρ1 I1 .nil rz p1 g1 s1' .nil r1⟩
    | cons e1 er =>
      have hst2 := hst
      rw [List.all_cons, Bool.and_eq_true] at hst2
      refine PySem.W.callWith_KW (h₀ := X.base) I.ok.mod.kin hk n1 ?_ (by rw [noStars hst, n3]; rfl) (star1 hst2.1 er X.env)
      refine thn (ha.run pos pins s σ H (fun vs H1 => ∃ ρ1, Pre ρ ρ1 ∧ Gro H H1 ∧ Sim X.K ρ1 S1 H1 ∧ EnvR X.K ρ1 H1 e σ ∧ Reps X.K ρ1 H1 vs ds) I (stA sm en h1 fun ρ1 H1 vs p1 g1 s1 e1 r1 => ⟨ρ1, p1, g1, s1, e1, r1⟩))
        fun us s1 ⟨vs, H1, I1, rv, ρ1, p1, g1, sm1, en1, r1⟩ => ?_
      refine thn (hb.run pos pins s1 σ H1 (fun zs H2 => ∃ ρ2, Pre ρ1 ρ2 ∧ Gro H1 H2 ∧ Sim X.K ρ2 S2 H2 ∧ Reps X.K ρ2 H2 zs fs) I1 (stA sm1 en1 h2 fun ρ2 H2 vs p2 g2 s2 e2 r2 => ⟨ρ2, p2, g2, s2, r2⟩))
        fun ws s2 ⟨zs, H2, I2, rz, ρ2, p2, g2, sm2, r2⟩ => ⟨I2.kIn, fin s2 H2 us ws vs zs ρ2 I2 rv rz (p1.trans p2) (g1.trans g2) sm2 (r1.mono g2 p2) r2⟩
  · cases h3
end
end Tm

set_option Elab.async false
set_option linter.all false
set_option maxRecDepth 100000
set_option maxHeartbeats 4000000
namespace Tm
open PySem PySem.Spec PyProof.Rows L2
section
variable {X : Cx} {p : Pm} {c : Cc} {k : Nat} {e a b d : Expr} {es : List Expr} {ca cb cd : C} {pos : Pos}
/-! ### built-in functions -/
theorem biOf_val {x : Str} {q : Bi} (h : biOf x = some q) : bootBuiltins x = some (biVal q) := by
  unfold biOf at h
  repeat' (split at h; · rename_i e; subst e; cases h; decide +kernel)
  cases h
theorem sp_bi {K : PySem.W.Frag} {q : Bi} {ρ : List Addr} {S : Store} {H : Hp} {vs : List V} {ds : List D} {x : D × Store} {Q : VK} (sm : Sim K ρ S H) (r : Reps K ρ H vs ds) (h : biop q ds S = some x) (k : Aft K ρ H x.2 x.1 Q) : rCall K (biop q) vs H Q :=
  ⟨ρ, S, ds, x.1, x.2, sm, r, h, k⟩
theorem k_bi (M : Mat X p c k) {x : Str} {q : Bi} {px : Pos} (hg : bltB c x = true) (hq : biOf x = some q) (hst : (a :: es).all notStar = true) (ha : PA X (a :: es) (tA p X.K ca)) : PE X (.Call (.Name x px) (a :: es) [] pos) (tE p X.K (.bi q ca)) := by
  have hst2 := hst
  rw [List.all_cons, Bool.and_eq_true] at hst2
  have step : ∀ σ H (Q : VK), tE p X.K (.bi q ca) σ H Q → tCB (rCall X.K (biop q)) (tA p X.K ca) σ H Q := fun σ H Q h => by
    obtain ⟨ρ, S, e, y, sm, en, h, kq⟩ := h
    simp only [ev, Option.bind_eq_some_iff] at h
    obtain ⟨⟨d1, S1⟩, h1, h2⟩ := h
    split at h2
    · rename_i ds e1
      simp only at e1
      subst e1
      exact stA sm en h1 fun ρ1 H1 vs p1 g1 s1 e1 r1 => sp_bi s1 r1 h2 (kq.mono p1 g1)
    · cases h2
  have cr := cr_M M.calm M.gd M.hu q
  have bv := biOf_val hq
  obtain ⟨g1, g2, g3⟩ := M.bl hg
  obtain ⟨b1, b2, b3⟩ := bad3 g3
  cases q <;> first
    | exact PE.imp (pe_callB cr g1 g2 bv ha b3 b1 (star1 hst2.1 es X.env) (noStars hst2.2 _ _)) step
    | exact PE.imp (pe_callTy cr g1 g2 bv ha b3 b1 (star1 hst2.1 es X.env) (noStars hst2.2 _ _)) step
/-! ### isinstance -/
def tyName : Ty → String
  | .int => "int" | .str => "str" | .tuple => "tuple" | .list => "list" | .bool => "bool" | .dict => "dict"
theorem tyOf_val {t : Ty} (h : tyOf c d = some t) : ∃ x px, d = .Name x px ∧ bltB c x = true ∧ bootBuiltins x = some (.type (tyName t)) := by
  cases d with
  | Name x px =>
    simp only [tyOf] at h
    split at h
    · rename_i hb
      refine ⟨x, px, rfl, hb, ?_⟩
      repeat' (split at h; · rename_i e; subst e; cases h; decide +kernel)
      cases h
    · cases h
  | _ => simp [tyOf] at h
theorem ty_fix {K : PySem.W.Frag} {ρ : List Addr} {S : Store} {H : Hp} {n : Nat} {x : Addr} {ys : List D} (sm : Sim K ρ S H) (hl : listAt S n = some ys) (hr : ρ[n]? = some x) : TyX K H (.ref x) (.type "list") := by
  unfold listAt at hl
  split at hl
  · rename_i zs hz
    obtain ⟨vs, h1, _⟩ := sm.obj n _ x hz hr
    exact .base (.lst h1)
  · rename_i zs hz
    obtain ⟨vs, h1, _⟩ := sm.obj n _ x hz hr
    rcases h1 with ⟨o, h1⟩ | (h1 | ⟨o, h1⟩) | ⟨o, its, m, h1, h2, _⟩
    · exact .base (.frz h1)
    · cases h1
    · cases h1
    · exact .kList h1 h2
  · cases hl
theorem ty_tup {K : PySem.W.Frag} {H : Hp} {x : Addr} {vs : List V} (h : SqT K H x vs) : TyX K H (.ref x) (.type "tuple") := by
  rcases h with (h | ⟨o, h⟩) | ⟨o, its, n, h1, h2, _⟩
  · exact .base (.tup h)
  · exact .fTuple h
  · exact .kTuple h1 h2
theorem k_isty (M : Mat X p c k) {t : Ty} {px : Pos} (hg : bltB c ("isinstance" : Str) = true) (hs : notStar a = true) (ht : tyOf c d = some t) (ha : PE X a (tE p X.K ca)) :
    PE X (.Call (.Name "isinstance" px) [a, d] [] pos) (tE p X.K (.isty ca t)) := by
  obtain ⟨x, pd, ed, hd, hv⟩ := tyOf_val ht
  subst ed
  obtain ⟨g1, g2, g3⟩ := M.bl hg
  obtain ⟨b1, b2, b3⟩ := bad3 g3
  obtain ⟨f1, f2, f3⟩ := M.bl hd
  obtain ⟨c1, c2, c3⟩ := bad3 f3
  have hN : PE X (.Name x pd) (tC (.ty (tyName t))) := pe_bltn f1 f2 hv rfl c3 c1
  refine PE.imp (pe_callB call_isi g1 g2 (by decide +kernel) (pa_cons ha (pa_cons hN pa_nil) (star1 hs _ _)) b3 b1 (star1 hs _ _) rfl) fun σ H Q h => ?_
  obtain ⟨ρ, S, e, y, sm, en, h, kq⟩ := h
  simp only [ev, Option.bind_eq_some_iff, Option.map_eq_some_iff] at h
  obtain ⟨⟨d1, S1⟩, h1, b, h2, h3⟩ := h
  subst h3
  refine st1 sm en h1 fun ρ1 H1 v p1 g1 s1 e1 r1 => ?_
  replace h2 := alt_or h2
  have fin : ∀ {T : String}, TyX X.K H1 v (.type T) → kitB T (tyName t) = some b → ∃ (x c : V) (t' u : Value) (b : Bool), [v, V.ty (tyName t)] = [x, c] ∧ ClsV c u ∧ TyX X.K H1 x t' ∧ PySem.W.kitOne X.K t' u = some b ∧ Q (.bl b) H1 :=
    fun {T} ty hk => ⟨v, .ty (tyName t), .type T, .type (tyName t), b, rfl, .ty _, ty, kit_ty hk, (kq.mono p1 g1).here s1 (.bl _)⟩
  rcases h2 with h2 | h2
  rotate_left
  · cases r1 with
    | ref q1 =>
      simp only [tydop, Option.map_eq_some_iff] at h2
      obtain ⟨kvs, h4, h5⟩ := h2
      subst h5
      obtain ⟨e4, ws, w1, w2, w3⟩ := s1.dct h4 q1
      exact fin (.base (.dK w1)) (by cases t <;> decide +kernel)
    | _ => simp only [tydop] at h2; cases h2
  cases r1 with
  | non => simp only [tyop, Option.some.injEq] at h2; subst h2; exact fin (.base .non) (by cases t <;> decide +kernel)
  | bl q => simp only [tyop, Option.some.injEq] at h2; subst h2; exact fin (.base (.bl q)) (by cases t <;> decide +kernel)
  | int q => simp only [tyop, Option.some.injEq] at h2; subst h2; exact fin (.base (.int q)) (by cases t <;> decide +kernel)
  | str q => simp only [tyop, Option.some.injEq] at h2; subst h2; exact fin (.base (.str q)) (by cases t <;> decide +kernel)
  | fn q => simp only [tyop] at h2; cases h2
  | tup q1 q2 => simp only [tyop, Option.some.injEq] at h2; subst h2; exact fin (ty_tup q1) (by cases t <;> decide +kernel)
  | ref q1 =>
    simp only [tyop, Option.map_eq_some_iff] at h2
    obtain ⟨ys, hl, h2⟩ := h2
    subst h2
    exact fin (ty_fix s1 hl q1) (by cases t <;> decide +kernel)
/-! ### append -/
theorem plainBase_ok (h : plainBase a = true) (m : Str) (env : Env) (w : Sem Value) : attributeBase a m env w = w := by
  cases a <;> first | rfl | (simp [plainBase] at h; done)
theorem ok_list {K : PySem.W.Frag} {ρ : List Addr} {S : Store} {H : Hp} {n : Nat} {A : Addr} (sm : Sim K ρ S H) (h : okRef S (.ref n) = true) (hA : ρ[n]? = some A) : ∃ xs, SqL K H A xs := by
  obtain ⟨o1, ho1, hr1⟩ := sm.at' hA
  cases o1 with
  | lst zs => obtain ⟨vs, q1, _⟩ := hr1; exact ⟨vs, SqL.of q1⟩
  | ro zs => obtain ⟨vs, q1, _⟩ := hr1; exact ⟨vs, q1.sql⟩
  | dct zs =>
    have h : (listAt S n).isSome = true := h
    unfold listAt at h
    rw [ho1] at h
    cases h
  | ins c zs =>
    have h : (listAt S n).isSome = true := h
    unfold listAt at h
    rw [ho1] at h
    cases h
theorem k_app {o : Expr} {ap cp : Pos} (hap : (ap.endLine == cp.line) = true) (h1 : notStar a = true) (hb : plainBase o = true) (ho : PE X o (tE p X.K ca)) (ha : PE X a (tE p X.K cb)) :
    PE X (.Call (.Attribute o "append" ap) [a] [] cp) (tE p X.K (.app ca cb)) := by
  refine PE.imp (pe_bm PySem.F.plainAttrs_list PySem.F.slot_list_append PySem.F.type_list_append mt_append ho (pa_cons ha pa_nil (star1 h1 _ _)) (plainBase_ok hb _ _ _) (by rw [star1 h1]; rfl) hap (star1 h1 _ _) rfl) fun σ H Q h => ?_
  obtain ⟨ρ, S, e, y, sm, en, h, kq⟩ := h
  simp only [ev, Option.bind_eq_some_iff] at h
  obtain ⟨⟨d1, S1⟩, h1, ⟨d2, S2⟩, h2, h3⟩ := h
  split at h3
  · rename_i n hn
    simp only at hn
    subst hn
    split at h3
    · rename_i hok
      simp only [Option.map_eq_some_iff] at h3
      obtain ⟨S3, h4, h5⟩ := h3
      subst h5
      unfold push at h4
      split at h4
      · rename_i xs hx
        split at h4
        · rename_i hz
          cases h4
          refine st1 sm en h1 fun ρ1 H1 v p1 g1 s1 e1 r1 => ?_
          obtain ⟨A, eA, hA⟩ := rep_ref r1
          subst eA
          refine ⟨.inl ⟨rfl, ok_list s1 hok hA⟩, st1 s1 e1 h2 fun ρ2 H2 w p2 g2 s2 e2 r2 => ?_⟩
          have hA2 := p2 _ _ hA
          obtain ⟨vs, q1, q2⟩ := s2.obj n _ A hx hA2
          refine ⟨A, vs, w, rfl, rfl, q1, by rw [q2.length]; exact hz, ?_⟩
          have rr := q2.append (.cons r2 .nil)
          exact ((kq.mono (p1.trans p2) (g1.trans g2)).mono (Pre.refl _) (Gro.mut q1)).here (s2.put hx hA2 q1 rr) .non
        · cases h4
      · cases h4
    · cases h3
  · cases h3
end
end Tm

set_option Elab.async false
set_option linter.all false
set_option maxRecDepth 100000
set_option maxHeartbeats 4000000
namespace Tm
open PySem PySem.Spec PyProof.Rows L2
/-! ## methods -/
def mtId : Mt → String
  | .starts => "str.startswith" | .ends => "str.endswith" | .split => "str.split" | .join => "str.join" | .extend => "list.extend" | .popAt => "list.pop" | .pop => "list.pop" | .rev => "list.reverse" | .insert => "list.insert"
def rMt (K : PySem.W.Frag) (f : D → List D → Store → Option (D × Store)) : V → List V → Hp → VK → Prop := fun x vs H Q =>
  ∃ (ρ : List Addr) (S : Store) (a : D) (ds : List D) (d : D) (S' : Store), Sim K ρ S H ∧ Rep K ρ H x a ∧ Reps K ρ H vs ds ∧ f a ds S = some (d, S') ∧ Aft K ρ H S' d Q
section
variable {K : PySem.W.Frag} {ρ : List Addr} {H : Hp}
theorem reps1 {vs : List V} {d : D} (r : Reps K ρ H vs [d]) : ∃ v, vs = [v] ∧ Rep K ρ H v d := by
  cases r with | cons r1 r2 => cases r2; exact ⟨_, rfl, r1⟩
theorem reps2 {vs : List V} {d f : D} (r : Reps K ρ H vs [d, f]) : ∃ v w, vs = [v, w] ∧ Rep K ρ H v d ∧ Rep K ρ H w f := by
  cases r with | cons r1 r2 => cases r2 with | cons r3 r4 => cases r4; exact ⟨_, _, rfl, r1, r3⟩
theorem reps0 {vs : List V} (r : Reps K ρ H vs []) : vs = [] := by cases r; rfl
theorem reps_strs : ∀ (ys : List Str), Reps K ρ H (ys.map V.str) (ys.map D.str)
  | [] => .nil
  | y :: r => .cons (.str y) (reps_strs r)
theorem strsD_rep : ∀ {vs : List V} {ds : List D} {is : List Str}, Reps K ρ H vs ds → strsD ds = some is → vs = is.map V.str
  | _, _, is, .nil, h => by simp [strsD] at h; subst h; rfl
  | _, _, is, .cons (d := d) r t, h => by
    cases r <;> simp only [strsD, Option.map_eq_some_iff, reduceCtorEq] at h
    obtain ⟨js, h1, rfl⟩ := h
    rw [strsD_rep t h1]; rfl
theorem eraseIdx_rep : ∀ {vs : List V} {ds : List D} (k : Nat), Reps K ρ H vs ds → Reps K ρ H (vs.eraseIdx k) (ds.eraseIdx k)
  | _, _, _, .nil => .nil
  | _, _, 0, .cons _ t => t
  | _, _, k + 1, .cons r t => .cons r (eraseIdx_rep k t)
theorem dropLast_rep : ∀ {vs : List V} {ds : List D}, Reps K ρ H vs ds → Reps K ρ H vs.dropLast ds.dropLast
  | _, _, .nil => .nil
  | _, _, .cons _ .nil => .nil
  | _, _, .cons r (.cons r2 t) => .cons r (dropLast_rep (.cons r2 t))
theorem reverse_rep {vs : List V} {ds : List D} (r : Reps K ρ H vs ds) : Reps K ρ H vs.reverse ds.reverse := by
  induction vs generalizing ds with
  | nil => cases r; exact .nil
  | cons v vs ih =>
    cases r with
    | cons r1 r2 =>
      simp only [List.reverse_cons]
      exact (ih r2).append (.cons r1 .nil)
end
section
variable {X : Cx}
theorem mt_M (m : Mt) : MtR X (mtId m) (rMt X.K (mtop m)) := by
  intro pins s σ H x xs v us Q I rx rxs h
  obtain ⟨ρ, S, a, ds, d, S', sm, ra, rs, e, k⟩ := h
  cases m with
  | starts =>
    unfold mtop at e
    split at e <;> try (cases e; done)
    all_goals (rename_i h0; try (cases h0; done))
    all_goals cases e
    obtain ⟨w, rfl, r1⟩ := reps1 rs
    cases ra; cases r1
    exact mt_startswith pins s σ H _ _ v us Q I rx rxs ⟨_, _, rfl, rfl, k.here sm (.bl _)⟩
  | ends =>
    unfold mtop at e
    split at e <;> try (cases e; done)
    all_goals (rename_i h0; try (cases h0; done))
    all_goals cases e
    obtain ⟨w, rfl, r1⟩ := reps1 rs
    cases ra; cases r1
    exact mt_endswith pins s σ H _ _ v us Q I rx rxs ⟨_, _, rfl, rfl, k.here sm (.bl _)⟩
  | split =>
    unfold mtop at e
    split at e <;> try (cases e; done)
    all_goals (rename_i h0; try (cases h0; done))
    split at e
    · rename_i hz
      cases e
      obtain ⟨w, rfl, r1⟩ := reps1 rs
      cases ra; cases r1
      exact mt_split pins s σ H _ _ v us Q I rx rxs ⟨_, _, rfl, rfl, hz.1, hz.2, fun p hp => k.lst sm (reps_strs _) hp⟩
    · cases e
  | join =>
    unfold mtop at e
    split at e <;> try (cases e; done)
    all_goals (rename_i h0; try (cases h0; done))
    · simp only [Option.bind_eq_some_iff] at e
      obtain ⟨ys, h1, zs, h2, e⟩ := e
      obtain ⟨c, e⟩ := okI_some e
      cases e
      obtain ⟨w, rfl, r1⟩ := reps1 rs
      cases ra
      obtain ⟨A, eA, hA⟩ := rep_ref r1
      subst eA
      obtain ⟨vs, q1, q2⟩ := sm.list h1 hA
      rw [strsD_rep q2 h2] at q1
      exact mt_join pins s σ H _ _ v us Q I rx rxs ⟨_, A, zs, rfl, rfl, .inl q1, of_decide_eq_true c, k.here sm (.str _)⟩
    · simp only [Option.bind_eq_some_iff] at e
      obtain ⟨zs, h2, e⟩ := e
      obtain ⟨c, e⟩ := okI_some e
      cases e
      obtain ⟨w, rfl, r1⟩ := reps1 rs
      cases ra
      obtain ⟨A, vs, eA, q1, q2⟩ := rep_tup r1
      subst eA
      rw [strsD_rep q2 h2] at q1
      exact mt_join pins s σ H _ _ v us Q I rx rxs ⟨_, A, zs, rfl, rfl, .inr q1, of_decide_eq_true c, k.here sm (.str _)⟩
  | extend =>
    unfold mtop at e
    split at e <;> try (cases e; done)
    all_goals (rename_i h0; try (cases h0; done))
    split at e
    · rename_i ys zs g1 g2
      split at e
      · rename_i hz
        cases e
        obtain ⟨w, rfl, r1⟩ := reps1 rs
        obtain ⟨A, eA, hA⟩ := rep_ref ra
        obtain ⟨B, eB, hB⟩ := rep_ref r1
        subst eA eB
        obtain ⟨vs, q1, q2⟩ := sm.obj _ _ A g1 hA
        obtain ⟨ws, q3, q4⟩ := sm.obj _ _ B g2 hB
        refine mt_extend pins s σ H _ _ v us Q I rx rxs ⟨A, B, vs, ws, rfl, rfl, q1, q3, by rw [q2.length, q4.length]; exact hz, ?_⟩
        exact (k.mono (Pre.refl _) (Gro.mut q1)).here (sm.put g1 hA q1 (q2.append q4)) .non
      · cases e
    · cases e
  | popAt =>
    unfold mtop at e
    split at e <;> try (cases e; done)
    all_goals (rename_i h0; try (cases h0; done))
    split at e
    · rename_i ys g1
      split at e
      · rename_i hz
        simp only [Option.bind_eq_some_iff, Option.map_eq_some_iff] at e
        obtain ⟨j, h1, y, h2, e⟩ := e
        cases e
        obtain ⟨w, rfl, r1⟩ := reps1 rs
        obtain ⟨A, eA, hA⟩ := rep_ref ra
        subst eA
        cases r1
        obtain ⟨vs, q1, q2⟩ := sm.obj _ _ A g1 hA
        obtain ⟨w, q3, q4⟩ := q2.get h2
        refine mt_popAt pins s σ H _ _ v us Q I rx rxs ⟨A, vs, _, j, w, rfl, rfl, q1, hz.1, hz.2, by rw [q2.length]; exact h1, q3, ?_⟩
        exact (k.mono (Pre.refl _) (Gro.mut q1)).here (sm.put g1 hA q1 (eraseIdx_rep j q2)) (q4.mono (Gro.mut q1) (Pre.refl _))
      · cases e
    · cases e
  | pop =>
    unfold mtop at e
    split at e <;> try (cases e; done)
    all_goals (rename_i h0; try (cases h0; done))
    split at e
    · rename_i ys g1
      simp only [Option.map_eq_some_iff] at e
      obtain ⟨y, h2, e⟩ := e
      cases e
      obtain rfl := reps0 rs
      obtain ⟨A, eA, hA⟩ := rep_ref ra
      subst eA
      obtain ⟨vs, q1, q2⟩ := sm.obj _ _ A g1 hA
      obtain ⟨w, q3, q4⟩ := q2.get h2
      refine mt_pop pins s σ H _ _ v us Q I rx rxs ⟨A, vs, w, rfl, rfl, q1, by rw [q2.length]; exact q3, ?_⟩
      exact (k.mono (Pre.refl _) (Gro.mut q1)).here (sm.put g1 hA q1 (dropLast_rep q2)) (q4.mono (Gro.mut q1) (Pre.refl _))
    · cases e
  | rev =>
    unfold mtop at e
    split at e <;> try (cases e; done)
    all_goals (rename_i h0; try (cases h0; done))
    split at e
    · rename_i ys g1
      cases e
      obtain rfl := reps0 rs
      obtain ⟨A, eA, hA⟩ := rep_ref ra
      subst eA
      obtain ⟨vs, q1, q2⟩ := sm.obj _ _ A g1 hA
      refine mt_reverse pins s σ H _ _ v us Q I rx rxs ⟨A, vs, rfl, rfl, q1, ?_⟩
      exact (k.mono (Pre.refl _) (Gro.mut q1)).here (sm.put g1 hA q1 (reverse_rep q2)) .non
    · cases e
  | insert =>
    unfold mtop at e
    split at e <;> try (cases e; done)
    all_goals (rename_i h0; try (cases h0; done))
    split at e
    · rename_i ys g1
      split at e
      · rename_i hz
        cases e
        obtain ⟨w1, w2, rfl, r1, r2⟩ := reps2 rs
        obtain ⟨A, eA, hA⟩ := rep_ref ra
        subst eA
        cases r1
        obtain ⟨vs, q1, q2⟩ := sm.obj _ _ A g1 hA
        refine mt_insert pins s σ H _ _ v us Q I rx rxs ⟨A, vs, _, w2, rfl, rfl, q1, by rw [q2.length]; exact hz.1, hz.2.1, hz.2.2, ?_⟩
        exact (k.mono (Pre.refl _) (Gro.mut q1)).here (sm.put g1 hA q1 (((q2.take _).append (.cons r2 .nil)).append (q2.drop _))) .non
      · cases e
    · cases e
end
section
variable {X : Cx} {p : Pm} {c : Cc} {k : Nat} {e a b d : Expr} {es : List Expr} {ca cb cd : C} {pos : Pos}
def mtTy : Mt → String
  | .starts | .ends | .split | .join => "str"
  | _ => "list"
theorem mt_ty {K : PySem.W.Frag} {ρ : List Addr} {H : Hp} {S S2 : Store} {x : D} {w : V} {m : Mt} {ds : List D} {y : D × Store} (sm : Sim K ρ S H) (r : Rep K ρ H w x) (hok : okRef S x = true) (h : mtop m x ds S2 = some y) : tyV K (mtTy m) w H := by
  cases m <;> unfold mtop at h <;> split at h <;> (try (cases h; done)) <;> (rename_i h0; try (cases h0; done))
  all_goals first
    | (cases r; rfl)
    | (obtain ⟨A, eA, hA⟩ := rep_ref r
       subst eA
       exact .inl ⟨rfl, ok_list sm hok hA⟩)
theorem mt_rd {t : TA} {m : Mt} {σ : L2.St} {H : Hp} {Q : VK} (h : tE p X.K (.mt m ca cb) σ H Q) : tBM X.K (mtTy m) (rMt X.K (mtop m)) (tE p X.K ca) (tA p X.K cb) σ H Q := by
  obtain ⟨ρ, S, e, y, sm, en, h, kq⟩ := h
  simp only [ev, Option.bind_eq_some_iff] at h
  obtain ⟨⟨d1, S1⟩, h1, ⟨d2, S2⟩, h2, h3⟩ := h
  split at h3
  · rename_i ds e1
    simp only at e1
    subst e1
    split at h3
    · rename_i hok
      refine st1 sm en h1 fun ρ1 H1 v p1 g1 s1 e1 r1 => ⟨mt_ty s1 r1 hok h3, stA s1 e1 h2 fun ρ2 H2 vs p2 g2 s2 e2 r2 => ?_⟩
      exact ⟨ρ2, S2, d1, ds, y.1, y.2, s2, r1.mono g2 p2, r2, h3, kq.mono (p1.trans p2) (g1.trans g2)⟩
    · cases h3
  · cases h3
theorem k_mt1 {o : Expr} {ap cp : Pos} {x : Str} {m : Mt} (hm : mt1 x = some m) (hap : (ap.endLine == cp.line) = true) (h1 : notStar a = true) (hb : plainBase o = true) (ho : PE X o (tE p X.K ca)) (ha : PE X a (tE p X.K cb)) :
    PE X (.Call (.Attribute o x ap) [a] [] cp) (tE p X.K (.mt m ca (.cons cb .nil))) := by
  have A := k_acons (X := X) (p := p) h1 ha k_anil
  have s1 := star1 h1 [] X.env
  unfold mt1 at hm
  repeat' split at hm
  all_goals first
    | (cases hm; done)
    | skip
  all_goals (rename_i ex; subst ex; cases hm)
  · exact PE.imp (pe_bm PySem.F.plainAttrs_str PySem.F.slot_str_startswith PySem.F.type_str_startswith (mt_M .starts) ho A (plainBase_ok hb _ _ _) (by rw [s1]; rfl) hap s1 rfl) fun σ H Q h => mt_rd (t := fun _ _ _ => True) h
  · exact PE.imp (pe_bm PySem.F.plainAttrs_str PySem.F.slot_str_endswith PySem.F.type_str_endswith (mt_M .ends) ho A (plainBase_ok hb _ _ _) (by rw [s1]; rfl) hap s1 rfl) fun σ H Q h => mt_rd (t := fun _ _ _ => True) h
  · exact PE.imp (pe_bm PySem.F.plainAttrs_str PySem.F.slot_str_split PySem.F.type_str_split (mt_M .split) ho A (plainBase_ok hb _ _ _) (by rw [s1]; rfl) hap s1 rfl) fun σ H Q h => mt_rd (t := fun _ _ _ => True) h
  · exact PE.imp (pe_bm PySem.F.plainAttrs_str PySem.F.slot_str_join PySem.F.type_str_join (mt_M .join) ho A (plainBase_ok hb _ _ _) (by rw [s1]; rfl) hap s1 rfl) fun σ H Q h => mt_rd (t := fun _ _ _ => True) h
  · exact PE.imp (pe_bm PySem.F.plainAttrs_list PySem.F.slot_list_extend PySem.F.type_list_extend (mt_M .extend) ho A (plainBase_ok hb _ _ _) (by rw [s1]; rfl) hap s1 rfl) fun σ H Q h => mt_rd (t := fun _ _ _ => True) h
  · exact PE.imp (pe_bm PySem.F.plainAttrs_list PySem.F.slot_list_pop PySem.F.type_list_pop (mt_M .popAt) ho A (plainBase_ok hb _ _ _) (by rw [s1]; rfl) hap s1 rfl) fun σ H Q h => mt_rd (t := fun _ _ _ => True) h
theorem k_mt2 {o : Expr} {ap cp : Pos} {x : Str} {m : Mt} (hm : mt2 x = some m) (hap : (ap.endLine == cp.line) = true) (h1 : notStar a = true) (h2 : notStar b = true) (hb : plainBase o = true) (ho : PE X o (tE p X.K ca)) (ha : PE X a (tE p X.K cb)) (hc : PE X b (tE p X.K cd)) :
    PE X (.Call (.Attribute o x ap) [a, b] [] cp) (tE p X.K (.mt m ca (.cons cb (.cons cd .nil)))) := by
  have A := k_acons (X := X) (p := p) h1 ha (k_acons h2 hc k_anil)
  have s1 := star1 h1 [b] X.env
  have s2 := star1 h2 [] X.env
  unfold mt2 at hm
  repeat' split at hm
  all_goals first
    | (cases hm; done)
    | skip
  all_goals (rename_i ex; subst ex; cases hm)
  exact PE.imp (pe_bm PySem.F.plainAttrs_list PySem.F.slot_list_insert PySem.F.type_list_insert (mt_M .insert) ho A (plainBase_ok hb _ _ _) (by rw [s1, s2]; rfl) hap s1 (by rw [s2]; rfl)) fun σ H Q h => mt_rd (t := fun _ _ _ => True) h
theorem mt_rd0 {m : Mt} {σ : L2.St} {H : Hp} {Q : VK} (h : tE p X.K (.mt m ca .nil) σ H Q) : tBM0 X.K (mtTy m) (rMt X.K (mtop m)) (tE p X.K ca) σ H Q := by
  obtain ⟨ρ, S, e, y, sm, en, h, kq⟩ := h
  simp only [ev, Option.bind_eq_some_iff] at h
  obtain ⟨⟨d1, S1⟩, h1, ⟨d2, S2⟩, h2, h3⟩ := h
  cases h2
  simp only at h3
  split at h3
  · rename_i hok
    exact st1 sm en h1 fun ρ1 H1 v p1 g1 s1 e1 r1 => ⟨mt_ty s1 r1 hok h3, ρ1, S1, d1, [], y.1, y.2, s1, r1, .nil, h3, kq.mono p1 g1⟩
  · cases h3
theorem k_mt0 {o : Expr} {ap cp : Pos} {x : Str} {m : Mt} (hm : mt0 x = some m) (hap : (ap.endLine == cp.line) = true) (hb : plainBase o = true) (ho : PE X o (tE p X.K ca)) :
    PE X (.Call (.Attribute o x ap) [] [] cp) (tE p X.K (.mt m ca .nil)) := by
  unfold mt0 at hm
  repeat' split at hm
  all_goals first
    | (cases hm; done)
    | skip
  all_goals (rename_i ex; subst ex; cases hm)
  · exact PE.imp (pe_bm0 PySem.F.plainAttrs_list PySem.F.slot_list_pop PySem.F.type_list_pop (mt_M .pop) ho (plainBase_ok hb _ _ _) hap) fun σ H Q h => mt_rd0 h
  · exact PE.imp (pe_bm0 PySem.F.plainAttrs_list PySem.F.slot_list_reverse PySem.F.type_list_reverse (mt_M .rev) ho (plainBase_ok hb _ _ _) hap) fun σ H Q h => mt_rd0 h
theorem k_dnew : PE X (.Dict [] [] pos) (tE p X.K .dnew) := PE.imp pe_dnewK fun σ H Q h => by
  obtain ⟨ρ, S, e, y, sm, en, h, kq⟩ := h
  cases h
  intro q hq
  exact kq (ρ ++ [q]) _ _ (Pre.app ρ q) (Gro.new hq) (sm.newD hq) (.ref (by rw [← sm.len, List.getElem?_append_right (Nat.le_refl _)]; simp))
end
end Tm

set_option Elab.async false
set_option linter.all false
set_option maxRecDepth 100000
set_option maxHeartbeats 4000000
namespace Tm
open PySem PySem.Spec PyProof.Rows L2
/-! ## instances, xs[::-1] -/
theorem fldS_some {cs : List Str} {f : Str} {x d : D} {S : Store} (h : fldS cs f x S = some d) : ∃ (n : Nat) (c : Str) (fs : List (Str × D)), x = .ref n ∧ insAt S n = some (c, fs) ∧ cs.contains c = true ∧ fs.lookup f = some d := by
  unfold fldS at h
  split at h
  · rename_i n
    simp only [Option.bind_eq_some_iff] at h
    obtain ⟨⟨c, fs⟩, h1, h2⟩ := h
    split at h2
    · rename_i hc; exact ⟨n, c, fs, rfl, h1, hc, h2⟩
    · cases h2
  · cases h
theorem putfS_some {cs : List Str} {f : Str} {x d : D} {S S' : Store} (h : putfS cs f x d S = some S') : ∃ (n : Nat) (c : Str) (fs : List (Str × D)), x = .ref n ∧ insAt S n = some (c, fs) ∧ cs.contains c = true ∧ fs.length < 1000 ∧ S' = S.set n (.ins c (putFD f d fs)) := by
  unfold putfS at h
  split at h
  · rename_i n
    simp only [Option.bind_eq_some_iff] at h
    obtain ⟨⟨c, fs⟩, h1, h2⟩ := h
    split at h2
    · rename_i hc; cases h2; exact ⟨n, c, fs, rfl, h1, hc.1, hc.2, rfl⟩
    · cases h2
  · cases h
theorem reps_rev {K : PySem.W.Frag} {ρ : List Addr} {H : Hp} : ∀ {vs : List V} {ds : List D}, Reps K ρ H vs ds → Reps K ρ H vs.reverse ds.reverse
  | _, _, .nil => .nil
  | _, _, .cons r t => by
    rw [List.reverse_cons, List.reverse_cons]
    exact (reps_rev t).append (.cons r .nil)
section
variable {X : Cx} {p : Pm} {c : Cc} {k : Nat} {e a b d : Expr} {es : List Expr} {ca cb cd : C} {pos : Pos}
theorem Mat.cls (M : Mat X p c k) {f c' : Str} {C : Addr} (h : (clsFor c.G f).contains c' = true) (q : PySem.W.nsIn X.K mainGlobals c' = some (some (.ref C))) : Cls X.K C ∧ NoAttr X.K C f := by
  have h : c' ∈ clsFor c.G f := by simpa using h
  unfold clsFor at h
  rw [List.mem_map] at h
  obtain ⟨e, he, rfl⟩ := h
  rw [List.mem_filter] at he
  obtain ⟨h1, h2⟩ := he
  obtain ⟨a1, a2⟩ := M.glob.flds e h1 C q
  exact ⟨a1, a2 f (by simpa using h2)⟩
theorem k_fld (M : Mat X p c k) {o : Expr} {f : Str} (hb : plainBase o = true) (ho : PE X o (tE p X.K ca)) : PE X (.Attribute o f pos) (tE p X.K (.fld ca f (clsFor c.G f))) := by
  refine PE.imp (pe_fld ho (plainBase_ok hb _ _ _)) fun σ H Q h => ?_
  obtain ⟨ρ, S, e, y, sm, en, h, kq⟩ := h
  simp only [ev, Option.bind_eq_some_iff, Option.map_eq_some_iff] at h
  obtain ⟨⟨d1, S1⟩, h1, d, h2, h3⟩ := h
  subst h3
  obtain ⟨n, c', fs, e1, hi, hc, hl⟩ := fldS_some h2
  simp only at e1 hi
  subst e1
  refine st1 sm en h1 fun ρ1 H1 v p1 g1 s1 e1 r1 => ?_
  obtain ⟨A, eA, hA⟩ := rep_ref r1
  subst eA
  obtain ⟨_, C, dx, ws, q1, q2, q3, q4⟩ := s1.ins hi hA
  obtain ⟨v, l1, l2⟩ := Rep.of_lookup q3 q4 hl
  obtain ⟨c1, c2⟩ := M.cls hc q2
  exact ⟨A, C, dx, ws, v, rfl, q1, c1, c2, l1, (kq.mono p1 g1).here s1 l2⟩
theorem k_mk (M : Mat X p c k) {x : Str} {f : Nat} {ps fl : List Str} {px : Pos} (hg : glB c x = true) (hf : c.G.clss.lookup x = some (f, ps, fl)) (hst : (a :: es).all notStar = true)
    (ha : PA X (a :: es) (tA p X.K ca)) : PE X (.Call (.Name x px) (a :: es) [] pos) (tE p X.K (.mk x f ca)) := by
  obtain ⟨C, fa, fd, hm, hns, MK, F, hb, har⟩ := M.glob.clss x f ps fl hf
  have hst2 := hst
  rw [List.all_cons, Bool.and_eq_true] at hst2
  refine ⟨fun pins s σ H Q I h => ?_⟩
  obtain ⟨ρ, S, e, y, sm, en, h, q⟩ := h
  simp only [ev, Option.bind_eq_some_iff] at h
  obtain ⟨⟨d1, S1⟩, h1, h2⟩ := h
  split at h2
  · rename_i ds e1
    simp only at e1
    subst e1
    simp only [Option.bind_eq_some_iff] at h2
    obtain ⟨⟨z1, z2⟩, h3, h4⟩ := h2
    split at h4
    · rename_i ez
      simp only at ez
      subst ez
      cases h4
      apply wpAny_Call_Name_kw
      apply ld_glob I (M.gl hg).1 hm _ (bad3 (M.gl hg).2).1
      apply PySem.W.callWith_K (h₀ := X.base) I.ok.mod.kin MK.kp _ (star1 hst2.1 es X.env) (noStars hst2.2 _ _)
      refine thn (ha.run pos pins s σ H (fun vs H1 => ∀ x dx, H1 x = none → H1 dx = none → dx ≠ x → spR X.K ps.length (p.R f) (.ref x :: vs) (upd (upd H1 dx (.own x)) x (.ins C dx [])) (fun v H2 => v = .non ∧ Q (.ref x) H2) E0) I
        (stA sm en h1 fun ρ1 H1 vs p1 g1 s1 e1 r1 x' dx hx hd hne => ?_)) fun us s1 ⟨vs, H1, I1, rv, hsp⟩ => ⟨I1.kIn, makeG MK F M.room M.gd hb I1 rv hsp⟩
      have hx' : (upd H1 dx (.own x')) x' = none := by rw [upd_ne (Ne.symm hne)]; exact hx
      have g2 : Gro H1 (upd (upd H1 dx (.own x')) x' (.ins C dx [])) := (Gro.new hd).trans (Gro.new hx')
      have hr : (ρ1 ++ [x'])[S1.length]? = some x' := by rw [← s1.len]; simp
      refine sp_call (har _ _ _ h3) (s1.newI hx hd hne hns) (.cons (.ref hr) (r1.mono g2 (Pre.app _ _))) h3 fun ρ' H' v p' g' s' r' => ⟨rep_non r', ?_⟩
      exact q ρ' H' _ (p1.trans ((Pre.app _ _).trans p')) (g1.trans (g2.trans g')) s' (.ref (p' _ _ hr))
    · cases h4
  · cases h2
theorem k_revl {kk : Nat} {p1 p2 p3 : Pos} (ha : PE X a (tE p X.K ca)) : PE X (.Subscript a (.Slice none none (some (.UnaryOp .USub (.Constant (.int 1) kk p1) p2)) p3) pos) (tE p X.K (.revl ca)) := by
  refine PE.imp (pe_revL ha) fun σ H Q h => ?_
  obtain ⟨ρ, S, e, y, sm, en, h, kq⟩ := h
  simp only [ev, Option.bind_eq_some_iff] at h
  obtain ⟨⟨d1, S1⟩, h1, h2⟩ := h
  split at h2
  · rename_i n e1
    simp only at e1
    subst e1
    simp only [Option.map_eq_some_iff] at h2
    obtain ⟨xs, hx, h3⟩ := h2
    cases h3
    refine st1 sm en h1 fun ρ1 H1 v p1 g1 s1 e1 r1 => ?_
    obtain ⟨A, eA, hA⟩ := rep_ref r1
    subst eA
    obtain ⟨vs, q1, q2⟩ := s1.list hx hA
    exact ⟨A, vs, rfl, q1, fun p hp => (kq.mono p1 g1).lst s1 (reps_rev q2) hp⟩
  · cases h2
end
end Tm

set_option Elab.async false
set_option linter.all false
set_option maxRecDepth 100000
set_option maxHeartbeats 4000000
namespace Tm
open PySem PySem.Spec PyProof.Rows L2
/-! ## targets -/
def tG (K : PySem.W.Frag) (t : Tg) : TG := fun v σ H Q => ∃ (ρ : List Addr) (S : Store) (e : Env') (d : D) (e1 : Env'), Sim K ρ S H ∧ EnvR K ρ H e σ ∧ Rep K ρ H v d ∧ bindT t d S e = some e1 ∧
  ∀ σ' : L2.St, EnvR K ρ H e1 σ' → (∀ own : List Nat, tgIn own t = true → wipe σ' own = wipe σ own) → Q σ' H
def tGs (K : PySem.W.Frag) (t : Tg) : TGs := fun vs σ H Q => ∃ (ρ : List Addr) (S : Store) (e : Env') (ds : List D) (e1 : Env'), Sim K ρ S H ∧ EnvR K ρ H e σ ∧ Reps K ρ H vs ds ∧ bindTs t ds S e = some e1 ∧
  ∀ σ' : L2.St, EnvR K ρ H e1 σ' → (∀ own : List Nat, tgIn own t = true → wipe σ' own = wipe σ own) → Q σ' H
theorem PG.imp {X : Cx} {e : Expr} {t t' : TG} (h : PG X e t) (f : ∀ v σ H Q, t' v σ H Q → t v σ H Q) : PG X e t' := ⟨fun pins s σ H v u Q I r q => h.run pins s σ H v u Q I r (f v σ H Q q)⟩
theorem PGs.imp {X : Cx} {e : List Expr} {t t' : TGs} (h : PGs X e t) (f : ∀ v σ H Q, t' v σ H Q → t v σ H Q) : PGs X e t' := ⟨fun pins s σ H v u Q I r q => h.run pins s σ H v u Q I r (f v σ H Q q)⟩
theorem PG.or {X : Cx} {e : Expr} {t t' : TG} (h : PG X e t) (h' : PG X e t') : PG X e (fun v σ H Q => t v σ H Q ∨ t' v σ H Q) := ⟨fun pins s σ H v u Q I r q => q.elim (h.run pins s σ H v u Q I r) (h'.run pins s σ H v u Q I r)⟩
theorem wipe_set {σ : L2.St} {i : Nat} {x : Option V} : ∀ {own : List Nat}, i ∈ own → wipe (σ.set i x) own = wipe σ own
  | v :: vs, h => by
    unfold wipe
    by_cases e : i ∈ vs
    · rw [wipe_set e]
    · have hv : i = v := by
        rcases List.mem_cons.mp h with z | z
        · exact z
        · exact absurd z e
      subst hv
      have comm : ∀ (l : List Nat) (σ : L2.St), i ∉ l → wipe (σ.set i x) l = (wipe σ l).set i x := by
        intro l
        induction l with
        | nil => intro σ _; rfl
        | cons w ws ih =>
          intro σ hn
          rw [List.mem_cons, not_or] at hn
          unfold wipe
          rw [ih σ hn.2, List.set_comm _ _ hn.1]
      rw [comm vs σ e, List.set_set]
theorem EnvR.set {K : PySem.W.Frag} {ρ : List Addr} {H : Hp} {e : Env'} {σ : L2.St} (h : EnvR K ρ H e σ) {v : V} {d : D} (r : Rep K ρ H v d) (i : Nat) : EnvR K ρ H (e.set i (some d)) (σ.set i (some v)) := by
  refine ⟨by rw [List.length_set, List.length_set]; exact h.1, fun j f hj => ?_⟩
  by_cases q : i = j
  · subst q
    by_cases hl : i < e.length
    · rw [List.getElem?_set_self hl] at hj
      cases hj
      exact ⟨v, by rw [List.getElem?_set_self (by rw [← h.1]; exact hl)], r⟩
    · rw [List.getElem?_eq_none (by rw [List.length_set]; omega)] at hj
      cases hj
  · rw [List.getElem?_set_ne q] at hj ⊢
    exact h.2 j f hj
theorem EnvR.drop {K : PySem.W.Frag} {ρ : List Addr} {H : Hp} {e : Env'} {σ : L2.St} (h : EnvR K ρ H e σ) (i : Nat) : EnvR K ρ H (e.set i none) (σ.set i none) := by
  refine ⟨by rw [List.length_set, List.length_set]; exact h.1, fun j f hj => ?_⟩
  by_cases q : i = j
  · subst q
    by_cases hl : i < e.length
    · rw [List.getElem?_set_self hl] at hj
      cases hj
    · rw [List.getElem?_eq_none (by rw [List.length_set]; omega)] at hj
      cases hj
  · rw [List.getElem?_set_ne q] at hj ⊢
    exact h.2 j f hj
theorem EnvR.wipe {K : PySem.W.Frag} {ρ : List Addr} {H : Hp} {e : Env'} {σ : L2.St} (h : EnvR K ρ H e σ) : ∀ own : List Nat, EnvR K ρ H (wipeE e own) (L2.wipe σ own)
  | [] => h
  | v :: vs => (EnvR.wipe h vs).drop v
section
variable {X : Cx} {p : Pm} {c : Cc} {k : Nat} {e a b d : Expr} {es : List Expr} {ca cb cd : C} {pos : Pos}
theorem k_gbad : PG X e (tG X.K .bad) := ⟨fun _ _ _ _ _ _ _ _ _ h => by obtain ⟨_, _, _, _, _, _, _, _, h, _⟩ := h; simp [bindT] at h⟩
theorem k_gsbad : PGs X es (tGs X.K .bad) := ⟨fun _ _ _ _ _ _ _ _ _ h => by obtain ⟨_, _, _, ds, _, _, _, _, h, _⟩ := h; cases ds <;> simp [bindTs] at h⟩
theorem k_gname (M : Mat X p c k) {x : Str} {i : Nat} (hl : locB c x = true) (hi : ixOf c.N x = some i) : PG X (.Name x pos) (tG X.K (.nm i)) := by
  obtain ⟨h1, h2⟩ := M.loc hl
  refine PG.imp (pg_name (i := i) (by rw [M.hN]; exact M.nd) (by rw [M.hN]; exact ixOf_get hi) h1 h2) fun v σ H Q h => ?_
  obtain ⟨ρ, S, e, d, e1, sm, en, r, h, q⟩ := h
  simp only [bindT] at h
  split at h
  · cases h
    refine q _ (en.set r i) fun own ho => wipe_set ?_
    simpa [tgIn] using ho
  · cases h
theorem assign_each (h : es.all notStar = true) (env : Env) : (assignEach es env).length = es.length ∧ (assignEach es env).findIdx? (·.1) = none ∧ ∀ e r, es = e :: r → (assignEach (e :: r) env).map (·.2) = assign e env :: (assignEach r env).map (·.2) := by
  have one : ∀ (e : Expr) (r : List Expr), notStar e = true → assignEach (e :: r) env = (false, assign e env) :: assignEach r env := by
    intro e r he
    cases e <;> first | rfl | (simp [notStar] at he; done)
  induction es with
  | nil => exact ⟨rfl, rfl, fun e r z => by cases z⟩
  | cons e r ih =>
    rw [List.all_cons, Bool.and_eq_true] at h
    obtain ⟨i1, i2, i3⟩ := ih h.2
    refine ⟨by rw [one e r h.1, List.length_cons, List.length_cons, i1], ?_, fun e' r' z => ?_⟩
    · rw [one e r h.1, List.findIdx?_cons, i2]; rfl
    · cases z
      rw [one e r h.1]; rfl
theorem k_gtup (M : Mat X p c k) {kk : Nat} {t : Tg} (hst : es.all notStar = true) (h : PGs X es (tGs X.K t)) : PG X (.Tuple es kk pos) (tG X.K (.tp es.length t)) := by
  obtain ⟨a1, a2, _⟩ := assign_each hst X.env
  refine PG.imp (PG.or (pg_tup (n := es.length) M.calm h a1 a2) (pg_lst (n := es.length) M.calm h a1 a2)) fun v σ H Q h => ?_
  obtain ⟨ρ, S, e, d, e1, sm, en, r, h, q⟩ := h
  cases r with
  | tup h1 r1 =>
    simp only [bindT] at h
    split at h
    · rename_i hn
      exact .inl ⟨_, _, rfl, h1, by rw [r1.length]; exact hn, ρ, S, e, _, e1, sm, en, r1, h, q⟩
    · cases h
  | ref h1 =>
    simp only [bindT, Option.bind_eq_some_iff] at h
    obtain ⟨ys, hl, h⟩ := h
    obtain ⟨vs, hq, r1⟩ := sm.list hl h1
    split at h
    · rename_i hn
      exact .inr ⟨_, vs, rfl, hq, by rw [r1.length]; exact hn, ρ, S, e, ys, e1, sm, en, r1, h, q⟩
    · cases h
  | _ => simp [bindT] at h
theorem k_gsnil : PGs X [] (tGs X.K .nil) := PGs.imp pgs_nil fun vs σ H Q h => by
  obtain ⟨ρ, S, e, ds, e1, sm, en, r, h, q⟩ := h
  cases r with
  | nil => simp only [bindTs, Option.some.injEq] at h; subst h; exact ⟨rfl, q σ en fun _ _ => rfl⟩
  | cons _ _ => simp [bindTs] at h
theorem k_gscons {t u : Tg} (hs : notStar a = true) (ha : PG X a (tG X.K t)) (hb : PGs X es (tGs X.K u)) (hst : es.all notStar = true) : PGs X (a :: es) (tGs X.K (.cons t u)) := by
  have hst2 : (a :: es).all notStar = true := by rw [List.all_cons, Bool.and_eq_true]; exact ⟨hs, hst⟩
  obtain ⟨_, _, a3⟩ := assign_each hst2 X.env
  refine PGs.imp (pgs_cons ha hb (a3 a es rfl)) fun vs σ H Q h => ?_
  obtain ⟨ρ, S, e, ds, e1, sm, en, r, h, q⟩ := h
  cases r with
  | nil => simp [bindTs] at h
  | cons r1 r2 =>
    simp only [bindTs, Option.bind_eq_some_iff] at h
    obtain ⟨e2, h1, h2⟩ := h
    refine ⟨_, _, rfl, ρ, S, e, _, e2, sm, en, r1, h1, fun σ1 en1 w1 => ⟨ρ, S, e2, _, e1, sm, en1, r2, h2, fun σ2 en2 w2 => q σ2 en2 fun own ho => ?_⟩⟩
    simp only [tgIn, Bool.and_eq_true] at ho
    rw [w2 own ho.2, w1 own ho.1]
/-! ## what is walked -/
theorem chks_app {S : Store} : ∀ {l m : List D}, chks S (l ++ m) = true → chks S l = true ∧ chks S m = true
  | [], m, h => ⟨rfl, h⟩
  | x :: l, m, h => by
    simp only [List.cons_append, chks, Bool.and_eq_true] at h ⊢
    exact ⟨⟨h.1, (chks_app h.2).1⟩, (chks_app h.2).2⟩
/-- a list or a tuple that is walked: what it is, at every turn -/
theorem src_list {K : PySem.W.Frag} {ρ ρ2 : List Addr} {S S2 : Store} {H H2 : Hp} {n : Nat} {A : Addr} {ys : List D} (hA : ρ[n]? = some A) (p2 : Pre ρ ρ2) (s2 : Sim K ρ2 S2 H2) (hc : chks S2 [.tup [.ref n, .tup ys]] = true) :
    ∃ vs, SqL K H2 A vs ∧ Reps K ρ2 H2 vs ys := by
  simp only [chks, chk1, Bool.and_true] at hc
  split at hc
  · rename_i zs hz
    have e := D.beqs_eq _ _ hc
    subst e
    exact s2.list hz (p2 _ _ hA)
  · cases hc
theorem it_list {K : PySem.W.Frag} {ρ : List Addr} {H : Hp} {n : Nat} {A : Addr} {ys : List D} (hA : ρ[n]? = some A) :
    ItOk K ρ H ys [.tup [.ref n, .tup ys]] (Itl K A) := by
  intro ρ2 S2 H2 p2 g2 s2 hc i
  obtain ⟨vs, hq, r⟩ := src_list (H := H) (S := S2) hA p2 s2 hc
  refine ⟨fun e => ⟨vs, hq, by rw [r.length, e]; exact Nat.le_refl _⟩, fun d hd => ?_⟩
  obtain ⟨v, hv, rv⟩ := r.get hd
  refine ⟨⟨vs, v, hq, hv⟩, fun x H3 hy => ?_⟩
  obtain ⟨e, hx⟩ := hy
  subst e
  have q := hx vs hq
  rw [hv] at q
  cases q
  exact ⟨Gro.refl _, s2, rv⟩
theorem it_tup {K : PySem.W.Frag} {ρ : List Addr} {H : Hp} {A : Addr} {vs : List V} {ys cks : List D} (h : SqT K H A vs) (r : Reps K ρ H vs ys) : ItOk K ρ H ys cks (Itt K A) := by
  intro ρ2 S2 H2 p2 g2 s2 hc i
  have hq := g2.sqt h
  have r := r.mono g2 p2
  refine ⟨fun e => ⟨vs, hq, by rw [r.length, e]; exact Nat.le_refl _⟩, fun d hd => ?_⟩
  obtain ⟨v, hv, rv⟩ := r.get hd
  refine ⟨⟨vs, v, hq, hv⟩, fun x H3 hy => ?_⟩
  obtain ⟨e, hx⟩ := hy
  subst e
  have q := hx vs hq
  rw [hv] at q
  cases q
  exact ⟨Gro.refl _, s2, rv⟩
theorem it_rng {K : PySem.W.Frag} {ρ : List Addr} {H : Hp} {lo : Int} {n : Nat} {cks : List D} : ItOk K ρ H (rng lo n) cks (Itr lo n) := by
  intro ρ2 S2 H2 p2 g2 s2 hc i
  have hl : (rng lo n).length = n := by simp [rng]
  refine ⟨fun e => by show n ≤ i; omega, fun d hd => ?_⟩
  have hi : i < n := by have := (List.getElem?_eq_some_iff.mp hd).1; omega
  refine ⟨hi, fun x H3 hy => ?_⟩
  obtain ⟨e, hx⟩ := hy
  subst e; subst hx
  have : d = .int (lo + (i : Int)) := by
    simp [rng, hi] at hd
    exact hd.symm
  subst this
  exact ⟨Gro.refl _, s2, .int _⟩
theorem it_revL {K : PySem.W.Frag} {ρ : List Addr} {H : Hp} {n : Nat} {A : Addr} {ys : List D} {m : Nat} (hm : m = ys.length) (hA : ρ[n]? = some A) : ItOk K ρ H ys.reverse [.tup [.ref n, .tup ys]] (Itv K A m) := by
  subst hm
  intro ρ2 S2 H2 p2 g2 s2 hc i
  obtain ⟨vs, hq, r⟩ := src_list (H := H) (S := S2) hA p2 s2 hc
  refine ⟨fun e => by show _ ≤ i; rw [e, List.length_reverse]; exact Nat.le_refl _, fun d hd => ?_⟩
  have hi : i < ys.length := by have := (List.getElem?_eq_some_iff.mp hd).1; rw [List.length_reverse] at this; exact this
  rw [List.getElem?_reverse hi] at hd
  obtain ⟨v, hv, rv⟩ := r.get hd
  refine ⟨⟨hi, vs, v, hq, hv⟩, fun x H3 hy => ?_⟩
  obtain ⟨e, hx⟩ := hy
  subst e
  have q := hx vs hq
  rw [hv] at q
  cases q
  exact ⟨Gro.refl _, s2, rv⟩
theorem it_revT {K : PySem.W.Frag} {ρ : List Addr} {H : Hp} {A : Addr} {vs : List V} {ys cks : List D} {m : Nat} (hm : m = ys.length) (h : SqT K H A vs) (r : Reps K ρ H vs ys) : ItOk K ρ H ys.reverse cks (RT.ItvT K A m) := by
  subst hm
  intro ρ2 S2 H2 p2 g2 s2 hc i
  have hq := g2.sqt h
  have r := r.mono g2 p2
  refine ⟨fun e => by show _ ≤ i; rw [e, List.length_reverse]; exact Nat.le_refl _, fun d hd => ?_⟩
  have hi : i < ys.length := by have := (List.getElem?_eq_some_iff.mp hd).1; rw [List.length_reverse] at this; exact this
  rw [List.getElem?_reverse hi] at hd
  obtain ⟨v, hv, rv⟩ := r.get hd
  refine ⟨⟨hi, vs, v, hq, hv⟩, fun x H3 hy => ?_⟩
  obtain ⟨e, hx⟩ := hy
  subst e
  have q := hx vs hq
  rw [hv] at q
  cases q
  exact ⟨Gro.refl _, s2, rv⟩
theorem enumF_len : ∀ (i : Nat) (l : List D), (enumF i l).length = l.length
  | _, [] => rfl
  | i, d :: l => by simp [enumF, enumF_len (i + 1) l]
theorem enumF_get : ∀ (l : List D) (i j : Nat) (d : D), (enumF i l)[j]? = some d → ∃ f, l[j]? = some f ∧ d = .tup [.int ((i + j : Nat) : Int), f]
  | [], i, j, d, h => by simp [enumF] at h
  | x :: l, i, 0, d, h => by
    simp [enumF] at h
    exact ⟨x, rfl, h.symm⟩
  | x :: l, i, j + 1, d, h => by
    simp only [enumF, List.getElem?_cons_succ] at h
    obtain ⟨f, h1, h2⟩ := enumF_get l (i + 1) j d h
    exact ⟨f, by simpa using h1, by rw [h2, show i + 1 + j = i + (j + 1) by omega]⟩
theorem it_enum {K : PySem.W.Frag} {ρ : List Addr} {H : Hp} {n : Nat} {A : Addr} {ys : List D} (hA : ρ[n]? = some A) : ItOk K ρ H (enumF 0 ys) [.tup [.ref n, .tup ys]] (Ite K A) := by
  intro ρ2 S2 H2 p2 g2 s2 hc i
  obtain ⟨vs, hq, r⟩ := src_list (H := H) (S := S2) hA p2 s2 hc
  refine ⟨fun e => ⟨vs, hq, by rw [r.length, e, enumF_len]; exact Nat.le_refl _⟩, fun d hd => ?_⟩
  obtain ⟨f, hf, ed⟩ := enumF_get ys 0 i d hd
  obtain ⟨v, hv, rv⟩ := r.get hf
  refine ⟨⟨vs, v, hq, hv⟩, fun x H3 hy => ?_⟩
  obtain ⟨T, y, ex, hT, eH, hx⟩ := hy
  have q := hx vs hq
  rw [hv] at q
  cases q
  subst ex; subst eH; subst ed
  rw [Nat.zero_add]
  exact ⟨Gro.new hT, s2.tup hT, .tup (SqT.of upd_same) (.cons (.int _) (.cons (rv.mono (Gro.new hT) (Pre.refl _)) .nil))⟩
theorem zipF_get : ∀ (l m : List D) (j : Nat) (d : D), (zipF l m)[j]? = some d → ∃ f g, l[j]? = some f ∧ m[j]? = some g ∧ d = .tup [f, g]
  | [], _, j, d, h => by simp [zipF] at h
  | _ :: _, [], j, d, h => by simp [zipF] at h
  | x :: l, y :: m, 0, d, h => by simp [zipF] at h; exact ⟨x, y, rfl, rfl, h.symm⟩
  | x :: l, y :: m, j + 1, d, h => by
    simp only [zipF, List.getElem?_cons_succ] at h
    obtain ⟨f, g, h1, h2, h3⟩ := zipF_get l m j d h
    exact ⟨f, g, by simpa using h1, by simpa using h2, h3⟩
theorem zipF_len : ∀ (l m : List D), (zipF l m).length = min l.length m.length
  | [], m => by simp [zipF]
  | _ :: _, [] => by simp [zipF]
  | x :: l, y :: m => by simp only [zipF, List.length_cons, zipF_len l m]; omega
theorem it_zipL {K : PySem.W.Frag} {ρ : List Addr} {H : Hp} {n m : Nat} {A B : Addr} {ys zs : List D} (hA : ρ[n]? = some A) (hB : ρ[m]? = some B) : ItOk K ρ H (zipF ys zs) ([.tup [.ref n, .tup ys]] ++ [.tup [.ref m, .tup zs]]) (Itz K A B) := by
  intro ρ2 S2 H2 p2 g2 s2 hc i
  obtain ⟨hc1, hc2⟩ := chks_app hc
  obtain ⟨vs, hq, r⟩ := src_list (H := H) (S := S2) hA p2 s2 hc1
  obtain ⟨ws, hw, r2⟩ := src_list (H := H) (S := S2) hB p2 s2 hc2
  refine ⟨fun e => ⟨vs, ws, hq, hw, by rw [r.length, r2.length, e, zipF_len]; omega⟩, fun d hd => ?_⟩
  obtain ⟨f, g, hf, hg, ed⟩ := zipF_get ys zs i d hd
  obtain ⟨v, hv, rv⟩ := r.get hf
  obtain ⟨w, hv2, rv2⟩ := r2.get hg
  refine ⟨⟨vs, ws, v, w, hq, hw, hv, hv2⟩, fun x H3 hy => ?_⟩
  obtain ⟨T, y, z, ex, hT, eH, hx, hx2⟩ := hy
  have q := hx vs hq
  have q2 := hx2 ws hw
  rw [hv] at q
  rw [hv2] at q2
  cases q; cases q2
  subst ex; subst eH; subst ed
  exact ⟨Gro.new hT, s2.tup hT, .tup (SqT.of upd_same) (.cons (rv.mono (Gro.new hT) (Pre.refl _)) (.cons (rv2.mono (Gro.new hT) (Pre.refl _)) .nil))⟩
theorem it_zipT {K : PySem.W.Frag} {ρ : List Addr} {H : Hp} {A B : Addr} {vs ws : List V} {ys zs cks : List D} (hq : SqT K H A vs) (r : Reps K ρ H vs ys) (hw : SqT K H B ws) (r2 : Reps K ρ H ws zs) : ItOk K ρ H (zipF ys zs) cks (RZ.ItzT K A B) := by
  intro ρ2 S2 H2 p2 g2 s2 hc i
  have hq := g2.sqt hq
  have r := r.mono g2 p2
  have hw := g2.sqt hw
  have r2 := r2.mono g2 p2
  refine ⟨fun e => ⟨vs, ws, hq, hw, by rw [r.length, r2.length, e, zipF_len]; omega⟩, fun d hd => ?_⟩
  obtain ⟨f, g, hf, hg, ed⟩ := zipF_get ys zs i d hd
  obtain ⟨v, hv, rv⟩ := r.get hf
  obtain ⟨w, hv2, rv2⟩ := r2.get hg
  refine ⟨⟨vs, ws, v, w, hq, hw, hv, hv2⟩, fun x H3 hy => ?_⟩
  obtain ⟨T, y, z, ex, hT, eH, hx, hx2⟩ := hy
  have q := hx vs hq
  have q2 := hx2 ws hw
  rw [hv] at q
  rw [hv2] at q2
  cases q; cases q2
  subst ex; subst eH; subst ed
  exact ⟨Gro.new hT, s2.tup hT, .tup (SqT.of upd_same) (.cons (rv.mono (Gro.new hT) (Pre.refl _)) (.cons (rv2.mono (Gro.new hT) (Pre.refl _)) .nil))⟩
end
end Tm

set_option Elab.async false
set_option linter.all false
set_option maxRecDepth 100000
set_option maxHeartbeats 4000000
namespace Tm
open PySem PySem.Spec PyProof.Rows L2
/-! ## zip of a tuple and a text -/
def ItzTS (K : PySem.W.Frag) (a : Addr) (x : Str) : It where
  go := fun i H => ∃ (xs : List V) (y : V), SqT K H a xs ∧ xs[i]? = some y ∧ i < x.cps.size
  yld := fun i H v H' => ∃ (T : Addr) (y : V) (c : Nat), v = .ref T ∧ H T = none ∧ H' = upd H T (.tup [y, .str ⟨#[c]⟩]) ∧ (∀ xs, SqT K H a xs → xs[i]? = some y) ∧ x.cps[i]? = some c
  stop := fun i H => ∃ xs, SqT K H a xs ∧ i ≤ xs.length ∧ i ≤ x.cps.size ∧ (i = xs.length ∨ i = x.cps.size)
theorem istup_tuple {h : Heap} {a : Addr} {its : Array Value} (t : IsTup h a its) : h.IsTuple a its := by
  exact t
theorem sep2 {z TI TO i1 i2 a : Addr} (ap : ZipApart z TI TO i1 i2 a a) : ZipSep2 z TI TO i1 i2 [i1, a] [i2] where
  TIz := ap.TIz
  TOz := ap.TOz
  TITO := ap.TITO
  TIi1 := ap.TIi1
  mem1 := by simp
  zf1 := by simp [ap.i1z.symm, ap.l1z.symm]
  Tf1 := by simp [ap.TOi1, ap.l1TO.symm]
  TIi2 := ap.TIi2
  mem2 := by simp
  zf2 := by simp [ap.i2z.symm]
  Tf2 := by simp [ap.TOi2]
  sep1_2 := by simp [ap.i12]
  sep2_1 := by simp [ap.i12.symm, ap.l1i2.symm]
theorem turn_zipTS {P : Program} {w : World} {K : PySem.W.Frag} {elts : List Expr} {kk : Nat} {tpos : Pos} {a z TI TO i1 i2 : Addr} {x : Str} {t : Tok} (ap : ZipApart z TI TO i1 i2 a a) :
    Turn P w K (Expr.Tuple elts kk tpos) (ItzTS K a x) [z, TI, TO, i1, i2] z fun i h =>
      IsZip h z TI TO Value.none ∧ IsTupOf2 h TI (.ref i1) (.ref i2) ∧ (∃ u v, IsTupOf2 h TO u v) ∧ h.IsTupleIter i1 a i ∧ h.IsStrIter i2 (strIterType x) x t i where
  mem := by simp
  obj := by
    rintro i h ⟨h1, h2, ⟨u, v, h3⟩, ⟨o4, h4, c4, d4⟩, ⟨o5, h5, c5, d5⟩⟩ b hb
    simp only [List.mem_cons, List.not_mem_nil, or_false] at hb
    rcases hb with rfl | rfl | rfl | rfl | rfl
    · exact ⟨_, h1, fun v e => by cases e⟩
    · exact ⟨_, h2, fun v e => by cases e⟩
    · exact ⟨_, h3, fun v e => by cases e⟩
    · exact ⟨_, h4, fun v e => by rw [d4] at e; cases e⟩
    · exact ⟨_, h5, fun v e => by rw [d5] at e; cases e⟩
  keep := by
    rintro i h h' ⟨h1, h2, ⟨u, v, h3⟩, ⟨o4, h4, c4, d4⟩, ⟨o5, h5, c5, d5⟩⟩ k
    exact ⟨k _ (by simp) _ h1, k _ (by simp) _ h2, ⟨u, v, k _ (by simp) _ h3⟩, ⟨o4, k _ (by simp) _ h4, c4, d4⟩, ⟨o5, k _ (by simp) _ h5, c5, d5⟩⟩
  item := by
    rintro X rfl rfl rfl calm i pins s σ H E I fp ⟨h1, h2, ⟨u, v, h3⟩, h4, h5⟩ ⟨xs, y, hq, hy, hi⟩
    obtain ⟨its, rv, ht, hl⟩ := I.tuple hq
    have hd := I.ok.hd calm
    have D1 := Draws.tuple (prog := X.prog) (w := X.w) (A := X.A.in1) hd i1 a ap.l1i1 its.toArray
    have D2 := Draws.text (prog := X.prog) (w := X.w) (A := X.A.in1) hd i2 x t
    have hlen : i < its.toArray.size := by
      rw [List.size_toArray, ← rv.length]
      exact (List.getElem?_eq_some_iff.mp hy).1
    refine wpAny_pyNext_zipD2_item (sep2 ap) D1 D2 h1 h2 h3 ⟨h4, istup_tuple ht⟩ h5 hlen hi fun x1 x2 h' tk p1 p2 k1 k2 k3 k4 k5 k6 k7 => ?_
    obtain ⟨c, uu, hc, rfl⟩ := p2
    refine ⟨_, rfl, ?_⟩
    refine wpAny_letOwnedTupleGo_zip k1 fun h2' m1 m2 => ?_
    obtain ⟨y', hy', ry⟩ := rv.get hy
    have ex1 : y' = x1 := by
      rw [List.getElem?_toArray] at p1
      rw [p1] at hy'
      exact (Option.some.inj hy').symm
    subst ex1
    have mv : ∀ (b : Addr) (o : Obj), b ≠ z → h'.get? b = some o → h2'.get? b = some o := fun b o nb hb => (m2.2 b nb).trans hb
    have nz : s.heap.objs.size ≠ z := fun e => by have := Heap.lt_size h1; rw [← e] at this; exact absurd this (Nat.lt_irrefl _)
    have fT : H s.heap.objs.size = none := I.hok.fresh (Nat.le_refl _)
    refine ⟨.ref s.heap.objs.size, upd H s.heap.objs.size (.tup [y, .str ⟨#[c]⟩]), ?_, rfl, ⟨_, y, c, rfl, fT, rfl, fun ys hys => ?_, hc⟩, ⟨m1, ?_, ?_, ?_, ?_⟩, fun b hb => ?_⟩
    · refine I.turnedNew (ch := [z, TO, i1, i2]) (fun b o nb hb => ?_) (fun b hb => ?_) (Nat.le_refl _) ?_
      · simp only [List.mem_cons, List.not_mem_nil, or_false, not_or] at nb
        exact mv b o nb.1 (k7 b o nb.1 nb.2.1 nb.2.2.1 nb.2.2.2 hb)
      · simp only [List.mem_cons, List.not_mem_nil, or_false] at hb
        exact fp b (by simp only [List.mem_cons, List.not_mem_nil, or_false]; rcases hb with h | h | h | h <;> simp [h])
      · exact ⟨by show 2 ≤ sizeLine; decide, _, .cons ry (.cons ⟨uu, rfl⟩ .nil), ⟨_, mv _ _ nz k5, rfl, _, rfl⟩⟩
    · rw [I.tuple_inj hys hq]; exact hy
    · exact mv _ _ ap.TIz (k7 _ _ ap.TIz ap.TITO ap.TIi1 ap.TIi2 h2)
    · exact ⟨_, _, mv _ _ ap.TOz k2⟩
    · exact k3.1.at fun o ho => mv _ _ ap.i1z ho
    · obtain ⟨o, g1, g2, g3⟩ := k4
      exact ⟨o, mv _ _ ap.i2z g1, g2, g3⟩
    · have hne : b ≠ s.heap.objs.size := by
        have hlt : b < s.heap.objs.size := by
          simp only [List.mem_cons, List.not_mem_nil, or_false] at hb
          obtain ⟨o4, q4, _⟩ := h4
          obtain ⟨o5, q5, _⟩ := h5
          rcases hb with rfl | rfl | rfl | rfl | rfl
          · exact Heap.lt_size h1
          · exact Heap.lt_size h2
          · exact Heap.lt_size h3
          · exact Heap.lt_size q4
          · exact Heap.lt_size q5
        exact Nat.ne_of_lt hlt
      rw [upd_ne hne]
      exact (fp b hb).1
  done := by
    rintro X rfl rfl rfl calm i pins s σ H E I fp ⟨h1, h2, ⟨u, v, h3⟩, h4, h5⟩ ⟨xs, hq, hl1, hl2, hor⟩
    obtain ⟨its, rv, ht, hl⟩ := I.tuple hq
    have hd := I.ok.hd calm
    have D1 := Draws.tuple (prog := X.prog) (w := X.w) (A := X.A.in1) hd i1 a ap.l1i1 its.toArray
    have D2 := Draws.text (prog := X.prog) (w := X.w) (A := X.A.in1) hd i2 x t
    have hs : its.toArray.size = xs.length := by rw [List.size_toArray, ← rv.length]
    refine wpAny_pyNext_zipD2_end (sep2 ap) D1 D2 h1 h2 h3 ⟨h4, istup_tuple ht⟩ h5 (by omega) hl2 (by omega) fun h' tk k => ⟨rfl, ?_⟩
    refine I.turnedL (ch := [z, TO, i1, i2]) (fun b o nb hb => ?_) (fun b hb => ?_)
    · simp only [List.mem_cons, List.not_mem_nil, or_false, not_or] at nb
      exact k b o nb.1 nb.2.1 nb.2.2.1 nb.2.2.2 hb
    · simp only [List.mem_cons, List.not_mem_nil, or_false] at hb
      exact fp b (by simp only [List.mem_cons, List.not_mem_nil, or_false]; rcases hb with h | h | h | h <;> simp [h])
  self := by
    rintro A i s Q E ⟨h1, _⟩ q
    exact wpAny_pyIter_zip h1 q

theorem apart5 (n a : Nat) (h : a < n) : ZipApart (n + 4) (n + 2) (n + 3) n (n + 1) a a :=
  ⟨(by omega : ¬ ((n + 2 : Nat) = n + 4)), (by omega : ¬ ((n + 3 : Nat) = n + 4)), (by omega : ¬ ((n : Nat) = n + 4)), (by omega : ¬ ((n + 1 : Nat) = n + 4)), (by omega : ¬ ((n + 2 : Nat) = n + 3)), (by omega : ¬ ((n + 2 : Nat) = n)), (by omega : ¬ ((n + 2 : Nat) = n + 1)), (by omega : ¬ ((n + 3 : Nat) = n)), (by omega : ¬ ((n + 3 : Nat) = n + 1)), (by omega : ¬ ((n : Nat) = n + 1)), (by omega : ¬ ((a : Nat) = n + 4)), (by omega : ¬ ((a : Nat) = n + 3)), (by omega : ¬ ((a : Nat) = n)), (by omega : ¬ ((a : Nat) = n + 1)), (by omega : ¬ ((a : Nat) = n + 4)), (by omega : ¬ ((a : Nat) = n + 3)), (by omega : ¬ ((a : Nat) = n)), (by omega : ¬ ((a : Nat) = n + 1))⟩
def iZipTS (K : PySem.W.Frag) (ta : TA) : TI := fun σ H R => ta σ H fun vs H1 => ∃ (a : Addr) (xs : List V) (x : Str), vs = [.ref a, .str x] ∧ SqT K H1 a xs ∧ R (ItzTS K a x) H1
theorem pi_zipTS {X : Cx} {e e2 : Expr} {ta : TA} {p pos tpos : Pos} {elts : List Expr} {kk : Nat} (g1 : Gl X "zip") (g2 : X.mg "zip" = none) (ha : PA X [e, e2] ta)
    (hs : starEach [e, e2] X.env = (false, eval e X.env) :: starEach [e2] X.env) (hs2 : ((backTo pos (starEach [e2] X.env)).any fun x => x.1) = false) :
    PI X (.Tuple elts kk tpos) (.Call (.Name "zip" p) [e, e2] [] pos) (iZipTS X.K ta) := by
  refine ⟨fun pins s σ H R I h => ?_⟩
  refine Call_ (ld_blt I g1 g2 boot_zip ?_)
  refine PyProof.Rows.callWith_type1 (T := "zip") (e := e) (rest := [e2]) ?_ hs hs2
  refine thn (ha.run pos pins s σ H _ I h) fun us s1 hh => ?_
  obtain ⟨vs, H1, I1, rv, a, xs, x, ev', hq, r⟩ := hh
  subst ev'
  obtain ⟨its, ri, ht, hl⟩ := I1.tuple hq
  match us, rv with
  | [u1, u2], .cons q1 (.cons q2 .nil) =>
    cases q1
    obtain ⟨t, rfl⟩ := q2
    refine zip_begins2 (begins_tuple a its.toArray) (begins_text x t) (istup_tuple ht) trivial fun h' k1 k2 k3 k4 k5 k6 k7 => ?_
    refine wpAny_pyIter_zip k1 ?_
    have la : a < s1.heap.objs.size := by
      obtain ⟨o, g, _⟩ := ht
      exact Heap.lt_size g
    have I2 := I1.kept (h' := h') (t' := s1.toks) (fun b u hb => k7 b u hb)
    have fpk : ∀ b, s1.heap.objs.size ≤ b → FpOk X pins H1 b := fun b hb => I1.fpOk hb (I1.hok.fresh hb)
    refine ⟨_, [s1.heap.objs.size + 4, s1.heap.objs.size + 2, s1.heap.objs.size + 3, s1.heap.objs.size, s1.heap.objs.size + 1], _, ItzTS X.K a x, H1, rfl, I2,
      turn_zipTS (a := a) (x := x) (t := t) (z := s1.heap.objs.size + 4) (TI := s1.heap.objs.size + 2) (TO := s1.heap.objs.size + 3) (i1 := s1.heap.objs.size) (i2 := s1.heap.objs.size + 1)
        (apart5 s1.heap.objs.size a la),
      ⟨k1, k2, ⟨_, _, k3⟩, ⟨_, k4, rfl, rfl⟩, ⟨_, k5, rfl, rfl⟩⟩, fun b hb => ?_, r⟩
    simp only [List.mem_cons, List.not_mem_nil, or_false] at hb
    rcases hb with rfl | rfl | rfl | rfl | rfl
    · exact fpk _ (Nat.le_add_right _ _)
    · exact fpk _ (Nat.le_add_right _ _)
    · exact fpk _ (Nat.le_add_right _ _)
    · exact fpk _ (Nat.le_refl _)
    · exact fpk _ (Nat.le_add_right _ _)
theorem it_zipTS {K : PySem.W.Frag} {ρ : List Addr} {H : Hp} {A : Addr} {vs : List V} {ys cks : List D} {x : Str} (hq : SqT K H A vs) (r : Reps K ρ H vs ys) :
    ItOk K ρ H (zipF ys (x.cps.toList.map fun c => D.str ⟨#[c]⟩)) cks (ItzTS K A x) := by
  intro ρ2 S2 H2 p2 g2 s2 hc i
  have hq := g2.sqt hq
  have r := r.mono g2 p2
  refine ⟨fun e => ⟨vs, hq, ?_⟩, fun d hd => ?_⟩
  · rw [zipF_len] at e
    simp only [List.length_map, Array.length_toList] at e
    rw [r.length]; omega
  obtain ⟨f, g, hf, hg, ed⟩ := zipF_get ys _ i d hd
  obtain ⟨v, hv, rv⟩ := r.get hf
  rw [List.getElem?_map] at hg
  cases hx : x.cps.toList[i]? with
  | none => rw [hx] at hg; cases hg
  | some c =>
    rw [hx] at hg
    simp only [Option.map_some, Option.some.injEq] at hg
    subst hg
    have hx' : x.cps[i]? = some c := by rw [← Array.getElem?_toList]; exact hx
    have hi : i < x.cps.size := by
      have := (List.getElem?_eq_some_iff.mp hx).1
      simpa using this
    refine ⟨⟨vs, v, hq, hv, hi⟩, fun u H3 hy => ?_⟩
    obtain ⟨T, y, c', ex, hT, eH, hy1, hy2⟩ := hy
    have q := hy1 vs hq
    rw [hv] at q
    rw [hx'] at hy2
    cases q; cases hy2
    subst ex; subst eH; subst ed
    exact ⟨Gro.new hT, s2.tup hT, .tup (SqT.of upd_same) (.cons (rv.mono (Gro.new hT) (Pre.refl _)) (.cons (.str _) .nil))⟩
end Tm

set_option Elab.async false
set_option linter.all false
set_option maxRecDepth 100000
set_option maxHeartbeats 4000000
namespace Tm
open PySem PySem.Spec PyProof.Rows L2
/-! ## zip of a list and a text -/
def ItzLS (K : PySem.W.Frag) (a : Addr) (x : Str) : It where
  go := fun i H => ∃ (xs : List V) (y : V), SqL K H a xs ∧ xs[i]? = some y ∧ i < x.cps.size
  yld := fun i H v H' => ∃ (T : Addr) (y : V) (c : Nat), v = .ref T ∧ H T = none ∧ H' = upd H T (.tup [y, .str ⟨#[c]⟩]) ∧ (∀ xs, SqL K H a xs → xs[i]? = some y) ∧ x.cps[i]? = some c
  stop := fun i H => ∃ xs, SqL K H a xs ∧ i ≤ xs.length ∧ i ≤ x.cps.size ∧ (i = xs.length ∨ i = x.cps.size)
theorem turn_zipLS {P : Program} {w : World} {K : PySem.W.Frag} {elts : List Expr} {kk : Nat} {tpos : Pos} {a z TI TO i1 i2 : Addr} {x : Str} {t : Tok} (ap : ZipApart z TI TO i1 i2 a a) :
    Turn P w K (Expr.Tuple elts kk tpos) (ItzLS K a x) [z, TI, TO, i1, i2] z fun i h =>
      IsZip h z TI TO Value.none ∧ IsTupOf2 h TI (.ref i1) (.ref i2) ∧ (∃ u v, IsTupOf2 h TO u v) ∧ h.IsListIter i1 a i ∧ h.IsStrIter i2 (strIterType x) x t i where
  mem := by simp
  obj := by
    rintro i h ⟨h1, h2, ⟨u, v, h3⟩, ⟨o4, h4, c4, d4⟩, ⟨o5, h5, c5, d5⟩⟩ b hb
    simp only [List.mem_cons, List.not_mem_nil, or_false] at hb
    rcases hb with rfl | rfl | rfl | rfl | rfl
    · exact ⟨_, h1, fun v e => by cases e⟩
    · exact ⟨_, h2, fun v e => by cases e⟩
    · exact ⟨_, h3, fun v e => by cases e⟩
    · exact ⟨_, h4, fun v e => by rw [d4] at e; cases e⟩
    · exact ⟨_, h5, fun v e => by rw [d5] at e; cases e⟩
  keep := by
    rintro i h h' ⟨h1, h2, ⟨u, v, h3⟩, ⟨o4, h4, c4, d4⟩, ⟨o5, h5, c5, d5⟩⟩ k
    exact ⟨k _ (by simp) _ h1, k _ (by simp) _ h2, ⟨u, v, k _ (by simp) _ h3⟩, ⟨o4, k _ (by simp) _ h4, c4, d4⟩, ⟨o5, k _ (by simp) _ h5, c5, d5⟩⟩
  item := by
    rintro X rfl rfl rfl calm i pins s σ H E I fp ⟨h1, h2, ⟨u, v, h3⟩, h4, h5⟩ ⟨xs, y, hq, hy, hi⟩
    obtain ⟨its, rv, ht, hl⟩ := I.list hq
    have hd := I.ok.hd calm
    have D1 := Draws.list (prog := X.prog) (w := X.w) (A := X.A.in1) hd i1 a ap.l1i1 its.toArray
    have D2 := Draws.text (prog := X.prog) (w := X.w) (A := X.A.in1) hd i2 x t
    have hlen : i < its.toArray.size := by
      rw [List.size_toArray, ← rv.length]
      exact (List.getElem?_eq_some_iff.mp hy).1
    refine wpAny_pyNext_zipD2_item (sep2 ap) D1 D2 h1 h2 h3 ⟨h4, ht.isList⟩ h5 hlen hi fun x1 x2 h' tk p1 p2 k1 k2 k3 k4 k5 k6 k7 => ?_
    obtain ⟨c, uu, hc, rfl⟩ := p2
    refine ⟨_, rfl, ?_⟩
    refine wpAny_letOwnedTupleGo_zip k1 fun h2' m1 m2 => ?_
    obtain ⟨y', hy', ry⟩ := rv.get hy
    have ex1 : y' = x1 := by
      rw [List.getElem?_toArray] at p1
      rw [p1] at hy'
      exact (Option.some.inj hy').symm
    subst ex1
    have mv : ∀ (b : Addr) (o : Obj), b ≠ z → h'.get? b = some o → h2'.get? b = some o := fun b o nb hb => (m2.2 b nb).trans hb
    have nz : s.heap.objs.size ≠ z := fun e => by have := Heap.lt_size h1; rw [← e] at this; exact absurd this (Nat.lt_irrefl _)
    have fT : H s.heap.objs.size = none := I.hok.fresh (Nat.le_refl _)
    refine ⟨.ref s.heap.objs.size, upd H s.heap.objs.size (.tup [y, .str ⟨#[c]⟩]), ?_, rfl, ⟨_, y, c, rfl, fT, rfl, fun ys hys => ?_, hc⟩, ⟨m1, ?_, ?_, ?_, ?_⟩, fun b hb => ?_⟩
    · refine I.turnedNew (ch := [z, TO, i1, i2]) (fun b o nb hb => ?_) (fun b hb => ?_) (Nat.le_refl _) ?_
      · simp only [List.mem_cons, List.not_mem_nil, or_false, not_or] at nb
        exact mv b o nb.1 (k7 b o nb.1 nb.2.1 nb.2.2.1 nb.2.2.2 hb)
      · simp only [List.mem_cons, List.not_mem_nil, or_false] at hb
        exact fp b (by simp only [List.mem_cons, List.not_mem_nil, or_false]; rcases hb with h | h | h | h <;> simp [h])
      · exact ⟨by show 2 ≤ sizeLine; decide, _, .cons ry (.cons ⟨uu, rfl⟩ .nil), ⟨_, mv _ _ nz k5, rfl, _, rfl⟩⟩
    · rw [I.list_inj hys hq]; exact hy
    · exact mv _ _ ap.TIz (k7 _ _ ap.TIz ap.TITO ap.TIi1 ap.TIi2 h2)
    · exact ⟨_, _, mv _ _ ap.TOz k2⟩
    · exact k3.1.at fun o ho => mv _ _ ap.i1z ho
    · obtain ⟨o, g1, g2, g3⟩ := k4
      exact ⟨o, mv _ _ ap.i2z g1, g2, g3⟩
    · have hne : b ≠ s.heap.objs.size := by
        have hlt : b < s.heap.objs.size := by
          simp only [List.mem_cons, List.not_mem_nil, or_false] at hb
          obtain ⟨o4, q4, _⟩ := h4
          obtain ⟨o5, q5, _⟩ := h5
          rcases hb with rfl | rfl | rfl | rfl | rfl
          · exact Heap.lt_size h1
          · exact Heap.lt_size h2
          · exact Heap.lt_size h3
          · exact Heap.lt_size q4
          · exact Heap.lt_size q5
        exact Nat.ne_of_lt hlt
      rw [upd_ne hne]
      exact (fp b hb).1
  done := by
    rintro X rfl rfl rfl calm i pins s σ H E I fp ⟨h1, h2, ⟨u, v, h3⟩, h4, h5⟩ ⟨xs, hq, hl1, hl2, hor⟩
    obtain ⟨its, rv, ht, hl⟩ := I.list hq
    have hd := I.ok.hd calm
    have D1 := Draws.list (prog := X.prog) (w := X.w) (A := X.A.in1) hd i1 a ap.l1i1 its.toArray
    have D2 := Draws.text (prog := X.prog) (w := X.w) (A := X.A.in1) hd i2 x t
    have hs : its.toArray.size = xs.length := by rw [List.size_toArray, ← rv.length]
    refine wpAny_pyNext_zipD2_end (sep2 ap) D1 D2 h1 h2 h3 ⟨h4, ht.isList⟩ h5 (by omega) hl2 (by omega) fun h' tk k => ⟨rfl, ?_⟩
    refine I.turnedL (ch := [z, TO, i1, i2]) (fun b o nb hb => ?_) (fun b hb => ?_)
    · simp only [List.mem_cons, List.not_mem_nil, or_false, not_or] at nb
      exact k b o nb.1 nb.2.1 nb.2.2.1 nb.2.2.2 hb
    · simp only [List.mem_cons, List.not_mem_nil, or_false] at hb
      exact fp b (by simp only [List.mem_cons, List.not_mem_nil, or_false]; rcases hb with h | h | h | h <;> simp [h])
  self := by
    rintro A i s Q E ⟨h1, _⟩ q
    exact wpAny_pyIter_zip h1 q

def iZipLS (K : PySem.W.Frag) (ta : TA) : TI := fun σ H R => ta σ H fun vs H1 => ∃ (a : Addr) (xs : List V) (x : Str), vs = [.ref a, .str x] ∧ SqL K H1 a xs ∧ R (ItzLS K a x) H1
theorem pi_zipLS {X : Cx} {e e2 : Expr} {ta : TA} {p pos tpos : Pos} {elts : List Expr} {kk : Nat} (g1 : Gl X "zip") (g2 : X.mg "zip" = none) (ha : PA X [e, e2] ta)
    (hs : starEach [e, e2] X.env = (false, eval e X.env) :: starEach [e2] X.env) (hs2 : ((backTo pos (starEach [e2] X.env)).any fun x => x.1) = false) :
    PI X (.Tuple elts kk tpos) (.Call (.Name "zip" p) [e, e2] [] pos) (iZipLS X.K ta) := by
  refine ⟨fun pins s σ H R I h => ?_⟩
  refine Call_ (ld_blt I g1 g2 boot_zip ?_)
  refine PyProof.Rows.callWith_type1 (T := "zip") (e := e) (rest := [e2]) ?_ hs hs2
  refine thn (ha.run pos pins s σ H _ I h) fun us s1 hh => ?_
  obtain ⟨vs, H1, I1, rv, a, xs, x, ev', hq, r⟩ := hh
  subst ev'
  obtain ⟨its, ri, ht, hl⟩ := I1.list hq
  match us, rv with
  | [u1, u2], .cons q1 (.cons q2 .nil) =>
    cases q1
    obtain ⟨t, rfl⟩ := q2
    refine zip_begins2 (begins_list a its.toArray) (begins_text x t) (ht.isList) trivial fun h' k1 k2 k3 k4 k5 k6 k7 => ?_
    refine wpAny_pyIter_zip k1 ?_
    have la : a < s1.heap.objs.size := by
      obtain ⟨o, g, _⟩ := ht.isList
      exact Heap.lt_size g
    have I2 := I1.kept (h' := h') (t' := s1.toks) (fun b u hb => k7 b u hb)
    have fpk : ∀ b, s1.heap.objs.size ≤ b → FpOk X pins H1 b := fun b hb => I1.fpOk hb (I1.hok.fresh hb)
    refine ⟨_, [s1.heap.objs.size + 4, s1.heap.objs.size + 2, s1.heap.objs.size + 3, s1.heap.objs.size, s1.heap.objs.size + 1], _, ItzLS X.K a x, H1, rfl, I2,
      turn_zipLS (a := a) (x := x) (t := t) (z := s1.heap.objs.size + 4) (TI := s1.heap.objs.size + 2) (TO := s1.heap.objs.size + 3) (i1 := s1.heap.objs.size) (i2 := s1.heap.objs.size + 1)
        (apart5 s1.heap.objs.size a la),
      ⟨k1, k2, ⟨_, _, k3⟩, ⟨_, k4, rfl, rfl⟩, ⟨_, k5, rfl, rfl⟩⟩, fun b hb => ?_, r⟩
    simp only [List.mem_cons, List.not_mem_nil, or_false] at hb
    rcases hb with rfl | rfl | rfl | rfl | rfl
    · exact fpk _ (Nat.le_add_right _ _)
    · exact fpk _ (Nat.le_add_right _ _)
    · exact fpk _ (Nat.le_add_right _ _)
    · exact fpk _ (Nat.le_refl _)
    · exact fpk _ (Nat.le_add_right _ _)
theorem it_zipLS {K : PySem.W.Frag} {ρ : List Addr} {H : Hp} {n : Nat} {A : Addr} {ys : List D} {x : Str} (hA : ρ[n]? = some A) :
    ItOk K ρ H (zipF ys (x.cps.toList.map fun c => D.str ⟨#[c]⟩)) [.tup [.ref n, .tup ys]] (ItzLS K A x) := by
  intro ρ2 S2 H2 p2 g2 s2 hc i
  obtain ⟨vs, hq, r⟩ := src_list (H := H) (S := S2) hA p2 s2 hc
  refine ⟨fun e => ⟨vs, hq, ?_⟩, fun d hd => ?_⟩
  · rw [zipF_len] at e
    simp only [List.length_map, Array.length_toList] at e
    rw [r.length]; omega
  obtain ⟨f, g, hf, hg, ed⟩ := zipF_get ys _ i d hd
  obtain ⟨v, hv, rv⟩ := r.get hf
  rw [List.getElem?_map] at hg
  cases hx : x.cps.toList[i]? with
  | none => rw [hx] at hg; cases hg
  | some c =>
    rw [hx] at hg
    simp only [Option.map_some, Option.some.injEq] at hg
    subst hg
    have hx' : x.cps[i]? = some c := by rw [← Array.getElem?_toList]; exact hx
    have hi : i < x.cps.size := by
      have := (List.getElem?_eq_some_iff.mp hx).1
      simpa using this
    refine ⟨⟨vs, v, hq, hv, hi⟩, fun u H3 hy => ?_⟩
    obtain ⟨T, y, c', ex, hT, eH, hy1, hy2⟩ := hy
    have q := hy1 vs hq
    rw [hv] at q
    rw [hx'] at hy2
    cases q; cases hy2
    subst ex; subst eH; subst ed
    exact ⟨Gro.new hT, s2.tup hT, .tup (SqT.of upd_same) (.cons (rv.mono (Gro.new hT) (Pre.refl _)) (.cons (.str _) .nil))⟩
end Tm

set_option Elab.async false
set_option linter.all false
set_option maxRecDepth 100000
set_option maxHeartbeats 4000000
namespace Tm
open PySem PySem.Spec PyProof.Rows L2
/-! ## zip of a text and a tuple -/
def ItzST (K : PySem.W.Frag) (a : Addr) (x : Str) : It where
  go := fun i H => ∃ (xs : List V) (y : V), SqT K H a xs ∧ xs[i]? = some y ∧ i < x.cps.size
  yld := fun i H v H' => ∃ (T : Addr) (y : V) (c : Nat), v = .ref T ∧ H T = none ∧ H' = upd H T (.tup [.str ⟨#[c]⟩, y]) ∧ (∀ xs, SqT K H a xs → xs[i]? = some y) ∧ x.cps[i]? = some c
  stop := fun i H => ∃ xs, SqT K H a xs ∧ i ≤ xs.length ∧ i ≤ x.cps.size ∧ (i = xs.length ∨ i = x.cps.size)
theorem sep2t {z TI TO i1 i2 a : Addr} (ap : ZipApart z TI TO i1 i2 a a) : ZipSep2 z TI TO i1 i2 [i1] [i2, a] where
  TIz := ap.TIz
  TOz := ap.TOz
  TITO := ap.TITO
  TIi1 := ap.TIi1
  mem1 := by simp
  zf1 := by simp [ap.i1z.symm]
  Tf1 := by simp [ap.TOi1]
  TIi2 := ap.TIi2
  mem2 := by simp
  zf2 := by simp [ap.i2z.symm, ap.l1z.symm]
  Tf2 := by simp [ap.TOi2, ap.l1TO.symm]
  sep1_2 := by simp [ap.i12, ap.l1i1.symm]
  sep2_1 := by simp [ap.i12.symm, ap.l1i1]
theorem turn_zipST {P : Program} {w : World} {K : PySem.W.Frag} {elts : List Expr} {kk : Nat} {tpos : Pos} {a z TI TO i1 i2 : Addr} {x : Str} {t : Tok} (ap : ZipApart z TI TO i1 i2 a a) :
    Turn P w K (Expr.Tuple elts kk tpos) (ItzST K a x) [z, TI, TO, i1, i2] z fun i h =>
      IsZip h z TI TO Value.none ∧ IsTupOf2 h TI (.ref i1) (.ref i2) ∧ (∃ u v, IsTupOf2 h TO u v) ∧ h.IsStrIter i1 (strIterType x) x t i ∧ h.IsTupleIter i2 a i where
  mem := by simp
  obj := by
    rintro i h ⟨h1, h2, ⟨u, v, h3⟩, ⟨o4, h4, c4, d4⟩, ⟨o5, h5, c5, d5⟩⟩ b hb
    simp only [List.mem_cons, List.not_mem_nil, or_false] at hb
    rcases hb with rfl | rfl | rfl | rfl | rfl
    · exact ⟨_, h1, fun v e => by cases e⟩
    · exact ⟨_, h2, fun v e => by cases e⟩
    · exact ⟨_, h3, fun v e => by cases e⟩
    · exact ⟨_, h4, fun v e => by rw [d4] at e; cases e⟩
    · exact ⟨_, h5, fun v e => by rw [d5] at e; cases e⟩
  keep := by
    rintro i h h' ⟨h1, h2, ⟨u, v, h3⟩, ⟨o4, h4, c4, d4⟩, ⟨o5, h5, c5, d5⟩⟩ k
    exact ⟨k _ (by simp) _ h1, k _ (by simp) _ h2, ⟨u, v, k _ (by simp) _ h3⟩, ⟨o4, k _ (by simp) _ h4, c4, d4⟩, ⟨o5, k _ (by simp) _ h5, c5, d5⟩⟩
  item := by
    rintro X rfl rfl rfl calm i pins s σ H E I fp ⟨h1, h2, ⟨u, v, h3⟩, h4, h5⟩ ⟨xs, y, hq, hy, hi⟩
    obtain ⟨its, rv, ht, hl⟩ := I.tuple hq
    have hd := I.ok.hd calm
    have D2 := Draws.tuple (prog := X.prog) (w := X.w) (A := X.A.in1) hd i2 a ap.l1i2 its.toArray
    have D1 := Draws.text (prog := X.prog) (w := X.w) (A := X.A.in1) hd i1 x t
    have hlen : i < its.toArray.size := by
      rw [List.size_toArray, ← rv.length]
      exact (List.getElem?_eq_some_iff.mp hy).1
    refine wpAny_pyNext_zipD2_item (sep2t ap) D1 D2 h1 h2 h3 h4 ⟨h5, istup_tuple ht⟩ hi hlen fun x1 x2 h' tk p1 p2 k1 k2 k3 k4 k5 k6 k7 => ?_
    obtain ⟨c, uu, hc, rfl⟩ := p1
    refine ⟨_, rfl, ?_⟩
    refine wpAny_letOwnedTupleGo_zip k1 fun h2' m1 m2 => ?_
    obtain ⟨y', hy', ry⟩ := rv.get hy
    have ex1 : y' = x2 := by
      rw [List.getElem?_toArray] at p2
      rw [p2] at hy'
      exact (Option.some.inj hy').symm
    subst ex1
    have mv : ∀ (b : Addr) (o : Obj), b ≠ z → h'.get? b = some o → h2'.get? b = some o := fun b o nb hb => (m2.2 b nb).trans hb
    have nz : s.heap.objs.size ≠ z := fun e => by have := Heap.lt_size h1; rw [← e] at this; exact absurd this (Nat.lt_irrefl _)
    have fT : H s.heap.objs.size = none := I.hok.fresh (Nat.le_refl _)
    refine ⟨.ref s.heap.objs.size, upd H s.heap.objs.size (.tup [.str ⟨#[c]⟩, y]), ?_, rfl, ⟨_, y, c, rfl, fT, rfl, fun ys hys => ?_, hc⟩, ⟨m1, ?_, ?_, ?_, ?_⟩, fun b hb => ?_⟩
    · refine I.turnedNew (ch := [z, TO, i1, i2]) (fun b o nb hb => ?_) (fun b hb => ?_) (Nat.le_refl _) ?_
      · simp only [List.mem_cons, List.not_mem_nil, or_false, not_or] at nb
        exact mv b o nb.1 (k7 b o nb.1 nb.2.1 nb.2.2.1 nb.2.2.2 hb)
      · simp only [List.mem_cons, List.not_mem_nil, or_false] at hb
        exact fp b (by simp only [List.mem_cons, List.not_mem_nil, or_false]; rcases hb with h | h | h | h <;> simp [h])
      · exact ⟨by show 2 ≤ sizeLine; decide, _, .cons ⟨uu, rfl⟩ (.cons ry .nil), ⟨_, mv _ _ nz k5, rfl, _, rfl⟩⟩
    · rw [I.tuple_inj hys hq]; exact hy
    · exact mv _ _ ap.TIz (k7 _ _ ap.TIz ap.TITO ap.TIi1 ap.TIi2 h2)
    · exact ⟨_, _, mv _ _ ap.TOz k2⟩
    · obtain ⟨o, g1, g2, g3⟩ := k3
      exact ⟨o, mv _ _ ap.i1z g1, g2, g3⟩
    · exact k4.1.at fun o ho => mv _ _ ap.i2z ho
    · have hne : b ≠ s.heap.objs.size := by
        have hlt : b < s.heap.objs.size := by
          simp only [List.mem_cons, List.not_mem_nil, or_false] at hb
          obtain ⟨o4, q4, _⟩ := h4
          obtain ⟨o5, q5, _⟩ := h5
          rcases hb with rfl | rfl | rfl | rfl | rfl
          · exact Heap.lt_size h1
          · exact Heap.lt_size h2
          · exact Heap.lt_size h3
          · exact Heap.lt_size q4
          · exact Heap.lt_size q5
        exact Nat.ne_of_lt hlt
      rw [upd_ne hne]
      exact (fp b hb).1
  done := by
    rintro X rfl rfl rfl calm i pins s σ H E I fp ⟨h1, h2, ⟨u, v, h3⟩, h4, h5⟩ ⟨xs, hq, hl1, hl2, hor⟩
    obtain ⟨its, rv, ht, hl⟩ := I.tuple hq
    have hd := I.ok.hd calm
    have D2 := Draws.tuple (prog := X.prog) (w := X.w) (A := X.A.in1) hd i2 a ap.l1i2 its.toArray
    have D1 := Draws.text (prog := X.prog) (w := X.w) (A := X.A.in1) hd i1 x t
    have hs : its.toArray.size = xs.length := by rw [List.size_toArray, ← rv.length]
    refine wpAny_pyNext_zipD2_end (sep2t ap) D1 D2 h1 h2 h3 h4 ⟨h5, istup_tuple ht⟩ hl2 (by omega) (by omega) fun h' tk k => ⟨rfl, ?_⟩
    refine I.turnedL (ch := [z, TO, i1, i2]) (fun b o nb hb => ?_) (fun b hb => ?_)
    · simp only [List.mem_cons, List.not_mem_nil, or_false, not_or] at nb
      exact k b o nb.1 nb.2.1 nb.2.2.1 nb.2.2.2 hb
    · simp only [List.mem_cons, List.not_mem_nil, or_false] at hb
      exact fp b (by simp only [List.mem_cons, List.not_mem_nil, or_false]; rcases hb with h | h | h | h <;> simp [h])
  self := by
    rintro A i s Q E ⟨h1, _⟩ q
    exact wpAny_pyIter_zip h1 q

def iZipST (K : PySem.W.Frag) (ta : TA) : TI := fun σ H R => ta σ H fun vs H1 => ∃ (a : Addr) (xs : List V) (x : Str), vs = [.str x, .ref a] ∧ SqT K H1 a xs ∧ R (ItzST K a x) H1
theorem pi_zipST {X : Cx} {e e2 : Expr} {ta : TA} {p pos tpos : Pos} {elts : List Expr} {kk : Nat} (g1 : Gl X "zip") (g2 : X.mg "zip" = none) (ha : PA X [e, e2] ta)
    (hs : starEach [e, e2] X.env = (false, eval e X.env) :: starEach [e2] X.env) (hs2 : ((backTo pos (starEach [e2] X.env)).any fun x => x.1) = false) :
    PI X (.Tuple elts kk tpos) (.Call (.Name "zip" p) [e, e2] [] pos) (iZipST X.K ta) := by
  refine ⟨fun pins s σ H R I h => ?_⟩
  refine Call_ (ld_blt I g1 g2 boot_zip ?_)
  refine PyProof.Rows.callWith_type1 (T := "zip") (e := e) (rest := [e2]) ?_ hs hs2
  refine thn (ha.run pos pins s σ H _ I h) fun us s1 hh => ?_
  obtain ⟨vs, H1, I1, rv, a, xs, x, ev', hq, r⟩ := hh
  subst ev'
  obtain ⟨its, ri, ht, hl⟩ := I1.tuple hq
  match us, rv with
  | [u1, u2], .cons q1 (.cons q2 .nil) =>
    cases q2
    obtain ⟨t, rfl⟩ := q1
    refine zip_begins2 (begins_text x t) (begins_tuple a its.toArray) trivial (istup_tuple ht) fun h' k1 k2 k3 k4 k5 k6 k7 => ?_
    refine wpAny_pyIter_zip k1 ?_
    have la : a < s1.heap.objs.size := by
      obtain ⟨o, g, _⟩ := ht
      exact Heap.lt_size g
    have I2 := I1.kept (h' := h') (t' := s1.toks) (fun b u hb => k7 b u hb)
    have fpk : ∀ b, s1.heap.objs.size ≤ b → FpOk X pins H1 b := fun b hb => I1.fpOk hb (I1.hok.fresh hb)
    refine ⟨_, [s1.heap.objs.size + 4, s1.heap.objs.size + 2, s1.heap.objs.size + 3, s1.heap.objs.size, s1.heap.objs.size + 1], _, ItzST X.K a x, H1, rfl, I2,
      turn_zipST (a := a) (x := x) (t := t) (z := s1.heap.objs.size + 4) (TI := s1.heap.objs.size + 2) (TO := s1.heap.objs.size + 3) (i1 := s1.heap.objs.size) (i2 := s1.heap.objs.size + 1)
        (apart5 s1.heap.objs.size a la),
      ⟨k1, k2, ⟨_, _, k3⟩, ⟨_, k4, rfl, rfl⟩, ⟨_, k5, rfl, rfl⟩⟩, fun b hb => ?_, r⟩
    simp only [List.mem_cons, List.not_mem_nil, or_false] at hb
    rcases hb with rfl | rfl | rfl | rfl | rfl
    · exact fpk _ (Nat.le_add_right _ _)
    · exact fpk _ (Nat.le_add_right _ _)
    · exact fpk _ (Nat.le_add_right _ _)
    · exact fpk _ (Nat.le_refl _)
    · exact fpk _ (Nat.le_add_right _ _)
theorem it_zipST {K : PySem.W.Frag} {ρ : List Addr} {H : Hp} {A : Addr} {vs : List V} {ys cks : List D} {x : Str} (hq : SqT K H A vs) (r : Reps K ρ H vs ys) :
    ItOk K ρ H (zipF (x.cps.toList.map fun c => D.str ⟨#[c]⟩) ys) cks (ItzST K A x) := by
  intro ρ2 S2 H2 p2 g2 s2 hc i
  have hq := g2.sqt hq
  have r := r.mono g2 p2
  refine ⟨fun e => ⟨vs, hq, ?_⟩, fun d hd => ?_⟩
  · rw [zipF_len] at e
    simp only [List.length_map, Array.length_toList] at e
    rw [r.length]; omega
  obtain ⟨g, f, hg, hf, ed⟩ := zipF_get _ ys i d hd
  obtain ⟨v, hv, rv⟩ := r.get hf
  rw [List.getElem?_map] at hg
  cases hx : x.cps.toList[i]? with
  | none => rw [hx] at hg; cases hg
  | some c =>
    rw [hx] at hg
    simp only [Option.map_some, Option.some.injEq] at hg
    subst hg
    have hx' : x.cps[i]? = some c := by rw [← Array.getElem?_toList]; exact hx
    have hi : i < x.cps.size := by
      have := (List.getElem?_eq_some_iff.mp hx).1
      simpa using this
    refine ⟨⟨vs, v, hq, hv, hi⟩, fun u H3 hy => ?_⟩
    obtain ⟨T, y, c', ex, hT, eH, hy1, hy2⟩ := hy
    have q := hy1 vs hq
    rw [hv] at q
    rw [hx'] at hy2
    cases q; cases hy2
    subst ex; subst eH; subst ed
    exact ⟨Gro.new hT, s2.tup hT, .tup (SqT.of upd_same) (.cons (.str _) (.cons (rv.mono (Gro.new hT) (Pre.refl _)) .nil))⟩
end Tm

set_option Elab.async false
set_option linter.all false
set_option maxRecDepth 100000
set_option maxHeartbeats 4000000
namespace Tm
open PySem PySem.Spec PyProof.Rows L2
section
variable {X : Cx} {p : Pm} {c : Cc} {k : Nat} {tg e a b d : Expr} {es : List Expr} {ca cb cd : C} {pos : Pos}
theorem k_ibad : PI X tg e (tI p X.K .bad) := ⟨fun _ _ _ _ _ _ h => by obtain ⟨_, _, _, _, _, _, _, _, h, _⟩ := h; exact (none_bad h).elim⟩
theorem PI.or {t t' : TI} (h : PI X tg e t) (h' : PI X tg e t') : PI X tg e (fun σ H R => t σ H R ∨ t' σ H R) := ⟨fun pins s σ H R I q => q.elim (h.run pins s σ H R I) (h'.run pins s σ H R I)⟩
theorem itD_inj {x1 x2 y1 y2 : List D} (h : itD x1 x2 = itD y1 y2) : x1 = y1 ∧ x2 = y2 := by
  unfold itD at h
  injection h with h
  injection h with h1 h2
  injection h2 with h2 _
  injection h1 with h1
  injection h2 with h2
  exact ⟨h1, h2⟩
theorem it_str {K : PySem.W.Frag} {ρ : List Addr} {H : Hp} {z : Str} {cks : List D} : ItOk K ρ H (charsD z) cks (Its z) := by
  intro ρ2 S2 H2 p2 g2 s2 hc i
  refine ⟨fun e => ?_, fun d hd => ?_⟩
  · have : z.cps.size ≤ i := by
      have q := e
      simp only [charsD, List.length_map, Array.length_toList] at q
      omega
    exact this
  simp only [charsD, List.getElem?_map, Option.map_eq_some_iff] at hd
  obtain ⟨c, hc1, rfl⟩ := hd
  have hx' : z.cps[i]? = some c := by rw [← Array.getElem?_toList]; exact hc1
  have hi : i < z.cps.size := by
    have := (List.getElem?_eq_some_iff.mp hc1).1
    simpa using this
  refine ⟨hi, fun u H3 hy => ?_⟩
  obtain ⟨e, c', hc', eu⟩ := hy
  subst e
  rw [hx'] at hc'
  cases hc'
  subst eu
  exact ⟨Gro.refl _, s2, .str _⟩
/-- over a value: a list, a tuple or a text -/
theorem k_ival (ha : PE X a (tE p X.K ca)) : PI X tg a (tI p X.K (.itv ca)) := by
  have h1 : PI X tg a (fun σ H R => tI p X.K (.itv ca) σ H R ∧ ∃ ρ S e n S', Sim X.K ρ S H ∧ EnvR X.K ρ H e σ ∧ ev p ca e S = some (.ref n, S')) → True := fun _ => trivial
  refine ⟨fun pins s σ H R I h => ?_⟩
  obtain ⟨ρ, S, e, items, cks, S', sm, en, h, q⟩ := h
  simp only [ev, Option.bind_eq_some_iff, Option.map_eq_some_iff] at h
  obtain ⟨⟨d1, S1⟩, h1, ⟨r1, r2⟩, h2, h3⟩ := h
  simp only [Prod.mk.injEq] at h3
  obtain ⟨h3, h4⟩ := h3
  obtain ⟨e1, e2⟩ := itD_inj h3
  subst e1; subst e2; subst h4
  cases d1 with
  | tup ys =>
    simp only [itOf, Option.some.injEq, Prod.mk.injEq] at h2
    obtain ⟨e1, e2⟩ := h2
    subst e1; subst e2
    refine (pi_tup (tg := tg) ha).run pins s σ H R I (st1 sm en h1 fun ρ1 H1 v p1 g1 s1 e1 r1 => ?_)
    obtain ⟨A, vs, ev1, hq, hr⟩ := rep_tup r1
    exact ⟨A, ev1, ⟨vs, hq⟩, q ρ1 H1 _ p1 g1 s1 (it_tup hq hr)⟩
  | ref n =>
    simp only [itOf, Option.map_eq_some_iff, Prod.mk.injEq] at h2
    obtain ⟨ys, hl, e1, e2⟩ := h2
    subst e1; subst e2
    refine (pi_list (tg := tg) ha).run pins s σ H R I (st1 sm en h1 fun ρ1 H1 v p1 g1 s1 e1 r1 => ?_)
    obtain ⟨A, ev1, hA⟩ := rep_ref r1
    obtain ⟨vs, hq, hr⟩ := s1.list hl hA
    exact ⟨A, ev1, ⟨vs, hq⟩, q ρ1 H1 _ p1 g1 s1 (it_list hA)⟩
  | str z =>
    simp only [itOf, Option.some.injEq, Prod.mk.injEq] at h2
    obtain ⟨e1, e2⟩ := h2
    subst e1; subst e2
    refine (pi_str (tg := tg) ha).run pins s σ H R I (st1 sm en h1 fun ρ1 H1 v p1 g1 s1 e1 r1 => ?_)
    cases r1
    exact ⟨z, rfl, q ρ1 H1 _ p1 g1 s1 it_str⟩
  | _ => simp [itOf] at h2
theorem k_irng1 (M : Mat X p c k) {px : Pos} (hg : bltB c ("range" : Str) = true) (hs : notStar a = true) (ha : PA X [a] (tA p X.K ca)) (hl : ∀ e S ds S', ev p ca e S = some (.tup ds, S') → ds.length = 1) :
    PI X tg (.Call (.Name "range" px) [a] [] pos) (tI p X.K (.irng ca)) := by
  obtain ⟨g1, g2, g3⟩ := M.bl hg
  refine PI.imp (pi_range1 (tg := tg) g1 g2 ha (star1 hs _ _)) fun σ H R h => ?_
  obtain ⟨ρ, S, e, items, cks, S', sm, en, h, q⟩ := h
  simp only [ev, Option.bind_eq_some_iff] at h
  obtain ⟨⟨d1, S1⟩, h1, h2⟩ := h
  split at h2
  · rename_i ds hd
    simp only at hd
    subst hd
    simp only [Option.map_eq_some_iff, Prod.mk.injEq] at h2
    obtain ⟨r, hr, h3, h4⟩ := h2
    obtain ⟨e1, e2⟩ := itD_inj h3
    subst e1; subst e2; subst h4
    have hz := hl _ _ _ _ h1
    match ds, hz with
    | [d], _ =>
      refine stA sm en h1 fun ρ1 H1 vs p1 g1 s1 e1 r1 => ?_
      cases r1 with
      | cons r1 r2 =>
        cases r2
        cases r1 <;> simp only [rngs, reduceCtorEq] at hr
        split at hr
        · rename_i hz
          cases hr
          simp only [Bool.and_eq_true, decide_eq_true_eq] at hz
          exact ⟨_, rfl, hz.1, hz.2, q ρ1 H1 _ p1 g1 s1 it_rng⟩
        · cases hr
  · cases h2
theorem k_irng2 (M : Mat X p c k) {px : Pos} (hg : bltB c ("range" : Str) = true) (hs : notStar a = true) (hs2 : notStar b = true) (ha : PA X [a, b] (tA p X.K ca)) (hl : ∀ e S ds S', ev p ca e S = some (.tup ds, S') → ds.length = 2) :
    PI X tg (.Call (.Name "range" px) [a, b] [] pos) (tI p X.K (.irng ca)) := by
  obtain ⟨g1, g2, g3⟩ := M.bl hg
  refine PI.imp (pi_range2 (tg := tg) g1 g2 ha (by rw [star1 hs, star1 hs2]; rfl) (star1 hs2 _ _)) fun σ H R h => ?_
  obtain ⟨ρ, S, e, items, cks, S', sm, en, h, q⟩ := h
  simp only [ev, Option.bind_eq_some_iff] at h
  obtain ⟨⟨d1, S1⟩, h1, h2⟩ := h
  split at h2
  · rename_i ds hd
    simp only at hd
    subst hd
    simp only [Option.map_eq_some_iff, Prod.mk.injEq] at h2
    obtain ⟨r, hr, h3, h4⟩ := h2
    obtain ⟨e1, e2⟩ := itD_inj h3
    subst e1; subst e2; subst h4
    have hz := hl _ _ _ _ h1
    match ds, hz with
    | [d, f], _ =>
      refine stA sm en h1 fun ρ1 H1 vs p1 g1 s1 e1 r1 => ?_
      cases r1 with
      | cons r1 r2 =>
        cases r2 with
        | cons r2 r3 =>
          cases r3
          cases r1 <;> cases r2 <;> simp only [rngs, reduceCtorEq] at hr
          split at hr
          · rename_i hz
            cases hr
            simp only [Bool.and_eq_true, decide_eq_true_eq] at hz
            exact ⟨_, _, rfl, ⟨hz.1.1.1, hz.1.1.2, hz.1.2, hz.2⟩, q ρ1 H1 _ p1 g1 s1 it_rng⟩
          · cases hr
  · cases h2
theorem k_irev (M : Mat X p c k) {px : Pos} (hg : bltB c ("reversed" : Str) = true) (hs : notStar a = true) (ha : PE X a (tE p X.K ca)) : PI X tg (.Call (.Name "reversed" px) [a] [] pos) (tI p X.K (.irev ca)) := by
  obtain ⟨g1, g2, g3⟩ := M.bl hg
  refine PI.imp (RT.pi_revA (tg := tg) g1 g2 ha (star1 hs _ _)) fun σ H R h => ?_
  obtain ⟨ρ, S, e, items, cks, S', sm, en, h, q⟩ := h
  simp only [ev, Option.bind_eq_some_iff, Option.map_eq_some_iff] at h
  obtain ⟨⟨d1, S1⟩, h1, ⟨r1, r2⟩, h2, h3⟩ := h
  simp only [Prod.mk.injEq] at h3
  obtain ⟨h3, h4⟩ := h3
  obtain ⟨e1, e2⟩ := itD_inj h3
  subst e1; subst e2; subst h4
  cases d1 with
  | tup ys =>
    simp only [itOfR, Option.some.injEq, Prod.mk.injEq] at h2
    obtain ⟨e1, e2⟩ := h2
    subst e1; subst e2
    refine st1 sm en h1 fun ρ1 H1 v p1 g1 s1 e1 r1 => ?_
    obtain ⟨A, vs, ev1, hq, hr⟩ := rep_tup r1
    exact ⟨A, vs, ev1, .inr ⟨hq, q ρ1 H1 _ p1 g1 s1 (it_revT hr.length hq hr)⟩⟩
  | ref n =>
    simp only [itOfR, Option.map_eq_some_iff, Prod.mk.injEq] at h2
    obtain ⟨ys, hl, e1, e2⟩ := h2
    subst e1; subst e2
    refine st1 sm en h1 fun ρ1 H1 v p1 g1 s1 e1 r1 => ?_
    obtain ⟨A, ev1, hA⟩ := rep_ref r1
    obtain ⟨vs, hq, hr⟩ := s1.list hl hA
    exact ⟨A, vs, ev1, .inl ⟨hq, q ρ1 H1 _ p1 g1 s1 (it_revL hr.length hA)⟩⟩
  | _ => simp [itOfR] at h2
theorem k_ienum (M : Mat X p c k) {px : Pos} (ht : isTup tg = true) (hg : bltB c ("enumerate" : Str) = true) (hs : notStar a = true) (ha : PE X a (tE p X.K ca)) : PI X tg (.Call (.Name "enumerate" px) [a] [] pos) (tI p X.K (.ienum ca)) := by
  obtain ⟨g1, g2, g3⟩ := M.bl hg
  cases tg with
  | Tuple elts kk tpos =>
    refine PI.imp (pi_enum (tpos := tpos) (elts := elts) (kk := kk) g1 g2 (pa_cons ha pa_nil (star1 hs _ _)) (star1 hs _ _)) fun σ H R h => ?_
    obtain ⟨ρ, S, e, items, cks, S', sm, en, h, q⟩ := h
    simp only [ev, Option.bind_eq_some_iff, Option.map_eq_some_iff] at h
    obtain ⟨⟨d1, S1⟩, h1, ⟨r1, r2⟩, h2, h3⟩ := h
    simp only [Prod.mk.injEq] at h3
    obtain ⟨h3, h4⟩ := h3
    obtain ⟨e1, e2⟩ := itD_inj h3
    subst e1; subst e2; subst h4
    cases d1 with
    | ref n =>
      simp only [itOfL, Option.map_eq_some_iff, Prod.mk.injEq] at h2
      obtain ⟨ys, hl, e1, e2⟩ := h2
      subst e1; subst e2
      refine st1 sm en h1 fun ρ1 H1 v p1 g1 s1 e1 r1 => ?_
      obtain ⟨A, ev1, hA⟩ := rep_ref r1
      obtain ⟨vs, hq, hr⟩ := s1.list hl hA
      subst ev1
      exact ⟨A, vs, rfl, hq, q ρ1 H1 _ p1 g1 s1 (it_enum hA)⟩
    | _ => simp [itOfL] at h2
  | _ => simp [isTup] at ht
theorem k_izip (M : Mat X p c k) {px : Pos} (ht : isTup tg = true) (hg : bltB c ("zip" : Str) = true) (hs : notStar a = true) (hs2 : notStar b = true) (ha : PE X a (tE p X.K ca)) (hb : PE X b (tE p X.K cb)) :
    PI X tg (.Call (.Name "zip" px) [a, b] [] pos) (tI p X.K (.izip ca cb)) := by
  obtain ⟨g1, g2, g3⟩ := M.bl hg
  cases tg with
  | Tuple elts kk tpos =>
    refine ⟨fun pins s0 σ H R I h => ?_⟩
    obtain ⟨ρ, S, e, items, cks, S', sm, en, h, q⟩ := h
    simp only [ev, Option.bind_eq_some_iff] at h
    obtain ⟨⟨d1, S1⟩, h1, ⟨d2, S2⟩, h2, h⟩ := h
    split at h
    · rename_i xs ys e1 e2
      simp only at e1 e2
      subst e1; subst e2
      simp only [Option.some.injEq, Prod.mk.injEq] at h
      obtain ⟨h3, h4⟩ := h
      obtain ⟨e1, e2⟩ := itD_inj h3
      subst e1; subst e2; subst h4
      refine (RZ.pi_zipA (tpos := tpos) (elts := elts) (kk := kk) g1 g2 (pa_cons ha (pa_cons hb pa_nil (star1 hs2 _ _)) (star1 hs _ _)) (star1 hs _ _) (by rw [star1 hs2]; rfl)).run pins s0 σ H R I ?_
      refine st1 sm en h1 fun ρ1 H1 v p1 g1 s1 en1 r1 => st1 s1 en1 h2 fun ρ2 H2 w p2 g2 s2 en2 r2 => ?_
      obtain ⟨A, vs, ev1, hq, hr⟩ := rep_tup r1
      obtain ⟨B, ws, ev2, hq2, hr2⟩ := rep_tup r2
      subst ev1; subst ev2
      exact ⟨A, B, vs, ws, rfl, .inr ⟨g2.sqt hq, hq2, q ρ2 H2 _ (p1.trans p2) (g1.trans g2) s2 (it_zipT (g2.sqt hq) (hr.mono g2 p2) hq2 hr2)⟩⟩
    · rename_i z xs e1 e2
      simp only at e1 e2
      subst e1; subst e2
      simp only [Option.some.injEq, Prod.mk.injEq] at h
      obtain ⟨h3, h4⟩ := h
      obtain ⟨e1, e2⟩ := itD_inj h3
      subst e1; subst e2; subst h4
      refine (pi_zipST (tpos := tpos) (elts := elts) (kk := kk) g1 g2 (pa_cons ha (pa_cons hb pa_nil (star1 hs2 _ _)) (star1 hs _ _)) (star1 hs _ _) (by rw [star1 hs2]; rfl)).run pins s0 σ H R I ?_
      refine st1 sm en h1 fun ρ1 H1 v p1 g1 s1 en1 r1 => st1 s1 en1 h2 fun ρ2 H2 w p2 g2 s2 en2 r2 => ?_
      cases r1
      obtain ⟨A, vs, ev1, hq, hr⟩ := rep_tup r2
      subst ev1
      exact ⟨A, vs, _, rfl, hq, q ρ2 H2 _ (p1.trans p2) (g1.trans g2) s2 (it_zipST hq hr)⟩
    · rename_i xs z e1 e2
      simp only at e1 e2
      subst e1; subst e2
      simp only [Option.some.injEq, Prod.mk.injEq] at h
      obtain ⟨h3, h4⟩ := h
      obtain ⟨e1, e2⟩ := itD_inj h3
      subst e1; subst e2; subst h4
      refine (pi_zipTS (tpos := tpos) (elts := elts) (kk := kk) g1 g2 (pa_cons ha (pa_cons hb pa_nil (star1 hs2 _ _)) (star1 hs _ _)) (star1 hs _ _) (by rw [star1 hs2]; rfl)).run pins s0 σ H R I ?_
      refine st1 sm en h1 fun ρ1 H1 v p1 g1 s1 en1 r1 => st1 s1 en1 h2 fun ρ2 H2 w p2 g2 s2 en2 r2 => ?_
      obtain ⟨A, vs, ev1, hq, hr⟩ := rep_tup r1
      subst ev1
      cases r2
      exact ⟨A, vs, _, rfl, g2.sqt hq, q ρ2 H2 _ (p1.trans p2) (g1.trans g2) s2 (it_zipTS (g2.sqt hq) (hr.mono g2 p2))⟩
    · rename_i m n e1 e2
      simp only at e1 e2
      subst e1; subst e2
      simp only [Option.bind_eq_some_iff, Option.map_eq_some_iff, Prod.mk.injEq] at h
      obtain ⟨xs, hx, ys, hy, h3, h4⟩ := h
      obtain ⟨e1, e2⟩ := itD_inj h3
      subst e1; subst e2; subst h4
      refine (RZ.pi_zipA (tpos := tpos) (elts := elts) (kk := kk) g1 g2 (pa_cons ha (pa_cons hb pa_nil (star1 hs2 _ _)) (star1 hs _ _)) (star1 hs _ _) (by rw [star1 hs2]; rfl)).run pins s0 σ H R I ?_
      refine st1 sm en h1 fun ρ1 H1 v p1 g1 s1 en1 r1 => st1 s1 en1 h2 fun ρ2 H2 w p2 g2 s2 en2 r2 => ?_
      obtain ⟨A, ev1, hA⟩ := rep_ref r1
      obtain ⟨B, ev2, hB⟩ := rep_ref r2
      subst ev1; subst ev2
      obtain ⟨vs, hq, hr⟩ := s2.list hx (p2 _ _ hA)
      obtain ⟨ws, hq2, hr2⟩ := s2.list hy hB
      exact ⟨A, B, vs, ws, rfl, .inl ⟨hq, hq2, q ρ2 H2 _ (p1.trans p2) (g1.trans g2) s2 (it_zipL (p2 _ _ hA) hB)⟩⟩
    · rename_i m z e1 e2
      simp only at e1 e2
      subst e1; subst e2
      simp only [Option.map_eq_some_iff, Prod.mk.injEq] at h
      obtain ⟨xs, hx, h3, h4⟩ := h
      obtain ⟨e1, e2⟩ := itD_inj h3
      subst e1; subst e2; subst h4
      refine (pi_zipLS (tpos := tpos) (elts := elts) (kk := kk) g1 g2 (pa_cons ha (pa_cons hb pa_nil (star1 hs2 _ _)) (star1 hs _ _)) (star1 hs _ _) (by rw [star1 hs2]; rfl)).run pins s0 σ H R I ?_
      refine st1 sm en h1 fun ρ1 H1 v p1 g1 s1 en1 r1 => st1 s1 en1 h2 fun ρ2 H2 w p2 g2 s2 en2 r2 => ?_
      obtain ⟨A, ev1, hA⟩ := rep_ref r1
      subst ev1
      cases r2
      obtain ⟨vs, hq, hr⟩ := s2.list hx (p2 _ _ hA)
      exact ⟨A, vs, _, rfl, hq, q ρ2 H2 _ (p1.trans p2) (g1.trans g2) s2 (it_zipLS (p2 _ _ hA))⟩
    · cases h
  | _ => simp [isTup] at ht
end
end Tm

set_option Elab.async false
set_option linter.all false
set_option maxRecDepth 100000
set_option maxHeartbeats 4000000
namespace Tm
open PySem PySem.Spec PyProof.Rows L2
section
variable {X : Cx} {p : Pm} {c : Cc} {k : Nat} {tg e a b d it : Expr} {es : List Expr} {ca cb cd ci : C} {pos : Pos}
/-! ## the comprehension -/
/-- the tests of a clause as one -/
def tCond (p : Pm) (K : PySem.W.Frag) (c : C) : TT := tTs p K c
theorem k_ifs0 : PTs X [] (tTs p X.K (.lit (.bl true))) := ⟨fun pins s σ H Q I h => by
  obtain ⟨ρ, S, e, b, S', sm, en, h, q⟩ := h
  simp only [ev, isScal, if_true, Option.some.injEq, Prod.mk.injEq, D.bl.injEq] at h
  obtain ⟨h1, h2⟩ := h
  subst h1; subst h2
  exact pts_nil.run pins s σ H Q I (q ρ H (Pre.refl ρ) (Gro.refl H) sm)⟩
theorem k_ifs1 (h : PT X e (tTs p X.K ca)) : PTs X [e] (tTs p X.K ca) := pts_one h
theorem drop_cons {α : Type} {l : List α} {i : Nat} {x : α} {r : List α} (h : l.drop i = x :: r) : l[i]? = some x ∧ l.drop (i + 1) = r ∧ i < l.length := by
  have hi : i < l.length := by
    by_cases q : i < l.length
    · exact q
    · rw [List.drop_eq_nil_of_le (by omega)] at h; cases h
  rw [List.drop_eq_getElem_cons hi] at h
  injection h with h1 h2
  exact ⟨by rw [List.getElem?_eq_getElem hi, h1], h2, hi⟩
theorem drop_nil {α : Type} {l : List α} {i : Nat} (h : l.drop i = []) (hi : i ≤ l.length) : i = l.length := by
  have := congrArg List.length h
  rw [List.length_drop, List.length_nil] at this
  omega
theorem wipe_at {v : Nat} : ∀ {l : List Nat} (σ : L2.St), v ∈ l → (wipe σ l).set v none = wipe σ l
  | u :: us, σ, h => by
    show ((wipe σ us).set u none).set v none = (wipe σ us).set u none
    by_cases q : u = v
    · rw [q, List.set_set]
    · rw [List.set_comm _ _ q, wipe_at σ ((List.mem_cons.mp h).resolve_left fun z => q z.symm)]
theorem wipe_sub : ∀ (m l : List Nat) (σ : L2.St), (∀ v ∈ m, v ∈ l) → wipe (wipe σ l) m = wipe σ l
  | [], l, σ, _ => rfl
  | v :: vs, l, σ, h => by
    show (wipe (wipe σ l) vs).set v none = wipe σ l
    rw [wipe_sub vs l σ fun u hu => h u (List.mem_cons_of_mem _ hu), wipe_at σ (h v List.mem_cons_self)]
theorem wipe_wipe (l : List Nat) (σ : L2.St) : wipe (wipe σ l) l = wipe σ l := wipe_sub l l σ fun _ h => h
theorem lc_read {K : PySem.W.Frag} {t : Tg} {own : List Nat} (ht : tgIn own t = true) {σ : L2.St} {H : Hp} {Q : VK} (h : tE p K (.lc ci t cb ca own) σ H Q) : tLc (tI p K ci) (tG K t) (tTs p K cb) (tE p K ca) own σ H Q := by
  obtain ⟨ρ, S, e, y, sm, en, h, kq⟩ := h
  simp only [ev, Option.bind_eq_some_iff] at h
  obtain ⟨⟨d1, S1⟩, h1, h2⟩ := h
  split at h2
  · rename_i items cks hd
    simp only at hd
    subst hd
    simp only [Option.map_eq_some_iff] at h2
    obtain ⟨S9, h3, h4⟩ := h2
    subst h4
    refine ⟨ρ, S, e, items, cks, S1, sm, en, h1, fun ρ1 H1 J p1 g1 s1 ok => fun D hD => ?_⟩
    have gD : Gro H1 (upd H1 D (.lst [])) := Gro.new hD
    have sD : Sim K (ρ1 ++ [D]) (S1 ++ [.lst []]) (upd H1 D (.lst [])) := s1.new hD .nil
    have pD : Pre ρ1 (ρ1 ++ [D]) := Pre.app ρ1 D
    have hnD : (ρ1 ++ [D])[S1.length]? = some D := by rw [← s1.len, List.getElem?_append_right (Nat.le_refl _)]; simp
    have enw : ∀ {ρ2 : List Addr} {H2 : Hp}, Pre (ρ1 ++ [D]) ρ2 → Gro (upd H1 D (.lst [])) H2 → EnvR K ρ2 H2 (wipeE e own) (wipe σ own) := fun p2 g2 => ((en.mono (p1.trans (pD.trans p2)) (g1.trans (gD.trans g2))).wipe own)
    refine ⟨fun i m H2 => m = items.length - i ∧ i ≤ items.length ∧ ∃ (ρ2 : List Addr) (S2 : Store), Pre (ρ1 ++ [D]) ρ2 ∧ Gro (upd H1 D (.lst [])) H2 ∧ Sim K ρ2 S2 H2 ∧ lcL (ev p cb) (ev p ca) t cks (wipeE e own) S1.length (items.drop i) S2 = some S9,
      ⟨items.length, by simp, Nat.zero_le _, ρ1 ++ [D], S1 ++ [.lst []], Pre.refl _, Gro.refl _, sD, by simpa using h3⟩, ?_⟩
    rintro i m H2 ⟨rfl, hi, ρ2, S2, p2, g2, s2, h5⟩
    cases hdr : items.drop i with
    | nil =>
      rw [hdr] at h5
      simp only [lcL] at h5
      split at h5
      · rename_i hc
        cases h5
        exact .inl ⟨((ok ρ2 S9 H2 (pD.trans p2) (gD.trans g2) s2 hc) i).1 (drop_nil hdr hi), kq ρ2 H2 _ (p1.trans (pD.trans p2)) (g1.trans (gD.trans g2)) s2 (.ref (p2 _ _ hnD))⟩
      · cases h5
    | cons d r =>
      obtain ⟨hdi, hdr2, hlt⟩ := drop_cons hdr
      rw [hdr] at h5
      simp only [lcL] at h5
      split at h5
      · rename_i hc
        obtain ⟨go, yl⟩ := ((ok ρ2 S2 H2 (pD.trans p2) (gD.trans g2) s2 hc) i).2 d hdi
        simp only [Option.bind_eq_some_iff] at h5
        obtain ⟨e1, hb, ⟨bv, S3⟩, hcnd, h6⟩ := h5
        refine .inr ⟨go, fun H3 => (items.length - (i + 1)) = items.length - (i + 1) ∧ i + 1 ≤ items.length ∧ ∃ (ρ3 : List Addr) (S3 : Store), Pre (ρ1 ++ [D]) ρ3 ∧ Gro (upd H1 D (.lst [])) H3 ∧ Sim K ρ3 S3 H3 ∧ lcL (ev p cb) (ev p ca) t cks (wipeE e own) S1.length r S3 = some S9,
          fun H3 q => ⟨items.length - (i + 1), by omega, rfl, q.2.1, by rw [hdr2]; exact q.2.2⟩, fun x H3 hy => ?_⟩
        obtain ⟨g3, s3, r3⟩ := yl x H3 hy
        have g3' := g2.trans g3
        refine ⟨ρ2, S2, wipeE e own, d, e1, s3, enw p2 g3', r3, hb, fun σ2 en2 hw => ⟨?_, ?_⟩⟩
        · have := hw own ht
          rw [this]
          exact wipe_wipe own σ
        · split at h6
          · rename_i hbv
            simp only at hbv
            subst hbv
            simp only [Option.bind_eq_some_iff] at h6
            obtain ⟨⟨yv, S4⟩, hel, S5, hpu, h7⟩ := h6
            refine stT s3 en2 hcnd fun ρ4 H4 p4 g4 s4 en4 => ?_
            rw [if_pos rfl]
            refine st1 s4 en4 hel fun ρ5 H5 w p5 g5 s5 en5 r5 => ?_
            unfold push at hpu
            split at hpu
            · rename_i xs hx
              split at hpu
              · rename_i hz
                cases hpu
                have hA := p5 _ _ (p4 _ _ (p2 _ _ hnD))
                obtain ⟨vs, q1, q2⟩ := s5.obj _ _ D hx hA
                have rr := q2.append (.cons r5 .nil)
                refine ⟨vs, q1, by rw [q2.length]; exact hz, rfl, hlt, ρ5, _, p2.trans (p4.trans p5), (g3'.trans (g4.trans g5)).trans (Gro.mut q1), s5.put hx hA q1 rr, h7⟩
              · cases hpu
            · cases hpu
          · rename_i hbv
            simp only at hbv
            subst hbv
            refine stT s3 en2 hcnd fun ρ4 H4 p4 g4 s4 en4 => ?_
            rw [if_neg (by decide)]
            exact ⟨rfl, hlt, ρ4, S3, p2.trans p4, g3'.trans g4, s4, h6⟩
          · cases h6
      · cases h5
  · cases h2
end
end Tm

set_option Elab.async false
set_option linter.all false
set_option maxRecDepth 100000
set_option maxHeartbeats 4000000
namespace Tm
open PySem PySem.Spec PyProof.Rows L2
section
variable {X : Cx} {p : Pm} {c : Cc} {k : Nat} {tg e a b d it elt : Expr} {es : List Expr} {ca cb cd ci : C} {pos : Pos}
theorem foldNo (h : notSet it = true) (env : Env) : ∀ x, foldedSetIterable it env x = pure x := by
  intro x
  cases it <;> first | rfl | (simp [notSet] at h; done)
theorem Mat.blk (M : Mat X p c k) {scope : Scope} (hk : scope.kind = .function) (s : Shared) (H : Hp) (C : Addr) (cl : List (Str × Addr)) (fp : List Addr) : Mat (X.blk s H scope (compEnvC scope cl C X.env) fp) p (blkCc c scope.names) k where
  hN := M.hN
  nd := M.nd
  sc := by
    show scope.names.map _ = relN c.names scope.names
    unfold relN
    congr 1
    funext ⟨n, kd⟩
    show (if (kd == NameKind.free && X.env.scope.kind == .function && X.env.kindOf n == some .cell) = true then _ else _) = _
    unfold Env.kindOf
    rw [M.kind, M.sc]
    simp
  kind := hk
  calm := M.calm
  gd := M.gd
  room := M.room
  xe := rfl
  fn := fun x h => by
    have h2 : (scope.names.lookup x == some .cell || (relN c.names scope.names).lookup x == some .local) = true := h
    rw [Bool.or_eq_true] at h2
    rcases h2 with q | q
    · exact .inl q
    · refine .inr ?_
      have e : (compEnvC scope cl C X.env).scope.names = relN c.names scope.names := by
        show scope.names.map _ = relN c.names scope.names
        unfold relN
        congr 1
        funext ⟨n, kd⟩
        show (if (kd == NameKind.free && X.env.scope.kind == .function && X.env.kindOf n == some .cell) = true then _ else _) = _
        unfold Env.kindOf
        rw [M.kind, M.sc]
        simp
      show (compEnvC scope cl C X.env).scope.names.lookup x = some .local
      rw [e]
      exact eq_of_beq q
  glob := M.glob
theorem k_lc (M : Mat X p c k) {scope : Scope} {ifs : List Expr} {t : Tg} {cif : C} (hb : blkC c.N { kind := .function, names := c.names, isGenerator := false, isCoroutine := false } scope (ownOf c.N scope.names) = true)
    (ht : tgIn ((ownOf c.N scope.names).map (·.2)) t = true) (hs : notSet it = true) (hi : PI X tg it (tI p X.K ci))
    (hg : ∀ X', Mat X' p (blkCc c scope.names) k → PG X' tg (tG X'.K t)) (hif : ∀ X', Mat X' p (blkCc c scope.names) k → PTs X' ifs (tTs p X'.K cif))
    (he : ∀ X', Mat X' p (blkCc c scope.names) k → PE X' elt (tE p X'.K ca)) : PE X (.ListComp elt [⟨tg, it, ifs, 0⟩] scope pos) (tE p X.K (.lc ci t cif ca ((ownOf c.N scope.names).map (·.2)))) := by
  have ok1 := blkOk_by hb
  have hk : scope.kind = .function := ok1.kind
  have ok : BlkOk X.N X.env.scope scope (ownOf c.N scope.names) := ⟨ok1.kind, ok1.uniq, by rw [M.hN]; exact ok1.ix, by rw [M.sc]; exact ok1.free, by rw [M.hN]; exact ok1.own⟩
  exact PE.imp (pe_lc M.calm (by rw [M.hN]; exact M.nd) hi ok (fun s H C cl fp => hg _ (M.blk hk s H C cl fp)) (fun s H C cl fp => hif _ (M.blk hk s H C cl fp)) (fun s H C cl fp => he _ (M.blk hk s H C cl fp)) (foldNo hs _)) fun σ H Q h => lc_read ht h
end
/-! ## the text and its core -/
section
variable {p : Pm} {k : Nat}
theorem cEs_len : ∀ (n : Nat) (c : Cc) (es : List Expr) (e : Env') (S : Store) (ds : List D) (S' : Store), ev p (cEs n c es) e S = some (.tup ds, S') → ds.length = es.length
  | 0, c, es, e, S, ds, S', h => by unfold cEs at h; exact (none_bad h).elim
  | n + 1, c, [], e, S, ds, S', h => by
    simp only [cEs, ev, Option.some.injEq, Prod.mk.injEq, D.tup.injEq] at h
    rw [← h.1]; rfl
  | n + 1, c, a :: r, e, S, ds, S', h => by
    simp only [cEs] at h
    split at h
    · simp only [ev, Option.bind_eq_some_iff] at h
      obtain ⟨x1, h1, ⟨y, S2⟩, h2, h3⟩ := h
      split at h3
      · rename_i fs hf
        simp only at hf
        subst hf
        cases h3
        rw [List.length_cons, List.length_cons, cEs_len n c r _ _ _ _ h2]
      · cases h3
    · exact (none_bad h).elim
theorem cKs_len : ∀ (n : Nat) (c : Cc) (kws : List Keyword) (e : Env') (S : Store) (ds : List D) (S' : Store), ev p (cKs n c kws) e S = some (.tup ds, S') → ds.length = kws.length
  | 0, c, es, e, S, ds, S', h => by unfold cKs at h; exact (none_bad h).elim
  | n + 1, c, [], e, S, ds, S', h => by
    simp only [cKs, ev, Option.some.injEq, Prod.mk.injEq, D.tup.injEq] at h
    rw [← h.1]; rfl
  | n + 1, c, ⟨nm, a, kp⟩ :: r, e, S, ds, S', h => by
    simp only [cKs, ev, Option.bind_eq_some_iff] at h
    obtain ⟨x1, h1, ⟨y, S2⟩, h2, h3⟩ := h
    split at h3
    · rename_i fs hf
      simp only at hf
      subst hf
      cases h3
      rw [List.length_cons, List.length_cons, cKs_len n c r _ _ _ _ h2]
    · cases h3
theorem kwNames_len : ∀ {kws : List Keyword} {ks : List Str}, kwNames kws = some ks → kws.length = ks.length
  | [], ks, h => by simp [kwNames] at h; subst h; rfl
  | ⟨some x, _, _⟩ :: r, ks, h => by
    simp only [kwNames, Option.map_eq_some_iff] at h
    obtain ⟨s, h1, rfl⟩ := h
    rw [List.length_cons, List.length_cons, kwNames_len h1]
  | ⟨none, _, _⟩ :: _, ks, h => by simp [kwNames] at h
theorem cEs_nil (n : Nat) (c : Cc) (e : Env') (S : Store) (x : D × Store) (h : ev p (cEs n c []) e S = some x) : x.2 = S := by
  cases n with
  | zero => unfold cEs at h; exact (none_bad h).elim
  | succ n => simp only [cEs, ev, Option.some.injEq] at h; rw [← h]
/-- the machine's words about all texts, to a depth -/
structure Snd (p : Pm) (k n : Nat) : Prop where
  e : ∀ (X : Cx) (c : Cc), Mat X p c k → ∀ e, PE X e (tE p X.K (cE n c e))
  es : ∀ (X : Cx) (c : Cc), Mat X p c k → ∀ es, PA X es (tA p X.K (cEs n c es))
  ks : ∀ (X : Cx) (c : Cc), Mat X p c k → ∀ kws, PK X kws (tA p X.K (cKs n c kws))
  and : ∀ (X : Cx) (c : Cc), Mat X p c k → ∀ a r pos, PE X (.BoolOp .And (a :: r) pos) (tE p X.K (cAnd n c a r))
  or : ∀ (X : Cx) (c : Cc), Mat X p c k → ∀ a r pos, PE X (.BoolOp .Or (a :: r) pos) (tE p X.K (cOr n c a r))
  t : ∀ (X : Cx) (c : Cc), Mat X p c k → ∀ e, PT X e (tTs p X.K (cT n c e))
  tand : ∀ (X : Cx) (c : Cc), Mat X p c k → ∀ a r pos, PW X (.BoolOp .And (a :: r) pos) (tTs p X.K (cTAnd n c a r))
  tor : ∀ (X : Cx) (c : Cc), Mat X p c k → ∀ a r pos, PW X (.BoolOp .Or (a :: r) pos) (tTs p X.K (cTOr n c a r))
  o : ∀ (X : Cx) (c : Cc), Mat X p c k → ∀ o, PO X o (tO' p X.K (cO n c o))
  i : ∀ (X : Cx) (c : Cc), Mat X p c k → ∀ tg e, PI X tg e (tI p X.K (cI n c (isTup tg) e))
theorem k_obad {X : Cx} {o : Option Expr} : PO X o (tO' p X.K .bad) := ⟨fun _ _ _ _ _ _ h => by
  obtain ⟨_, _, _, _, _, _, h, _⟩ := h
  simp [part, isAbs, ev] at h⟩
theorem snd_zero : Snd p k 0 where
  e := fun X c M e => by unfold cE; exact k_bad
  es := fun X c M e => by unfold cEs; exact k_abad
  ks := fun X c M e => by unfold cKs; exact k_kbad
  and := fun X c M a r pos => by unfold cAnd; exact k_bad
  or := fun X c M a r pos => by unfold cOr; exact k_bad
  t := fun X c M e => by unfold cT; exact k_badT
  tand := fun X c M a r pos => by unfold cTAnd; exact k_badW
  tor := fun X c M a r pos => by unfold cTOr; exact k_badW
  o := fun X c M o => by unfold cO; exact k_obad
  i := fun X c M tg e => by unfold cI; exact k_ibad
theorem tgs_star : ∀ (n : Nat) (c : Cc) (es : List Expr) (ds : List D) (S : Store) (e e1 : Env'), bindTs (cTgs n c es) ds S e = some e1 → es.all notStar = true
  | n, c, [], ds, S, e, e1, h => rfl
  | 0, c, a :: r, ds, S, e, e1, h => by unfold cTgs at h; cases ds <;> simp [bindTs] at h
  | n + 1, c, a :: r, ds, S, e, e1, h => by
    unfold cTgs at h
    simp only at h
    split at h
    · rename_i hs
      cases ds with
      | nil => simp [bindTs] at h
      | cons d ds =>
        simp only [bindTs, Option.bind_eq_some_iff] at h
        obtain ⟨e2, _, h2⟩ := h
        rw [List.all_cons, hs, tgs_star n c r _ _ _ _ h2]; rfl
    · cases ds <;> simp [bindTs] at h
theorem k_gtup' {X : Cx} {c : Cc} {kk n : Nat} {pos : Pos} {es : List Expr} (M : Mat X p c k) (h : es.all notStar = true → PGs X es (tGs X.K (cTgs n c es))) : PG X (.Tuple es kk pos) (tG X.K (.tp es.length (cTgs n c es))) := by
  by_cases hst : es.all notStar = true
  · exact k_gtup M hst (h hst)
  · refine ⟨fun pins s σ H v u Q I r h => ?_⟩
    obtain ⟨ρ, S, e, d, e1, _, _, _, h, _⟩ := h
    exfalso
    cases d with
    | tup ds =>
      simp only [bindT] at h
      split at h
      · exact hst (tgs_star _ _ _ _ _ _ _ h)
      · cases h
    | ref m =>
      simp only [bindT, Option.bind_eq_some_iff] at h
      obtain ⟨ys, _, h⟩ := h
      split at h
      · exact hst (tgs_star _ _ _ _ _ _ _ h)
      · cases h
    | _ => simp [bindT] at h
theorem k_tg_all {X : Cx} {c : Cc} (M : Mat X p c k) : ∀ n : Nat, (∀ e : Expr, PG X e (tG X.K (cTg n c e))) ∧ ∀ es : List Expr, es.all notStar = true → PGs X es (tGs X.K (cTgs n c es)) := by
  intro n
  induction n with
  | zero =>
    constructor
    · intro e
      unfold cTg
      split
      · split
        · rename_i hl
          split
          · rename_i i hi; exact k_gname M hl hi
          · exact k_gbad
        · exact k_gbad
      · exact k_gbad
      · exact k_gbad
    · intro es hst
      cases es with
      | nil => unfold cTgs; exact k_gsnil
      | cons a r => unfold cTgs; exact k_gsbad
  | succ n ih =>
    constructor
    · intro e
      unfold cTg
      split
      · split
        · rename_i hl
          split
          · rename_i i hi; exact k_gname M hl hi
          · exact k_gbad
        · exact k_gbad
      · exact k_gtup' M fun h => ih.2 _ h
      · exact k_gbad
    · intro es hst
      cases es with
      | nil => unfold cTgs; exact k_gsnil
      | cons a r =>
        unfold cTgs
        simp only
        rw [List.all_cons, Bool.and_eq_true] at hst
        rw [if_pos hst.1]
        exact k_gscons hst.1 (ih.1 a) (ih.2 r hst.2) hst.2
theorem cEs_star : ∀ (n : Nat) (c : Cc) (es : List Expr) (e : Env') (S : Store) (x : D × Store), ev p (cEs n c es) e S = some x → ∀ a ∈ es, notStar a = true
  | 0, c, es, e, S, x, h => by unfold cEs at h; exact (none_bad h).elim
  | n + 1, c, [], e, S, x, h => by intro a ha; cases ha
  | n + 1, c, b :: r, e, S, x, h => by
    intro a ha
    simp only [cEs] at h
    split at h
    · rename_i hs
      simp only [ev, Option.bind_eq_some_iff] at h
      obtain ⟨x1, h1, x2, h2, h3⟩ := h
      rcases List.mem_cons.mp ha with z | z
      · rw [z]; exact hs
      · exact cEs_star n c r _ _ _ h2 a z
    · exact (none_bad h).elim
theorem k_irngbad {X : Cx} {tg e : Expr} {ca : C} (h : ∀ e S x, ¬ ev p ca e S = some x) : PI X tg e (tI p X.K (.irng ca)) := ⟨fun _ _ _ _ _ _ q => by
  obtain ⟨ρ, S, e, items, cks, S', _, _, q, _⟩ := q
  simp only [ev, Option.bind_eq_some_iff] at q
  obtain ⟨x, h1, _⟩ := q
  exact (h _ _ _ h1).elim⟩
theorem k_ifsbad {X : Cx} {ifs : List Expr} : PTs X ifs (tTs p X.K .bad) := ⟨fun _ _ _ _ _ _ q => by obtain ⟨_, _, _, _, _, _, _, q, _⟩ := q; exact (none_bad q).elim⟩
theorem k_callbad {X : Cx} {e : Expr} {f : Nat} {pm : List Nat} {ca cb : C} (h : ∀ e S x, ¬ ev p ca e S = some x) : PE X e (tE p X.K (.call f pm ca cb)) := ⟨fun _ _ _ _ _ _ q => by
  obtain ⟨ρ, S, e, y, _, _, q, _⟩ := q
  simp only [ev, Option.bind_eq_some_iff] at q
  obtain ⟨x, h1, _⟩ := q
  exact (h _ _ _ h1).elim⟩
theorem k_bibad {X : Cx} {e : Expr} {b : Bi} {ca : C} (h : ∀ e S x, ¬ ev p ca e S = some x) : PE X e (tE p X.K (.bi b ca)) := ⟨fun _ _ _ _ _ _ q => by
  obtain ⟨ρ, S, e, y, _, _, q, _⟩ := q
  simp only [ev, Option.bind_eq_some_iff] at q
  obtain ⟨x, h1, _⟩ := q
  exact (h _ _ _ h1).elim⟩
theorem k_ccall {X : Cx} {c : Cc} (M : Mat X p c k) {n : Nat} {x : Str} {px pos : Pos} {es : List Expr} (h0 : ¬ es.length = 0) (ha : PA X es (tA p X.K (cEs n c es))) : PE X (.Call (.Name x px) es [] pos) (tE p X.K (cCall c x es.length (cEs n c es))) := by
  cases es with
  | nil => exact (h0 rfl).elim
  | cons a r =>
    have star : (a :: r).all notStar = true ∨ ∀ e S x, ¬ ev p (cEs n c (a :: r)) e S = some x := by
      by_cases q : (a :: r).all notStar = true
      · exact .inl q
      · exact .inr fun e S x z => q (List.all_eq_true.mpr (cEs_star n c _ e S x z))
    unfold cCall
    split
    · rename_i hg
      split
      · rename_i f ps hf
        split
        · rename_i hn
          rcases star with hs | hs
          · rw [hn]
            exact k_call M hg hf (M.glob.ar x f ps hf) hs hn ha (fun e S ds S' q => cEs_len n c _ e S ds S' q)
          · exact k_callbad hs
        · exact k_bad
      · split
        · rename_i hb
          split
          · rename_i b hq
            rcases star with hs | hs
            · exact k_bi M (by unfold bltB; rw [Bool.and_eq_true]; exact ⟨hg, hb⟩) hq hs ha
            · exact k_bibad hs
          · exact k_bad
        · exact k_bad
    · exact k_bad
theorem k_callvbad {X : Cx} {e : Expr} {ca cf : C} (h : ∀ e S x, ¬ ev p ca e S = some x) : PE X e (tE p X.K (.callv cf ca)) := ⟨fun _ _ _ _ _ _ q => by
  obtain ⟨ρ, S, e, y, _, _, q, _⟩ := q
  simp only [ev, Option.bind_eq_some_iff] at q
  obtain ⟨x, h1, y', h2, _⟩ := q
  exact (h _ _ _ h2).elim⟩
theorem k_cvcall {X : Cx} {c : Cc} (M : Mat X p c k) {n : Nat} {x : Str} {px pos : Pos} {es : List Expr} (h0 : ¬ es.length = 0) (ha : PA X es (tA p X.K (cEs n c es))) : PE X (.Call (.Name x px) es [] pos) (tE p X.K (.callv (cName c x) (cEs n c es))) := by
  cases es with
  | nil => exact (h0 rfl).elim
  | cons a r =>
    by_cases hs : (a :: r).all notStar = true
    · exact k_callv M hs (k_name M) ha
    · exact k_callvbad fun e S x z => hs (List.all_eq_true.mpr (cEs_star n c _ e S x z))
theorem k_mkbad {X : Cx} {x : Str} {px pos : Pos} {f : Nat} {ca : C} {es : List Expr} (hs : ∀ e S y, ¬ ev p ca e S = some y) : PE X (.Call (.Name x px) es [] pos) (tE p X.K (.mk x f ca)) := ⟨fun _ _ _ _ _ _ h => by
  obtain ⟨_, _, _, _, _, _, h, _⟩ := h
  simp only [ev, Option.bind_eq_some_iff] at h
  obtain ⟨y, h1, _⟩ := h
  exact (hs _ _ _ h1).elim⟩
theorem k_cmk {X : Cx} {c : Cc} (M : Mat X p c k) {n : Nat} {x : Str} {px pos : Pos} {f : Nat} {ps fl : List Str} {es : List Expr} (h0 : ¬ es.length = 0) (hg : glB c x = true) (hf : c.G.clss.lookup x = some (f, ps, fl)) (ha : PA X es (tA p X.K (cEs n c es))) :
    PE X (.Call (.Name x px) es [] pos) (tE p X.K (.mk x f (cEs n c es))) := by
  cases es with
  | nil => exact (h0 rfl).elim
  | cons a r =>
    by_cases hs : (a :: r).all notStar = true
    · exact k_mk M hg hf hs ha
    · exact k_mkbad fun e S x z => hs (List.all_eq_true.mpr (cEs_star n c _ e S x z))
theorem snd_succ {n : Nat} (h : Snd p k n) : Snd p k (n + 1) where
  es := fun X c M es => by
    cases es with
    | nil => unfold cEs; exact k_anil
    | cons a r =>
      unfold cEs
      simp only
      split
      · rename_i hs; exact k_acons hs (h.e X c M a) (h.es X c M r)
      · exact k_abad
  ks := fun X c M kws => by
    cases kws with
    | nil => unfold cKs; exact k_knil
    | cons a r => obtain ⟨nm, v, kp⟩ := a; unfold cKs; exact k_kcons (h.e X c M v) (h.ks X c M r)
  and := fun X c M a r pos => by
    cases r with
    | nil => unfold cAnd; exact k_and1 (h.e X c M a)
    | cons b s => unfold cAnd; exact k_and (h.e X c M a) (h.and X c M b s pos)
  or := fun X c M a r pos => by
    cases r with
    | nil => unfold cOr; exact k_and1 (h.e X c M a)
    | cons b s => unfold cOr; exact k_or (h.e X c M a) (h.or X c M b s pos)
  tand := fun X c M a r pos => by
    cases r with
    | nil => unfold cTAnd; exact k_tand1 (h.t X c M a)
    | cons b s => unfold cTAnd; exact k_tand (h.t X c M a) (h.tand X c M b s pos)
  tor := fun X c M a r pos => by
    cases r with
    | nil => unfold cTOr; exact k_tor1 (h.t X c M a)
    | cons b s => unfold cTOr; exact k_tor (h.t X c M a) (h.tor X c M b s pos)
  o := fun X c M o => by
    cases o with
    | none => unfold cO; exact k_onone
    | some e =>
      unfold cO
      simp only
      split
      · exact k_obad
      · rename_i q; exact k_osome (by simpa using q) (h.e X c M e)
  t := fun X c M e => by
    have val : (∀ whole, isTrue e X.env whole = (do let v ← whole; standAt e.pos; holding [v] (truthy v))) → PT X e (tTs p X.K (cE n c e)) := fun he => k_tval (h.e X c M e) he
    cases e with
    | BoolOp op es pos =>
      cases es with
      | nil => unfold cT; cases op <;> exact k_badT
      | cons a r =>
        unfold cT
        cases op with
        | And => exact (h.tand X c M a r pos).pt
        | Or => exact (h.tor X c M a r pos).pt
    | UnaryOp op a pos =>
      unfold cT
      cases op <;> first | exact k_badT | exact k_tnot (h.t X c M a)
    | IfExp t a b pos => unfold cT; exact k_badT
    | Compare a ops bs pos =>
      unfold cT
      simp only
      split
      · rename_i op b
        split
        · rename_i hs
          split
          · rename_i g hg
            split
            · exact k_tkin M hg (h.e X c M a)
            · exact k_tknin M hg (h.e X c M a)
            · exact k_badT
          · exact k_tcmp M hs (h.e X c M a) (h.e X c M b)
        · exact k_badT
      · rename_i o1 o2 b d
        split
        · exact k_badT
        · rename_i hs
          exact k_tchain M (by simpa using hs) (h.e X c M a) (h.e X c M b) (h.e X c M d)
      · exact k_badT
    | _ => exact val (fun _ => rfl)
  i := fun X c M tg e => by
    cases e with
    | Call f es kws pos =>
      unfold cI
      simp only
      split
      · rename_i x px
        split
        · rename_i hx
          subst hx
          split
          · rename_i hb
            rw [Bool.and_eq_true, Bool.or_eq_true] at hb
            obtain ⟨hb, hn⟩ := hb
            rcases hn with hn | hn
            · match es, hn with
              | [a], _ =>
                by_cases hs : notStar a = true
                · exact k_irng1 M hb hs (h.es X c M [a]) (fun e S ds S' q => cEs_len n c [a] e S ds S' q)
                · exact k_irngbad (fun e S x => by
                    intro q
                    exact hs (cEs_star n c [a] e S x q a List.mem_cons_self))
            · match es, hn with
              | [a, b], _ =>
                by_cases hs : notStar a = true
                · by_cases hs2 : notStar b = true
                  · exact k_irng2 M hb hs hs2 (h.es X c M [a, b]) (fun e S ds S' q => cEs_len n c [a, b] e S ds S' q)
                  · exact k_irngbad (fun e S x => by
                      intro q
                      exact hs2 (cEs_star n c [a, b] e S x q b (List.mem_cons_of_mem _ List.mem_cons_self)))
                · exact k_irngbad (fun e S x => by
                    intro q
                    exact hs (cEs_star n c [a, b] e S x q a List.mem_cons_self))
          · exact k_ibad
        · split
          · rename_i hx
            subst hx
            split
            · split
              · rename_i hb
                rw [Bool.and_eq_true] at hb
                exact k_irev M hb.1 hb.2 (h.e X c M _)
              · exact k_ibad
            · exact k_ibad
          · split
            · rename_i hx
              subst hx
              split
              · split
                · rename_i hb
                  rw [Bool.and_eq_true, Bool.and_eq_true] at hb
                  exact k_ienum M hb.1.1 hb.1.2 hb.2 (h.e X c M _)
                · exact k_ibad
              · exact k_ibad
            · split
              · rename_i hx
                subst hx
                split
                · split
                  · rename_i hb
                    rw [Bool.and_eq_true, Bool.and_eq_true, Bool.and_eq_true] at hb
                    exact k_izip M hb.1.1.1 hb.1.1.2 hb.1.2 hb.2 (h.e X c M _) (h.e X c M _)
                  · exact k_ibad
                · exact k_ibad
              · exact k_ival (h.e X c M _)
      · exact k_ival (h.e X c M _)
    | _ => exact k_ival (h.e X c M _)
  e := fun X c M e => by
    cases e with
    | Name x pos => exact k_name M
    | Constant kc j pos => exact k_const
    | BinOp a op b pos =>
      unfold cE
      simp only
      split
      · rename_i o ho; exact k_bin ho (h.e X c M a) (h.e X c M b)
      · exact k_bad
    | UnaryOp op a pos =>
      unfold cE
      cases op <;> first | exact k_bad | exact k_neg (h.e X c M a) | exact k_notE (h.e X c M a)
    | Compare a ops bs pos =>
      unfold cE
      simp only
      split
      · rename_i op b
        split
        · rename_i hs
          split
          · rename_i g hg
            split
            · exact k_kin M hg hs (h.e X c M a)
            · exact k_knin M hg hs (h.e X c M a)
            · exact k_bad
          · exact k_cmp M hs (h.e X c M a) (h.e X c M b)
        · exact k_bad
      · rename_i o1 o2 b d
        split
        · exact k_bad
        · rename_i hs
          exact k_chain M (by simpa using hs) (h.e X c M a) (h.e X c M b) (h.e X c M d)
      · exact k_bad
    | BoolOp op es pos =>
      unfold cE
      cases es with
      | nil => cases op <;> exact k_bad
      | cons a r =>
        cases op with
        | And => exact h.and X c M a r pos
        | Or => exact h.or X c M a r pos
    | IfExp t a b pos => exact k_ife (h.t X c M t) (h.e X c M a) (h.e X c M b)
    | Tuple es kk pos => exact k_tup (h.es X c M es)
    | List es pos => exact k_lst (h.es X c M es)
    | Subscript a b pos =>
      by_cases hs : isSlice b = true
      · cases b with
        | Slice lo hi st p2 =>
          unfold cE
          simp only
          split
          · exact k_slc (h.e X c M a) (h.o X c M lo) (h.o X c M hi)
          · split
            · exact k_revl (h.e X c M a)
            · exact k_bad
          · exact k_bad
        | _ => simp [isSlice] at hs
      · have hs' : isSlice b = false := by simpa using hs
        have ee : cE (n + 1) c (.Subscript a b pos) = (match dicOf c a with
            | some g => .kget g (cE n c b)
            | none => .idx (cE n c a) (cE n c b)) := by
          cases b <;> first | rfl | (simp [isSlice] at hs; done)
        rw [ee]
        split
        · rename_i g hg; exact k_kget M hg hs' (h.e X c M b)
        · exact k_idx (by have := M.hu; omega) hs' (h.e X c M a) (h.e X c M b)
    | Call f es kws pos =>
      cases kws with
      | nil =>
        unfold cE
        simp only
        split
        · rename_i x px
          split
          · rename_i hx
            subst hx
            split
            · rename_i hb
              split
              · rename_i a t
                split
                · rename_i hs
                  unfold cIsTy
                  split
                  · rename_i t' ht; exact k_isty M hb hs ht (h.e X c M a)
                  · exact k_bad
                · exact k_bad
              · exact k_bad
            · exact k_bad
          · split
            · exact k_bad
            · rename_i h0
              split
              · rename_i hq
                rw [Bool.and_eq_true] at hq
                split
                · rename_i f ps fl hf
                  split
                  · exact k_cmk M h0 hq.1 hf (h.es X c M es)
                  · exact k_bad
                · exact k_bad
              split
              · exact k_cvcall M h0 (h.es X c M es)
              · exact k_ccall M h0 (h.es X c M es)
        · rename_i o m ap
          split
          · exact k_bad
          · rename_i hap
            have hap' : (ap.endLine == pos.line) = true := by simpa using hap
            split
            · rename_i hm
              subst hm
              split
              · rename_i v
                split
                · rename_i hs
                  rw [Bool.and_eq_true] at hs
                  exact k_app hap' hs.1 hs.2 (h.e X c M o) (h.e X c M v)
                · exact k_bad
              · exact k_bad
            · split
              · rename_i hm
                subst hm
                split
                · rename_i g a b hg
                  split
                  · rename_i hs
                    rw [Bool.and_eq_true] at hs
                    exact k_kgetd M hg hap' hs.1 hs.2 (h.e X c M a) (h.e X c M b)
                  · exact k_bad
                · exact k_bad
              · split
                · exact k_bad
                · rename_i hb
                  have hb' : plainBase o = true := by simpa using hb
                  split
                  · split
                    · rename_i q hq; exact k_mt0 hq hap' hb' (h.e X c M o)
                    · exact k_bad
                  · rename_i a
                    split
                    · rename_i hs
                      split
                      · rename_i q hq; exact k_mt1 hq hap' hs hb' (h.e X c M o) (h.e X c M a)
                      · exact k_bad
                    · exact k_bad
                  · rename_i a b
                    split
                    · rename_i hs
                      rw [Bool.and_eq_true] at hs
                      split
                      · rename_i q hq; exact k_mt2 hq hap' hs.1 hs.2 hb' (h.e X c M o) (h.e X c M a) (h.e X c M b)
                      · exact k_bad
                    · exact k_bad
                  · exact k_bad
        · exact k_bad
      | cons kw kr =>
        unfold cE
        simp only
        split
        · rename_i x px
          split
          · rename_i hg
            rw [Bool.and_eq_true] at hg
            split
            · rename_i f ps ks hf hks
              split
              · rename_i q hq
                have hm := List.mem_of_find?_eq_some hq
                have hp := List.find?_some hq
                simp only [Bool.and_eq_true, decide_eq_true_eq] at hp
                exact k_callK M hg.1 hf (M.glob.ar x f ps hf) hg.2 hks hm hp.1.1 hp.1.2 hp.2 (h.es X c M es) (h.ks X c M _) (fun e S ds S' z => cEs_len n c _ e S ds S' z)
                  (fun e S ds S' z => by rw [cKs_len n c _ e S ds S' z, kwNames_len hks]) (fun he e S x z => by subst he; exact cEs_nil n c e S x z)
              · exact k_bad
            · exact k_bad
          · exact k_bad
        · exact k_bad
    | Attribute o f pos =>
      unfold cE
      simp only
      split
      · exact k_bad
      · rename_i hb
        exact k_fld M (by simpa using hb) (h.e X c M o)
    | Dict ks vs pos =>
      unfold cE
      simp only
      split
      · exact k_dnew
      · exact k_bad
    | ListComp elt gs scope pos =>
      unfold cE
      simp only
      split
      · rename_i tg it ifs
        split
        · rename_i hb
          rw [Bool.and_eq_true, Bool.and_eq_true] at hb
          refine k_lc M hb.1.1 hb.1.2 hb.2 (h.i X c M tg it) (fun X' M' => (k_tg_all M' n).1 tg) (fun X' M' => ?_) (fun X' M' => h.e X' _ M' elt)
          split
          · exact k_ifs0
          · exact k_ifs1 (h.t X' _ M' _)
          · exact k_ifsbad
        · exact k_bad
      · exact k_bad
    | _ => exact k_bad
end
end Tm

set_option Elab.async false
set_option linter.all false
set_option maxRecDepth 100000
set_option maxHeartbeats 4000000
namespace Tm
open PySem PySem.Spec PyProof.Rows L2
theorem snd_all (p : Pm) (k : Nat) : ∀ n, Snd p k n
  | 0 => snd_zero
  | n + 1 => snd_succ (snd_all p k n)
/-! ## statements -/
def isComp : Expr → Bool
  | .ListComp .. | .SetComp .. | .DictComp .. => true
  | _ => false
def onlyLc : Expr → Bool
  | .ListComp .. => true
  | _ => false
def isTupE : Expr → Bool
  | .Tuple .. | .List .. => true
  | _ => false
/-- y = [..] on one line, y a plain local -/
def swapC (c : Cc) (y : Str) (py : Pos) : Expr → Bool
  | .ListComp _ _ scope pos => (c.names.lookup y == some .local) && (py.line == pos.line) && !(scope.names.any fun (n, k) => n == y && (k == .local || k == .cell))
  | _ => false
/-- a, b = x, y with plain local names of one line -/
def parN (c : Cc) : Expr → Expr → Option (List Str)
  | .Tuple ts _ _, .Tuple vs _ _ =>
    if !(ts.length == 2 || ts.length == 3) || vs.length != ts.length then none
    else if vs.any fun | .Starred .. => true | _ => false then none
    else
      let line := (ts.head?.map (·.pos.line)).getD 0
      let names := ts.filterMap fun
        | .Name id pos => if c.names.lookup id == some .local && pos.line == line then some id else none
        | _ => none
      if names.length != ts.length || names.eraseDups.length != names.length then none
      else if vs.all (foldedForSure 8) then none
      else if vs.all (constantsAlone 8) then none
      else some names
  | _, _ => none
/-- is it stored one by one, from the left? none: not known -/
def noPar (c : Cc) (t v : Expr) : Bool := match t, v with
  | .Tuple ts _ _, .Tuple vs _ _ =>
    if !(ts.length == 2 || ts.length == 3) || vs.length != ts.length then true
    else if vs.any fun | .Starred .. => true | _ => false then true
    else
      let line := (ts.head?.map (·.pos.line)).getD 0
      let names := ts.filterMap fun
        | .Name id pos => if c.names.lookup id == some .local && pos.line == line then some id else none
        | _ => none
      if names.length != ts.length || names.eraseDups.length != names.length then true
      else if vs.all (foldedForSure 8) then true
      else false
  | .List .., _ => false
  | _, _ => true
def cPar (n : Nat) (c : Cc) (t v : Expr) (names : List Str) : St := match t, v with
  | .Tuple [.Name x _, .Name y _] _ _, .Tuple [a, b] _ _ => (match ixOf c.N x, ixOf c.N y with
    | some i, some j => if decide (names = [x, y]) && (c.names.lookup x == some .local) && (c.names.lookup y == some .local) && !(i == j) && notStar a && notStar b then .asg (.tp 2 (.cons (.nm i) (.cons (.nm j) .nil))) (.tup (.cons (cE n c a) (.cons (cE n c b) .nil))) else .bad
    | _, _ => .bad)
  | .Tuple [.Name x _, .Name y _, .Name z _] _ _, .Tuple [a, b, d] _ _ => (match ixOf c.N x, ixOf c.N y, ixOf c.N z with
    | some i, some j, some l => if decide (names = [x, y, z]) && (c.names.lookup x == some .local) && (c.names.lookup y == some .local) && (c.names.lookup z == some .local) && !(i == j) && !(i == l) && !(j == l) && notStar a && notStar b && notStar d then
        .asg (.tp 3 (.cons (.nm i) (.cons (.nm j) (.cons (.nm l) .nil)))) (.tup (.cons (cE n c a) (.cons (cE n c b) (.cons (cE n c d) .nil)))) else .bad
    | _, _, _ => .bad)
  | _, _ => .bad
def augB : Operator → Option Bin
  | .Add => some .add
  | .Sub => some .sub
  | _ => none
mutual
def cS (n : Nat) (c : Cc) (s : Stmt) : St := match n with
  | 0 => .bad
  | n + 1 => match s with
    | .Expr e _ => if isComp e then .bad else .drop (cE n c e)
    | .Return e _ => (match e with
      | none => .ret (.lit .non)
      | some e => .ret (cE n c e))
    | .Assign ts e _ => (match ts with
      | [t] => (match t with
        | .Name y py => if isComp e && !onlyLc e then .bad else .asg (cTg n c t) (cE n c e)
        | .Tuple .. => if isComp e then .bad else if noPar c t e then .asg (cTg n c t) (cE n c e) else (match parN c t e with
          | some names => cPar n c t e names
          | none => .bad)
        | .Subscript o i _ => if isSlice i || isComp e then .bad else .seti (cE n c e) (cE n c o) (cE n c i)
        | .Attribute o f _ => if isComp e then .bad else .setf (cE n c e) (cE n c o) f (clsFor c.G f)
        | _ => .bad)
      | _ => .bad)
    | .AugAssign t op e _ => (match t with
      | .Name x _ => (match ixOf c.N x, augB op with
        | some i, some o => if locB c x then .aug i o (cE n c e) else .bad
        | _, _ => .bad)
      | .Attribute o f _ => (match augB op with
        | some q => .augf (cE n c o) f (clsFor c.G f) q (cE n c e)
        | none => .bad)
      | _ => .bad)
    | .If t a b _ => .ifs (cT n c t) (cSs n c a) (cSs n c b)
    | .For t it b o _ => (match o with
      | [] => if notSet it then .for_ (cI n c (isTup t) it) (cTg n c t) (cSs n c b) else .bad
      | _ => .bad)
    | .While t b o _ => (match o with
      | [] => .whl (cT n c t) (cSs n c b)
      | _ => .bad)
    | .Pass _ => .skip
    | .Break _ => .brk
    | .Continue _ => .cont
    | _ => .bad
def cSs (n : Nat) (c : Cc) (s : List Stmt) : St := match n with
  | 0 => .bad
  | n + 1 => match s with
    | [] => .skip
    | s :: r => .seq (cS n c s) (cSs n c r)
end
def AftS (K : PySem.W.Frag) (ρ : List Addr) (H : Hp) (r : Fl × Env' × Store) (D : Ends) : Prop := ∀ (ρ' : List Addr) (H' : Hp), Pre ρ ρ' → Gro H H' → Sim K ρ' r.2.2 H' → match r.1 with
  | .nx => ∀ σ', EnvR K ρ' H' r.2.1 σ' → D.nx σ' H'
  | .bk => ∀ σ', EnvR K ρ' H' r.2.1 σ' → D.bk σ' H'
  | .ct => ∀ σ', EnvR K ρ' H' r.2.1 σ' → D.ct σ' H'
  | .rt d => ∀ v, Rep K ρ' H' v d → D.rt v H'
theorem AftS.mono {K : PySem.W.Frag} {ρ ρ' : List Addr} {H H' : Hp} {r : Fl × Env' × Store} {D : Ends} (k : AftS K ρ H r D) (p : Pre ρ ρ') (g : Gro H H') : AftS K ρ' H' r D := fun _ _ p' g' s => k _ _ (p.trans p') (g.trans g') s
def tS (p : Pm) (K : PySem.W.Frag) (s : St) : TS := fun D σ H => ∃ (ρ : List Addr) (S : Store) (e : Env') (r : Fl × Env' × Store), Sim K ρ S H ∧ EnvR K ρ H e σ ∧ ex p s e S = some r ∧ AftS K ρ H r D
theorem PS.by2 {X : Cx} {e : Stmt} {t t1 t2 : TS} (h1 : PS X e t1) (h2 : PS X e t2) (f : ∀ D σ H, t D σ H → t1 D σ H ∨ t2 D σ H) : PS X e t :=
  ⟨fun pins s σ H D I q => (f D σ H q).elim (h1.run pins s σ H D I) (h2.run pins s σ H D I)⟩
theorem PS.imp {X : Cx} {e : Stmt} {t t' : TS} (h : PS X e t) (f : ∀ D σ H, t' D σ H → t D σ H) : PS X e t' := ⟨fun pins s σ H D I q => h.run pins s σ H D I (f D σ H q)⟩
theorem PSs.imp {X : Cx} {e : List Stmt} {t t' : TS} (h : PSs X e t) (f : ∀ D σ H, t' D σ H → t D σ H) : PSs X e t' := ⟨fun pins s σ H D I q => h.run pins s σ H D I (f D σ H q)⟩
section
variable {X : Cx} {p : Pm} {c : Cc} {k : Nat} {e a b d it : Expr} {st : Stmt} {sts : List Stmt} {ca cb cd : C} {sa sb : St} {pos : Pos}
theorem k_sbad : PS X st (tS p X.K .bad) := ⟨fun _ _ _ _ _ _ h => by obtain ⟨_, _, _, _, _, _, h, _⟩ := h; simp [ex] at h⟩
theorem k_ssbad : PSs X sts (tS p X.K .bad) := ⟨fun _ _ _ _ _ _ h => by obtain ⟨_, _, _, _, _, _, h, _⟩ := h; simp [ex] at h⟩
theorem k_sskip : PSs X [] (tS p X.K .skip) := PSs.imp pss_nil fun D σ H h => by
  obtain ⟨ρ, S, e, r, sm, en, h, q⟩ := h
  simp only [ex, Option.some.injEq] at h
  subst h
  exact q ρ H (Pre.refl ρ) (Gro.refl H) sm σ en
theorem k_pass : PS X (.Pass pos) (tS p X.K .skip) := PS.imp ps_pass fun D σ H h => by
  obtain ⟨ρ, S, e, r, sm, en, h, q⟩ := h
  simp only [ex, Option.some.injEq] at h
  subst h
  exact q ρ H (Pre.refl ρ) (Gro.refl H) sm σ en
theorem k_brk : PS X (.Break pos) (tS p X.K .brk) := PS.imp ps_break fun D σ H h => by
  obtain ⟨ρ, S, e, r, sm, en, h, q⟩ := h
  simp only [ex, Option.some.injEq] at h
  subst h
  exact q ρ H (Pre.refl ρ) (Gro.refl H) sm σ en
theorem k_cont : PS X (.Continue pos) (tS p X.K .cont) := PS.imp ps_continue fun D σ H h => by
  obtain ⟨ρ, S, e, r, sm, en, h, q⟩ := h
  simp only [ex, Option.some.injEq] at h
  subst h
  exact q ρ H (Pre.refl ρ) (Gro.refl H) sm σ en
theorem k_seq (ha : PS X st (tS p X.K sa)) (hb : PSs X sts (tS p X.K sb)) : PSs X (st :: sts) (tS p X.K (.seq sa sb)) := by
  refine PSs.imp (pss_cons ha hb) fun D σ H h => ?_
  obtain ⟨ρ, S, e, r, sm, en, h, q⟩ := h
  simp only [ex, Option.bind_eq_some_iff] at h
  obtain ⟨⟨f1, e1, S1⟩, h1, h2⟩ := h
  refine ⟨ρ, S, e, _, sm, en, h1, fun ρ1 H1 p1 g1 s1 => ?_⟩
  cases f1 with
  | nx => exact fun σ1 en1 => ⟨ρ1, S1, e1, r, s1, en1, h2, q.mono p1 g1⟩
  | bk => simp only [Option.some.injEq] at h2; subst h2; exact q ρ1 H1 p1 g1 s1
  | ct => simp only [Option.some.injEq] at h2; subst h2; exact q ρ1 H1 p1 g1 s1
  | rt v => simp only [Option.some.injEq] at h2; subst h2; exact q ρ1 H1 p1 g1 s1
theorem k_drop (hs : isComp e = false) (ha : PE X e (tE p X.K ca)) : PS X (.Expr e pos) (tS p X.K (.drop ca)) := by
  refine PS.imp (ps_expr ha (by cases e <;> first | rfl | (simp [isComp] at hs; done))) fun D σ H h => ?_
  obtain ⟨ρ, S, e, r, sm, en, h, q⟩ := h
  simp only [ex, Option.map_eq_some_iff] at h
  obtain ⟨x, h1, h2⟩ := h
  subst h2
  exact st1 sm en h1 fun ρ1 H1 v p1 g1 s1 e1 r1 => q ρ1 H1 p1 g1 s1 σ e1
theorem k_ret (ha : PE X e (tE p X.K ca)) : PS X (.Return (some e) pos) (tS p X.K (.ret ca)) := by
  refine PS.imp (ps_ret ha) fun D σ H h => ?_
  obtain ⟨ρ, S, e, r, sm, en, h, q⟩ := h
  simp only [ex, Option.map_eq_some_iff] at h
  obtain ⟨x, h1, h2⟩ := h
  subst h2
  exact st1 sm en h1 fun ρ1 H1 v p1 g1 s1 e1 r1 => q ρ1 H1 p1 g1 s1 v r1
theorem k_retN : PS X (.Return none pos) (tS p X.K (.ret (.lit .non))) := by
  refine PS.imp ps_retN fun D σ H h => ?_
  obtain ⟨ρ, S, e, r, sm, en, h, q⟩ := h
  simp only [ex, ev, isScal, if_true, Option.map_some, Option.some.injEq] at h
  subst h
  exact q ρ H (Pre.refl ρ) (Gro.refl H) sm .non .non
theorem k_if (ht : PT X e (tTs p X.K ca)) (ha : PSs X sts (tS p X.K sa)) {sts2 : List Stmt} (hb : PSs X sts2 (tS p X.K sb)) : PS X (.If e sts sts2 pos) (tS p X.K (.ifs ca sa sb)) := by
  refine PS.imp (ps_if ht ha hb) fun D σ H h => ?_
  obtain ⟨ρ, S, e, r, sm, en, h, q⟩ := h
  simp only [ex, Option.bind_eq_some_iff] at h
  obtain ⟨⟨d1, S1⟩, h1, h2⟩ := h
  split at h2
  · rename_i hi
    simp only at hi
    subst hi
    refine stT sm en h1 fun ρ' H' p1 g1 s1 e1 => ?_
    rw [if_pos rfl]
    exact ⟨ρ', S1, e, r, s1, e1, h2, q.mono p1 g1⟩
  · rename_i hi
    simp only at hi
    subst hi
    refine stT sm en h1 fun ρ' H' p1 g1 s1 e1 => ?_
    rw [if_neg (by decide)]
    exact ⟨ρ', S1, e, r, s1, e1, h2, q.mono p1 g1⟩
  · cases h2
theorem asg_read {K : PySem.W.Frag} {t : Tg} {D : Ends} {σ : L2.St} {H : Hp} (h : tS p K (.asg t ca) D σ H) : tAsg (tE p K ca) (tG K t) D σ H := by
  obtain ⟨ρ, S, e, r, sm, en, h, q⟩ := h
  simp only [ex, Option.bind_eq_some_iff, Option.map_eq_some_iff] at h
  obtain ⟨x, h1, e1, h2, h3⟩ := h
  subst h3
  exact st1 sm en h1 fun ρ1 H1 v p1 g1 s1 en1 r1 => ⟨ρ1, x.2, e, x.1, e1, s1, en1, r1, h2, fun σ' en2 _ => q ρ1 H1 p1 g1 s1 σ' en2⟩
end
end Tm

set_option Elab.async false
set_option linter.all false
set_option maxRecDepth 100000
set_option maxHeartbeats 4000000
namespace Tm
open PySem PySem.Spec PyProof.Rows L2
section
variable {X : Cx} {p : Pm} {c : Cc} {k : Nat} {e a b d it : Expr} {st : Stmt} {sts : List Stmt} {ca cb cd ci : C} {sa sb : St} {pos : Pos}
theorem Mat.block (M : Mat X p c k) : X.env.blockKind = .function := by
  unfold Env.blockKind
  rw [M.kind]; rfl
theorem Mat.kindOf (M : Mat X p c k) (y : Str) : X.env.kindOf y = c.names.lookup y := by
  unfold Env.kindOf
  rw [M.sc]
theorem noPar_ok (M : Mat X p c k) {ts : List Expr} {k1 : Nat} {p1 : Pos} {v : Expr} (h : noPar c (.Tuple ts k1 p1) v = true) : swappedStores [.Tuple ts k1 p1] v X.env = pure none := by
  cases v with
  | Tuple vs k2 p2 =>
    unfold swappedStores
    unfold noPar at h
    simp only [M.block, M.kindOf, bne_self_eq_false, Bool.or_false] at h ⊢
    split
    · rfl
    · rename_i c1
      split
      · rfl
      · rename_i c2
        split
        · rfl
        · rename_i c3
          split
          · rfl
          · rename_i c4
            have z := ((if_neg c1).trans ((if_neg c2).trans ((if_neg c3).trans (if_neg c4)))).symm.trans h
            exact Bool.noConfusion z
  | _ => rfl
theorem parN_ok (M : Mat X p c k) {ts vs names : List Expr} {k1 k2 : Nat} {p1 p2 : Pos} {nm : List Str} (h : parN c (.Tuple ts k1 p1) (.Tuple vs k2 p2) = some nm) : swappedStores [.Tuple ts k1 p1] (.Tuple vs k2 p2) X.env = pure (some nm) := by
  unfold swappedStores
  unfold parN at h
  simp only [M.block, M.kindOf, bne_self_eq_false, Bool.or_false] at h ⊢
  split
  · rename_i c1
    have z := ((if_pos c1).symm.trans h)
    cases z
  · rename_i c1
    split
    · rename_i c2
      have z := (((if_neg c1).trans (if_pos c2)).symm.trans h)
      cases z
    · rename_i c2
      split
      · rename_i c3
        have z := (((if_neg c1).trans ((if_neg c2).trans (if_pos c3))).symm.trans h)
        cases z
      · rename_i c3
        split
        · rename_i c4
          have z := (((if_neg c1).trans ((if_neg c2).trans ((if_neg c3).trans (if_pos c4)))).symm.trans h)
          cases z
        · rename_i c4
          split
          · rename_i c5
            have z := (((if_neg c1).trans ((if_neg c2).trans ((if_neg c3).trans ((if_neg c4).trans (if_pos c5))))).symm.trans h)
            cases z
          · rename_i c5
            have z := Option.some.inj (((if_neg c1).trans ((if_neg c2).trans ((if_neg c3).trans ((if_neg c4).trans (if_neg c5))))).symm.trans h)
            rw [← z]
            rfl
theorem swaps_lc (M : Mat X p c k) {elt : Expr} {gs : List Comprehension} {scope : Scope} {ps py : Pos} {y : Str} (l : Nat) :
    swapsWith (.ListComp elt gs scope ps) (some (.Name y py)) l X.env = pure (swapC c y py (.ListComp elt gs scope ps)) := by
  unfold swapsWith swapC
  simp only [M.block, M.kindOf]
  rfl
theorem k_asgN (M : Mat X p c k) {x : Str} {i : Nat} {px : Pos} (hl : locB c x = true) (hi : ixOf c.N x = some i) (hs : swapsWith e (some (.Name x px)) pos.line X.env = pure false) (ha : PE X e (tE p X.K ca)) : PS X (.Assign [.Name x px] e pos) (tS p X.K (.asg (.nm i) ca)) := by
  obtain ⟨h1, h2⟩ := M.loc hl
  refine PS.imp (ps_set (i := i) (by rw [M.hN]; exact M.nd) (by rw [M.hN]; exact ixOf_get hi) h1 ha hs h2) fun D σ H h => ?_
  obtain ⟨ρ, S, e, r, sm, en, h, q⟩ := h
  simp only [ex, Option.bind_eq_some_iff, Option.map_eq_some_iff] at h
  obtain ⟨x, h1, e1, h2, h3⟩ := h
  subst h3
  refine st1 sm en h1 fun ρ1 H1 v p1 g1 s1 en1 r1 => ?_
  simp only [bindT] at h2
  split at h2
  · cases h2
    exact q ρ1 H1 p1 g1 s1 _ (en1.set r1 i)
  · cases h2
theorem k_asgLc (M : Mat X p c k) {x : Str} {i : Nat} {px : Pos} {elt tg it : Expr} {scope : Scope} {ps : Pos} {ifs : List Expr} {t : Tg} {cif : C} (hl : locB c x = true) (hi : ixOf c.N x = some i)
    (hb : blkC c.N { kind := .function, names := c.names, isGenerator := false, isCoroutine := false } scope (ownOf c.N scope.names) = true)
    (ht : tgIn ((ownOf c.N scope.names).map (·.2)) t = true) (hs : notSet it = true) (hi2 : PI X tg it (tI p X.K ci))
    (hg : ∀ X', Mat X' p (blkCc c scope.names) k → PG X' tg (tG X'.K t)) (hif : ∀ X', Mat X' p (blkCc c scope.names) k → PTs X' ifs (tTs p X'.K cif))
    (he : ∀ X', Mat X' p (blkCc c scope.names) k → PE X' elt (tE p X'.K ca)) : PS X (.Assign [.Name x px] (.ListComp elt [⟨tg, it, ifs, 0⟩] scope ps) pos) (tS p X.K (.asg (.nm i) (.lc ci t cif ca ((ownOf c.N scope.names).map (·.2))))) := by
  by_cases sw : swapC c x px (.ListComp elt [⟨tg, it, ifs, 0⟩] scope ps) = true
  · have ok1 := blkOk_by hb
    have hk : scope.kind = .function := ok1.kind
    have ok : BlkOk X.N X.env.scope scope (ownOf c.N scope.names) := ⟨ok1.kind, ok1.uniq, by rw [M.hN]; exact ok1.ix, by rw [M.sc]; exact ok1.free, by rw [M.hN]; exact ok1.own⟩
    have hloc : X.env.scope.names.lookup x = some .local := by
      simp only [swapC, Bool.and_eq_true] at sw
      rw [M.sc]
      exact eq_of_beq sw.1.1
    refine PS.imp (ps_setLc (i := i) (te := tE p X.K ca) (tt := tTs p X.K cif) (g := tG X.K t) (wi := tI p X.K ci) M.calm (by rw [M.hN]; exact M.nd) (by rw [M.hN]; exact ixOf_get hi) hloc (by rw [swaps_lc M, sw]) hi2 ok (fun s H C cl fp => hg _ (M.blk hk s H C cl fp)) (fun s H C cl fp => hif _ (M.blk hk s H C cl fp)) (fun s H C cl fp => he _ (M.blk hk s H C cl fp)) (foldNo hs _)) fun D σ H h => ?_
    obtain ⟨ρ, S, e, r, sm, en, h, q⟩ := h
    simp only [ex, Option.bind_eq_some_iff, Option.map_eq_some_iff] at h
    obtain ⟨x, h1, e1, h2, h3⟩ := h
    subst h3
    refine lc_read ht (st1 sm en h1 fun ρ1 H1 v p1 g1 s1 en1 r1 => ?_)
    simp only [bindT] at h2
    split at h2
    · cases h2
      exact q ρ1 H1 p1 g1 s1 _ (en1.set r1 i)
    · cases h2
  · exact k_asgN M hl hi (by rw [swaps_lc M]; simp [sw]) (k_lc M hb ht hs hi2 hg hif he)
theorem k_asgT (M : Mat X p c k) {ts : List Expr} {k1 : Nat} {p1 : Pos} {t : Tg} (hn : noPar c (.Tuple ts k1 p1) e = true) (hc : isComp e = false) (hg : PG X (.Tuple ts k1 p1) (tG X.K t)) (ha : PE X e (tE p X.K ca)) :
    PS X (.Assign [.Tuple ts k1 p1] e pos) (tS p X.K (.asg t ca)) :=
  PS.imp (ps_asg ha hg (by cases e <;> first | rfl | (simp [isComp] at hc; done)) (noPar_ok M hn) rfl) fun D σ H h => asg_read h
/-- a value put into a dict of the store -/
theorem k_seti (hu : X.A.units + 1 < cLine) {o i : Expr} {p1 : Pos} (hs : isSlice i = false) (hc : isComp e = false) (ho : PE X o (tE p X.K ca)) (hi : PE X i (tE p X.K cb)) (hv : PE X e (tE p X.K cd)) :
    PS X (.Assign [.Subscript o i p1] e pos) (tS p X.K (.seti cd ca cb)) := by
  have one : PS X (.Assign [.Subscript o i p1] e pos) _ := ps_asg hv (pg_sub ho hi set_list (by intro v; cases i <;> first | rfl | (simp [isSlice] at hs; done))) (by cases e <;> first | rfl | (simp [isComp] at hc; done)) (by cases e <;> rfl) rfl
  have two : PS X (.Assign [.Subscript o i p1] e pos) _ := ps_dput hu ho hi hv (by cases e <;> first | rfl | (simp [isComp] at hc; done))
  refine PS.by2 one two fun D σ H h => ?_
  obtain ⟨ρ, S, e, r, sm, en, h, q⟩ := h
  simp only [ex, Option.bind_eq_some_iff, Option.map_eq_some_iff] at h
  obtain ⟨x1, h1, x2, h2, x3, h3, S', h4, h5⟩ := h
  subst h5
  replace h4 := alt_or h4
  rcases h4 with h4 | h4
  · left
    refine st1 sm en h1 fun ρ1 H1 v p1 g1 s1 e1 r1 => st1 s1 e1 h2 fun ρ2 H2 w p2 g2 s2 e2 r2 => st1 s2 e2 h3 fun ρ3 H3 z p3 g3 s3 e3 r3 => ?_
    obtain ⟨d2, S2⟩ := x2
    obtain ⟨d3, S3⟩ := x3
    unfold setS at h4
    split at h4
    · rename_i n kk hn hk
      simp only at hn hk
      subst hn; subst hk
      split at h4
      · rename_i xs hx
        simp only [Option.map_eq_some_iff] at h4
        obtain ⟨j, hj, h6⟩ := h4
        subst h6
        obtain ⟨A, ev1, hA⟩ := rep_ref r2
        have hA3 := p3 _ _ hA
        obtain ⟨vs, q1, q2⟩ := s3.obj n _ A hx hA3
        refine ⟨A, vs, kk, j, ev1, rep_int r3, q1, by rw [q2.length]; exact hj, ?_⟩
        have rr := Reps.set ((r1.mono g2 p2).mono g3 p3) j q2
        have gm : Gro H3 (upd H3 A (.lst (vs.set j v))) := Gro.mut q1
        exact q ρ3 _ (p1.trans (p2.trans p3)) ((g1.trans (g2.trans g3)).trans gm) (s3.put hx hA3 q1 rr) σ (e3.mono (Pre.refl _) gm)
      · cases h4
    · cases h4
  · right
    refine st1 sm en h1 fun ρ1 H1 v p1 g1 s1 e1 r1 => st1 s1 e1 h2 fun ρ2 H2 w p2 g2 s2 e2 r2 => st1 s2 e2 h3 fun ρ3 H3 z p3 g3 s3 e3 r3 => ?_
    obtain ⟨d2, S2⟩ := x2
    obtain ⟨d3, S3⟩ := x3
    unfold dputS at h4
    split at h4
    · rename_i n hn
      simp only at hn
      subst hn
      simp only [Option.bind_eq_some_iff] at h4
      obtain ⟨kk, h6, kvs, h7, h8⟩ := h4
      split at h8
      · rename_i hz
        cases h8
        obtain ⟨A, ev1, hA⟩ := rep_ref r2
        have hA3 := p3 _ _ hA
        obtain ⟨e4, ws, q1, q2, q3⟩ := s3.dct h7 hA3
        have hl : ws.length < sizeLine := by
          have := congrArg List.length q2
          simp only [List.length_map] at this
          rw [this]; exact hz
        obtain ⟨t1, t2⟩ := put_rel (kk := kk) ((r1.mono g2 p2).mono g3 p3) q2 q3
        have gm : Gro H3 (upd H3 A (.dK (putK ws kk v))) := Gro.mutD q1
        exact ⟨A, _, ev1, .inl ⟨ws, kk, q1, rep_key r3 h6, hl, rfl⟩, q ρ3 _ (p1.trans (p2.trans p3)) ((g1.trans (g2.trans g3)).trans gm) (s3.putD e4 hA3 q1 t1 t2) σ (e3.mono (Pre.refl _) gm)⟩
      · cases h8
    · cases h4
/-- name += e -/
def rAug (K : PySem.W.Frag) (o : Bin) : TIp := fun v w H Q => ∃ (ρ : List Addr) (a b d : D), Rep K ρ H v a ∧ Rep K ρ H w b ∧ augop o a b = some d ∧ ∀ x, Rep K ρ H x d → Q x H
theorem pip_aug {op : Operator} {o : Bin} (h : augB op = some o) : PIp X op (rAug X.K o) := by
  intro pins s σ H x y v u Q I rx ry q
  obtain ⟨ρ, a, b, d, ra, rb, e, k⟩ := q
  cases op <;> simp only [augB, Option.some.injEq, reduceCtorEq] at h <;> subst h
  · cases ra with
    | int i => cases rb with
      | int j => cases e; exact in_add pins s σ H _ _ v u Q I rx ry ⟨i, j, rfl, rfl, k _ (.int _)⟩
      | _ => cases e
    | str i => cases rb with
      | str j =>
        simp only [augop] at e
        split at e
        · rename_i hz
          cases e
          exact in_addS pins s σ H _ _ v u Q I rx ry ⟨i, j, rfl, rfl, hz, k _ (.str _)⟩
        · cases e
      | _ => cases e
    | _ => cases e
  · cases ra with
    | int i => cases rb with
      | int j => cases e; exact in_sub pins s σ H _ _ v u Q I rx ry ⟨i, j, rfl, rfl, k _ (.int _)⟩
      | _ => cases e
    | _ => cases e
theorem k_aug (M : Mat X p c k) {op : Operator} {o : Bin} {x : Str} {px : Pos} {i : Nat} (hl : locB c x = true) (hi : ixOf c.N x = some i) (ho : augB op = some o) (ha : PE X e (tE p X.K ca)) :
    PS X (.AugAssign (.Name x px) op e pos) (tS p X.K (.aug i o ca)) := by
  obtain ⟨hloc, hf⟩ := M.loc hl
  refine PS.imp (ps_aug (by rw [M.hN]; exact M.nd) (by rw [M.hN]; exact ixOf_get hi) hloc ha (pip_aug ho) hf) fun D σ H h => ?_
  obtain ⟨ρ, S, e, r, sm, en, h, q⟩ := h
  simp only [ex] at h
  split at h
  · rename_i d hd
    simp only [Option.bind_eq_some_iff, Option.map_eq_some_iff] at h
    obtain ⟨x1, h1, z, h2, h3⟩ := h
    subst h3
    obtain ⟨v, hv, rv⟩ := en.2 i d hd
    refine ⟨v, hv, st1 sm en h1 fun ρ1 H1 w p1 g1 s1 e1 r1 => ⟨ρ1, d, x1.1, z, rv.mono g1 p1, r1, h2, fun y ry => ?_⟩⟩
    exact q ρ1 H1 p1 g1 s1 _ (e1.set ry i)
  · cases h
theorem k_setf (M : Mat X p c k) {o : Expr} {f : Str} {p1 : Pos} (hc : isComp e = false) (ho : PE X o (tE p X.K ca)) (hv : PE X e (tE p X.K cd)) : PS X (.Assign [.Attribute o f p1] e pos) (tS p X.K (.setf cd ca f (clsFor c.G f))) := by
  refine PS.imp (ps_fld ho hv (by cases e <;> first | rfl | (simp [isComp] at hc; done))) fun D σ H h => ?_
  obtain ⟨ρ, S, e, r, sm, en, h, q⟩ := h
  simp only [ex, Option.bind_eq_some_iff, Option.map_eq_some_iff] at h
  obtain ⟨⟨d1, S1⟩, h1, ⟨d2, S2⟩, h2, S', h3, h4⟩ := h
  subst h4
  obtain ⟨n, c', fs, e1, hi, hcc, hl, e2⟩ := putfS_some h3
  simp only at e1 hi e2
  subst e1; subst e2
  refine st1 sm en h1 fun ρ1 H1 v p1 g1 s1 e1 r1 => st1 s1 e1 h2 fun ρ2 H2 w p2 g2 s2 e2 r2 => ?_
  obtain ⟨A, eA, hA⟩ := rep_ref r2
  subst eA
  obtain ⟨q0, C, dx, ws, q1, q2, q3, q4⟩ := s2.ins hi hA
  obtain ⟨c1, c2⟩ := M.cls hcc q2
  obtain ⟨k1, k2⟩ := putF_reps (f := f) (r1.mono g2 p2) q3 q4
  have gm : Gro H2 (upd H2 A (.ins C dx (putF f v ws))) := Gro.mutI q1
  refine ⟨A, C, dx, ws, rfl, q1, c1, c2, ?_, q ρ2 _ (p1.trans p2) ((g1.trans g2).trans gm) (s2.putI q0 hA q1 q2 k1 k2) σ (e2.mono (Pre.refl _) gm)⟩
  have : ws.length = fs.length := by simpa using congrArg List.length q3
  rw [this]; exact hl
theorem k_augf (M : Mat X p c k) {o : Expr} {f : Str} {p1 : Pos} {op : Operator} {q : Bin} (hq : augB op = some q) (ho : PE X o (tE p X.K ca)) (hv : PE X e (tE p X.K cd)) : PS X (.AugAssign (.Attribute o f p1) op e pos) (tS p X.K (.augf ca f (clsFor c.G f) q cd)) := by
  refine PS.imp (ps_fldaug ho hv (pip_aug hq)) fun D σ H h => ?_
  obtain ⟨ρ, S, e, r, sm, en, h, kq⟩ := h
  simp only [ex, Option.bind_eq_some_iff] at h
  obtain ⟨⟨d1, S1⟩, h1, d, h2, ⟨d2, S2⟩, h3, z, h4, h5⟩ := h
  split at h5
  · rename_i hcl
    simp only [Option.map_eq_some_iff] at h5
    obtain ⟨S', h5, h6⟩ := h5
    subst h6
    obtain ⟨n, c', fs, e1, hi, hcc, hl⟩ := fldS_some h2
    simp only at e1 hi
    subst e1
    obtain ⟨n', c'', fs', e2, hi', hcc', hl', e3⟩ := putfS_some h5
    cases e2
    subst e3
    have hcl : (insAt S1 n).map (·.1) = (insAt S2 n).map (·.1) := hcl
    rw [hi, hi'] at hcl
    simp only [Option.map_some, Option.some.injEq] at hcl
    subst hcl
    refine st1 sm en h1 fun ρ1 H1 v p1 g1 s1 e1 r1 => ?_
    obtain ⟨A, eA, hA⟩ := rep_ref r1
    subst eA
    obtain ⟨_, C, dx, ws, q1, q2, q3, q4⟩ := s1.ins hi hA
    obtain ⟨u, l1, l2⟩ := Rep.of_lookup q3 q4 hl
    obtain ⟨c1, c2⟩ := M.cls hcc q2
    refine ⟨A, C, dx, ws, u, rfl, q1, c1, c2, l1, st1 s1 e1 h3 fun ρ2 H2 w p2 g2 s2 e2 r2 => ?_⟩
    refine ⟨ρ2, d, _, z, l2.mono g2 p2, r2, h4, fun y ry => ?_⟩
    have hA2 := p2 _ _ hA
    obtain ⟨q0', C', dx', ws', q1', q2', q3', q4'⟩ := s2.ins hi' hA2
    rw [q2] at q2'
    cases q2'
    obtain ⟨k1, k2⟩ := putF_reps (f := f) ry q3' q4'
    have gm : Gro H2 (upd H2 A (.ins C dx' (putF f y ws'))) := Gro.mutI q1'
    refine ⟨dx', ws', q1', ?_, kq ρ2 _ (p1.trans p2) ((g1.trans g2).trans gm) (s2.putI q0' hA2 q1' q2 k1 k2) σ (e2.mono (Pre.refl _) gm)⟩
    have : ws'.length = fs'.length := by simpa using congrArg List.length q3'
    rw [this]; exact hl'
  · cases h5
theorem k_for (M : Mat X p c k) {tg it : Expr} {t : Tg} (hs : notSet it = true) (hi : PI X tg it (tI p X.K ci)) (hg : PG X tg (tG X.K t)) (hb : PSs X sts (tS p X.K sb)) : PS X (.For tg it sts [] pos) (tS p X.K (.for_ ci t sb)) := by
  refine PS.imp (ps_for (by rw [M.xe]; exact PassesOwn.never) M.calm hi hg hb (foldNo hs _)) fun D σ H h => ?_
  obtain ⟨ρ, S, e, r, sm, en, h, q⟩ := h
  simp only [ex, Option.bind_eq_some_iff] at h
  obtain ⟨⟨d1, S1⟩, h1, h2⟩ := h
  split at h2
  · rename_i items cks hd
    simp only at hd
    subst hd
    refine ⟨ρ, S, e, items, cks, S1, sm, en, h1, fun ρ1 H1 J p1 g1 s1 ok => ?_⟩
    refine ⟨fun i m σ2 H2 => m = items.length - i ∧ i ≤ items.length ∧ ∃ (ρ2 : List Addr) (S2 : Store) (e2 : Env'), Pre ρ1 ρ2 ∧ Gro H1 H2 ∧ Sim X.K ρ2 S2 H2 ∧ EnvR X.K ρ2 H2 e2 σ2 ∧ forL (ex p sb) t cks (items.drop i) e2 S2 = some r,
      ⟨items.length, by simp, Nat.zero_le _, ρ1, S1, e, Pre.refl _, Gro.refl _, s1, en.mono p1 g1, by simpa using h2⟩, ?_⟩
    rintro i m σ2 H2 ⟨rfl, hle, ρ2, S2, e2, p2, g2, s2, en2, h5⟩
    cases hdr : items.drop i with
    | nil =>
      rw [hdr] at h5
      simp only [forL] at h5
      split at h5
      · rename_i hc
        cases h5
        exact .inl ⟨((ok ρ2 S2 H2 p2 g2 s2 hc) i).1 (drop_nil hdr hle), q ρ2 H2 (p1.trans p2) (g1.trans g2) s2 σ2 en2⟩
      · cases h5
    | cons d rr =>
      obtain ⟨hdi, hdr2, hlt⟩ := drop_cons hdr
      rw [hdr] at h5
      simp only [forL] at h5
      split at h5
      · rename_i hc
        obtain ⟨go, yl⟩ := ((ok ρ2 S2 H2 p2 g2 s2 hc) i).2 d hdi
        simp only [Option.bind_eq_some_iff] at h5
        obtain ⟨e3, hbd, ⟨f4, e4, S4⟩, hbo, h6⟩ := h5
        refine .inr ⟨go, fun σ' H' => ∃ m', m' < items.length - i ∧ (m' = items.length - (i + 1) ∧ i + 1 ≤ items.length ∧ ∃ (ρ2 : List Addr) (S2 : Store) (e2 : Env'), Pre ρ1 ρ2 ∧ Gro H1 H' ∧ Sim X.K ρ2 S2 H' ∧ EnvR X.K ρ2 H' e2 σ' ∧ forL (ex p sb) t cks (items.drop (i + 1)) e2 S2 = some r), fun σ' H' z => z, fun x H3 hy => ?_⟩
        obtain ⟨g3, s3, r3⟩ := yl x H3 hy
        refine ⟨ρ2, S2, e2, d, e3, s3, en2.mono (Pre.refl _) g3, r3, hbd, fun σ4 en4 _ => ⟨ρ2, S2, e3, _, s3, en4, hbo, fun ρ5 H5 p5 g5 s5 => ?_⟩⟩
        cases f4 with
        | nx => exact fun σ6 en6 => ⟨items.length - (i + 1), by omega, rfl, hlt, ρ5, S4, e4, p2.trans p5, (g2.trans g3).trans g5, s5, en6, by rw [hdr2]; exact h6⟩
        | ct => exact fun σ6 en6 => ⟨items.length - (i + 1), by omega, rfl, hlt, ρ5, S4, e4, p2.trans p5, (g2.trans g3).trans g5, s5, en6, by rw [hdr2]; exact h6⟩
        | bk =>
          simp only [Option.some.injEq] at h6
          subst h6
          exact fun σ6 en6 => q ρ5 H5 (p1.trans (p2.trans p5)) (g1.trans ((g2.trans g3).trans g5)) s5 σ6 en6
        | rt v =>
          simp only [Option.some.injEq] at h6
          subst h6
          exact fun w rw' => q ρ5 H5 (p1.trans (p2.trans p5)) (g1.trans ((g2.trans g3).trans g5)) s5 w rw'
      · cases h5
  · cases h2
theorem k_while (M : Mat X p c k) (ht : PT X e (tTs p X.K ca)) (hb : PSs X sts (tS p X.K sb)) : PS X (.While e sts [] pos) (tS p X.K (.whl ca sb)) := by
  refine PS.imp (ps_while (by rw [M.xe]; exact PassesOwn.never) ht hb) fun D σ H h => ?_
  obtain ⟨ρ, S, e, r, sm, en, h, q⟩ := h
  simp only [ex] at h
  refine ⟨fun m σ2 H2 => ∃ (ρ2 : List Addr) (S2 : Store) (e2 : Env'), Pre ρ ρ2 ∧ Gro H H2 ∧ Sim X.K ρ2 S2 H2 ∧ EnvR X.K ρ2 H2 e2 σ2 ∧ whL (ev p ca) (ex p sb) m e2 S2 = some r, ⟨p.W, ρ, S, e, Pre.refl _, Gro.refl _, sm, en, h⟩, ?_⟩
  rintro m σ2 H2 ⟨ρ2, S2, e2, p2, g2, s2, en2, h5⟩
  cases m with
  | zero => simp [whL] at h5
  | succ m =>
    simp only [whL, Option.bind_eq_some_iff] at h5
    obtain ⟨⟨bv, S3⟩, hcnd, h6⟩ := h5
    split at h6
    · rename_i hbv
      simp only at hbv
      subst hbv
      simp only [Option.bind_eq_some_iff] at h6
      obtain ⟨⟨f4, e4, S4⟩, hbo, h7⟩ := h6
      refine stT s2 en2 hcnd fun ρ3 H3 p3 g3 s3 en3 => ?_
      rw [if_pos rfl]
      refine ⟨fun σ' H' => ∃ m', m' < m + 1 ∧ ∃ (ρ2 : List Addr) (S2 : Store) (e2 : Env'), Pre ρ ρ2 ∧ Gro H H' ∧ Sim X.K ρ2 S2 H' ∧ EnvR X.K ρ2 H' e2 σ' ∧ whL (ev p ca) (ex p sb) m' e2 S2 = some r, fun σ' H' z => z, ρ3, S3, e2, _, s3, en3, hbo, fun ρ5 H5 p5 g5 s5 => ?_⟩
      cases f4 with
      | nx => exact fun σ6 en6 => ⟨m, by omega, ρ5, S4, e4, p2.trans (p3.trans p5), (g2.trans g3).trans g5, s5, en6, h7⟩
      | ct => exact fun σ6 en6 => ⟨m, by omega, ρ5, S4, e4, p2.trans (p3.trans p5), (g2.trans g3).trans g5, s5, en6, h7⟩
      | bk =>
        simp only [Option.some.injEq] at h7
        subst h7
        exact fun σ6 en6 => q ρ5 H5 (p2.trans (p3.trans p5)) ((g2.trans g3).trans g5) s5 σ6 en6
      | rt v =>
        simp only [Option.some.injEq] at h7
        subst h7
        exact fun w rw' => q ρ5 H5 (p2.trans (p3.trans p5)) ((g2.trans g3).trans g5) s5 w rw'
    · rename_i hbv
      simp only at hbv
      subst hbv
      simp only [Option.some.injEq] at h6
      subst h6
      refine stT s2 en2 hcnd fun ρ3 H3 p3 g3 s3 en3 => ?_
      rw [if_neg (by decide)]
      exact q ρ3 H3 (p2.trans p3) (g2.trans g3) s3 σ2 en3
    · cases h6
theorem k_par2 (M : Mat X p c k) {x y : Str} {i j : Nat} {px py pt p2 : Pos} {kt k2 : Nat} (hp : parN c (.Tuple [.Name x px, .Name y py] kt pt) (.Tuple [a, b] k2 p2) = some [x, y]) (hi : ixOf c.N x = some i) (hj : ixOf c.N y = some j) (hij : i ≠ j)
    (h1 : notStar a = true) (h2 : notStar b = true) (hx : c.names.lookup x = some .local) (hy : c.names.lookup y = some .local) (ha : PE X a (tE p X.K ca)) (hb : PE X b (tE p X.K cb)) :
    PS X (.Assign [.Tuple [.Name x px, .Name y py] kt pt] (.Tuple [a, b] k2 p2) pos) (tS p X.K (.asg (.tp 2 (.cons (.nm i) (.cons (.nm j) .nil))) (.tup (.cons ca (.cons cb .nil))))) := by
  have hA : PA X [a, b] (tA p X.K (.cons ca (.cons cb .nil))) := k_acons h1 ha (k_acons h2 hb k_anil)
  refine PS.imp (ps_par (i := i) (j := j) M.calm (by rw [M.hN]; exact M.nd) (by rw [M.hN]; exact ixOf_get hi) (by rw [M.hN]; exact ixOf_get hj) hij (by rw [M.sc]; exact hx) (by rw [M.sc]; exact hy) hA (parN_ok (names := []) M hp)) fun D σ H h => ?_
  obtain ⟨ρ, S, e, r, sm, en, h, q⟩ := h
  simp only [ex, Option.bind_eq_some_iff, Option.map_eq_some_iff] at h
  obtain ⟨⟨d0, S0⟩, h1, e1, h2, h3⟩ := h
  subst h3
  rw [ev] at h1
  simp only [Option.bind_eq_some_iff] at h1
  obtain ⟨⟨dd, S1⟩, h4, h5⟩ := h1
  split at h5
  · rename_i ds hd
    simp only at hd
    subst hd
    obtain ⟨hz, h6⟩ := okI_some h5
    cases h6
    refine stA sm en h4 fun ρ1 H1 vs p1 g1 s1 en1 r1 => ?_
    simp only [bindT] at h2
    split at h2
    · rename_i hn
      match ds, hn, r1 with
      | [d1, d2], _, .cons r1 (.cons r2 .nil) =>
        simp only [bindTs, bindT, Option.bind_eq_some_iff] at h2
        obtain ⟨e2, h6, e3, h7, h8⟩ := h2
        split at h6
        · cases h6
          split at h7
          · cases h7
            cases h8
            exact ⟨_, _, rfl, q ρ1 H1 p1 g1 s1 _ ((en1.set r1 i).set r2 j)⟩
          · cases h7
        · cases h6
    · cases h2
  · cases h5
theorem k_par3 (M : Mat X p c k) {x y z : Str} {i j l : Nat} {px py pz pt p2 : Pos} {kt k2 : Nat} (hp : parN c (.Tuple [.Name x px, .Name y py, .Name z pz] kt pt) (.Tuple [a, b, d] k2 p2) = some [x, y, z])
    (hi : ixOf c.N x = some i) (hj : ixOf c.N y = some j) (hl : ixOf c.N z = some l) (hij : i ≠ j) (hil : i ≠ l) (hjl : j ≠ l)
    (h1 : notStar a = true) (h2 : notStar b = true) (h3 : notStar d = true) (hx : c.names.lookup x = some .local) (hy : c.names.lookup y = some .local) (hz : c.names.lookup z = some .local) (ha : PE X a (tE p X.K ca)) (hb : PE X b (tE p X.K cb)) (hd : PE X d (tE p X.K cd)) :
    PS X (.Assign [.Tuple [.Name x px, .Name y py, .Name z pz] kt pt] (.Tuple [a, b, d] k2 p2) pos) (tS p X.K (.asg (.tp 3 (.cons (.nm i) (.cons (.nm j) (.cons (.nm l) .nil)))) (.tup (.cons ca (.cons cb (.cons cd .nil)))))) := by
  have hA : PA X [a, b, d] (tA p X.K (.cons ca (.cons cb (.cons cd .nil)))) := k_acons h1 ha (k_acons h2 hb (k_acons h3 hd k_anil))
  refine PS.imp (ps_par3 (i := i) (j := j) (l := l) M.calm (by rw [M.hN]; exact M.nd) (by rw [M.hN]; exact ixOf_get hi) (by rw [M.hN]; exact ixOf_get hj) (by rw [M.hN]; exact ixOf_get hl) hij hil hjl (by rw [M.sc]; exact hx) (by rw [M.sc]; exact hy) (by rw [M.sc]; exact hz) hA (parN_ok (names := []) M hp)) fun D σ H h => ?_
  obtain ⟨ρ, S, e, r, sm, en, h, q⟩ := h
  simp only [ex, Option.bind_eq_some_iff, Option.map_eq_some_iff] at h
  obtain ⟨⟨d0, S0⟩, h1, e1, h2, h3⟩ := h
  subst h3
  rw [ev] at h1
  simp only [Option.bind_eq_some_iff] at h1
  obtain ⟨⟨dd, S1⟩, h4, h5⟩ := h1
  split at h5
  · rename_i ds hd
    simp only at hd
    subst hd
    obtain ⟨hz, h6⟩ := okI_some h5
    cases h6
    refine stA sm en h4 fun ρ1 H1 vs p1 g1 s1 en1 r1 => ?_
    simp only [bindT] at h2
    split at h2
    · rename_i hn
      match ds, hn, r1 with
      | [d1, d2, d3], _, .cons r1 (.cons r2 (.cons r3 .nil)) =>
        simp only [bindTs, bindT, Option.bind_eq_some_iff] at h2
        obtain ⟨e2, h6, e3, h7, e4, h8, h9⟩ := h2
        split at h6
        · cases h6
          split at h7
          · cases h7
            split at h8
            · cases h8
              cases h9
              exact ⟨_, _, _, rfl, q ρ1 H1 p1 g1 s1 _ (((en1.set r1 i).set r2 j).set r3 l)⟩
            · cases h8
          · cases h7
        · cases h6
    · cases h2
  · cases h5
end
end Tm

set_option Elab.async false
set_option linter.all false
set_option maxRecDepth 100000
set_option maxHeartbeats 4000000
namespace Tm
open PySem PySem.Spec PyProof.Rows L2
section
variable {X : Cx} {p : Pm} {c : Cc} {k : Nat}
theorem k_cPar (M : Mat X p c k) (n : Nat) {t v : Expr} {nm : List Str} {pos : Pos} (hp : parN c t v = some nm) : PS X (.Assign [t] v pos) (tS p X.K (cPar n c t v nm)) := by
  have sn := snd_all p k n
  unfold cPar
  split
  · rename_i x px y py kt pt a b k2 p2
    split
    · rename_i i j hi hj
      split
      · rename_i hc
        simp only [Bool.and_eq_true, decide_eq_true_eq, Bool.not_eq_true', beq_eq_false_iff_ne, beq_iff_eq] at hc
        obtain ⟨⟨⟨⟨⟨h1, h2⟩, h3⟩, h4⟩, h5⟩, h6⟩ := hc
        exact k_par2 M (by rw [← h1]; exact hp) hi hj h4 h5 h6 h2 h3 (sn.e X c M a) (sn.e X c M b)
      · exact k_sbad
    · exact k_sbad
  · rename_i x px y py z pz kt pt a b d k2 p2
    split
    · rename_i i j l hi hj hl
      split
      · rename_i hc
        simp only [Bool.and_eq_true, decide_eq_true_eq, Bool.not_eq_true', beq_eq_false_iff_ne, beq_iff_eq] at hc
        obtain ⟨⟨⟨⟨⟨⟨⟨⟨⟨h1, h2⟩, h3⟩, h4⟩, h5⟩, h6⟩, h7⟩, h8⟩, h9⟩, h10⟩ := hc
        exact k_par3 M (by rw [← h1]; exact hp) hi hj hl h5 h6 h7 h8 h9 h10 h2 h3 h4 (sn.e X c M a) (sn.e X c M b) (sn.e X c M d)
      · exact k_sbad
    · exact k_sbad
  · exact k_sbad
theorem k_asgName (M : Mat X p c k) (n m : Nat) {x : Str} {px pos : Pos} {e : Expr} : PS X (.Assign [.Name x px] e pos) (tS p X.K (if (isComp e && !onlyLc e) = true then .bad else .asg (cTg m c (.Name x px)) (cE n c e))) := by
  have sn := snd_all p k n
  split
  · exact k_sbad
  · rename_i hc
    have gb : ∀ {ca : C}, PS X (.Assign [.Name x px] e pos) (tS p X.K (.asg .bad ca)) := fun {ca} => ⟨fun _ _ _ _ _ _ h => by
      obtain ⟨_, _, _, _, _, _, h, _⟩ := h
      simp only [ex, Option.bind_eq_some_iff, Option.map_eq_some_iff] at h
      obtain ⟨x, _, e1, h2, _⟩ := h
      simp [bindT] at h2⟩
    have cb : ∀ {t : Tg}, PS X (.Assign [.Name x px] e pos) (tS p X.K (.asg t .bad)) := fun {t} => ⟨fun _ _ _ _ _ _ h => by
      obtain ⟨_, _, _, _, _, _, h, _⟩ := h
      simp only [ex, ev, Option.bind_eq_some_iff] at h
      obtain ⟨x, h1, _⟩ := h
      cases h1⟩
    unfold cTg
    split
    · rename_i hl
      split
      · rename_i i hi
        by_cases hcp : isComp e = true
        · cases e with
          | ListComp elt gs scope ps =>
            cases n with
            | zero => unfold cE; exact cb
            | succ n =>
              have sm := snd_all p k n
              unfold cE
              simp only
              split
              · rename_i tg it ifs
                split
                · rename_i hb
                  rw [Bool.and_eq_true, Bool.and_eq_true] at hb
                  refine k_asgLc M hl hi hb.1.1 hb.1.2 hb.2 (sm.i X c M tg it) (fun X' M' => (k_tg_all M' n).1 tg) (fun X' M' => ?_) (fun X' M' => sm.e X' _ M' elt)
                  split
                  · exact k_ifs0
                  · exact k_ifs1 (sm.t X' _ M' _)
                  · exact k_ifsbad
                · exact cb
              · exact cb
          | SetComp => simp [isComp, onlyLc] at hc
          | DictComp => simp [isComp, onlyLc] at hc
          | _ => simp [isComp] at hcp
        · exact k_asgN M hl hi (by cases e <;> first | rfl | (simp [isComp] at hcp; done)) (sn.e X c M e)
      · exact gb
    · exact gb
structure SndS (p : Pm) (k n : Nat) : Prop where
  s : ∀ (X : Cx) (c : Cc), Mat X p c k → ∀ s, PS X s (tS p X.K (cS n c s))
  ss : ∀ (X : Cx) (c : Cc), Mat X p c k → ∀ s, PSs X s (tS p X.K (cSs n c s))
theorem snds_all (p : Pm) (k : Nat) : ∀ n, SndS p k n
  | 0 => ⟨fun X c M s => by unfold cS; exact k_sbad, fun X c M s => by unfold cSs; exact k_ssbad⟩
  | n + 1 => by
    have ih := snds_all p k n
    have sn := snd_all p k n
    refine ⟨fun X c M s => ?_, fun X c M ss => ?_⟩
    · cases s with
      | Expr e pos =>
        unfold cS
        simp only
        split
        · exact k_sbad
        · rename_i h; exact k_drop (by simpa using h) (sn.e X c M e)
      | Return e pos =>
        cases e with
        | none => exact k_retN
        | some e => exact k_ret (sn.e X c M e)
      | Assign ts e pos =>
        unfold cS
        simp only
        split
        · rename_i t
          split
          · exact k_asgName M n n
          · rename_i ts k1 p1
            split
            · exact k_sbad
            · rename_i hc
              have hc' : isComp e = false := by simpa using hc
              split
              · rename_i hn
                exact k_asgT M hn hc' ((k_tg_all M n).1 _) (sn.e X c M e)
              · split
                · rename_i nm hp; exact k_cPar M n hp
                · exact k_sbad
          · rename_i o i p1
            split
            · exact k_sbad
            · rename_i hc
              rw [Bool.or_eq_true, not_or] at hc
              exact k_seti (by have := M.hu; omega) (by simpa using hc.1) (by simpa using hc.2) (sn.e X c M o) (sn.e X c M i) (sn.e X c M e)
          · rename_i o f p1
            split
            · exact k_sbad
            · rename_i hc
              exact k_setf M (by simpa using hc) (sn.e X c M o) (sn.e X c M e)
          · exact k_sbad
        · exact k_sbad
      | AugAssign t op e pos =>
        unfold cS
        simp only
        split
        · rename_i x px
          split
          · rename_i i o hi ho
            split
            · rename_i hl; exact k_aug M hl hi ho (sn.e X c M e)
            · exact k_sbad
          · exact k_sbad
        · rename_i o f p1
          split
          · rename_i q hq; exact k_augf M hq (sn.e X c M o) (sn.e X c M e)
          · exact k_sbad
        · exact k_sbad
      | If t a b pos => exact k_if (sn.t X c M t) (ih.ss X c M a) (ih.ss X c M b)
      | For t it b o pos =>
        unfold cS
        simp only
        split
        · split
          · rename_i hs; exact k_for M hs (sn.i X c M t it) ((k_tg_all M n).1 t) (ih.ss X c M b)
          · exact k_sbad
        · exact k_sbad
      | While t b o pos =>
        unfold cS
        simp only
        split
        · exact k_while M (sn.t X c M t) (ih.ss X c M b)
        · exact k_sbad
      | Pass pos => exact k_pass
      | Break pos => exact k_brk
      | Continue pos => exact k_cont
      | _ => exact k_sbad
    · cases ss with
      | nil => exact k_sskip
      | cons s r => exact k_seq (ih.s X c M s) (ih.ss X c M r)
end
end Tm

set_option Elab.async false
set_option linter.all false
set_option maxRecDepth 100000
set_option maxHeartbeats 4000000
namespace Tm
open PySem PySem.Spec PyProof.Rows L2
/-! ## whole programs -/
/-- a program: parameters, slots, body of each def; the constants; the module's dicts -/
structure Pr where
  fs : Nat → Option (Nat × Nat × St)
  gl : Nat → D
  kd : Nat → List (Str × D)
  fx : Str → Option Nat
def fin : Option (Fl × Env' × Store) → Option (D × Store)
  | some (.rt d, _, S) => some (d, S)
  | some (.nx, _, S) => some (.non, S)
  | _ => none
def env0 (np ns : Nat) (ds : List D) : Env' := ds.map some ++ List.replicate (ns - np) none
def run (q : Pr) (W : Nat) : Nat → Nat → List D → Store → Option (D × Store)
  | 0, _, _, _ => none
  | k + 1, f, ds, S => match q.fs f with
    | some (np, ns, body) => if ds.length = np then fin (ex ⟨run q W k, q.gl, q.kd, W, q.fx⟩ body (env0 np ns ds) S) else none
    | none => none
abbrev pm (q : Pr) (W k : Nat) : Pm := ⟨run q W k, q.gl, q.kd, W, q.fx⟩
theorem run_arity {q : Pr} {W k f np ns : Nat} {body : St} (h : q.fs f = some (np, ns, body)) : Arity (run q W k) f np := by
  intro ds S x e
  cases k with
  | zero => cases e
  | succ k =>
    simp only [run, h] at e
    split at e
    · assumption
    · cases e
/-- how the text's defs stand in the heap behind the top -/
structure Stands (K : PySem.W.Frag) (mg : Str → Option Value) (w : World) (q : Pr) (G : Gx) (n : Nat) : Prop where
  funs : ∀ (x : Str) (f : Nat) (ps : List Str), G.funs.lookup x = some (f, ps) → ∃ (a : Addr) (fd : FuncData) (qual : Str) (st : Stmt) (N : List Str), mg x = some (.ref a) ∧ Fun K x qual st a fd ∧ FnScope N ps (defScope st) ∧ Binds K fd ps [] ∧
    (∀ r ∈ G.kws, r.1 = x → ∀ (t : Shared) (us ws : List Value), us.length = r.2.1 → ws.length = r.2.2.1.length → BindsTo t fd ⟨us, r.2.2.1.zip ws⟩ (ps.zip (pick r.2.2.2 (us ++ ws)))) ∧
    q.fs f = some (ps.length, N.length, cSs n ⟨N, (defScope st).names, none, G⟩ (defBody st))
  cons : ∀ (x : Str) (g : Nat), G.cons.lookup x = some g → ∃ (u : Value) (v : V), mg x = some u ∧ RelV v u ∧ ∀ ρ H, Rep K ρ H v (q.gl g)
  dics : ∀ (x : Str) (g : Nat), G.dics.lookup x = some g → ∃ (a : Addr) (es : Array DictEntry) (n : Nat), mg x = some (.ref a) ∧ KDict K w a es n ∧
    ∀ z : Str, match lookK (q.kd g) z with
      | none => PySem.W.nsIn K a z = some none
      | some d => ∃ (u : Value) (v : V), PySem.W.nsIn K a z = some (some u) ∧ RelV v u ∧ ∀ ρ H, Rep K ρ H v d
  blt : ∀ x : Str, G.blt.contains x = true → mg x = none
  fnv : ∀ (x : Str) (a : Addr), PySem.W.nsIn K mainGlobals x = some (some (.ref a)) → mg x = some (.ref a)
  fxs : ∀ (x : Str) (i : Nat), q.fx x = some i → ∃ ps, G.funs.lookup x = some (i, ps)
  clss : ∀ (x : Str) (f : Nat) (ps fl : List Str), G.clss.lookup x = some (f, ps, fl) → ∃ (C fa : Addr) (fd : FuncData) (qual : Str) (st : Stmt) (N : List Str), mg x = some (.ref C) ∧ PySem.W.nsIn K mainGlobals x = some (some (.ref C)) ∧ Mk K C fa ∧ Fun K "__init__" qual st fa fd ∧ FnScope N ps (defScope st) ∧ Binds K fd ps [] ∧
    q.fs f = some (ps.length, N.length, cSs n ⟨N, (defScope st).names, none, G⟩ (defBody st))
  flds : ∀ e ∈ G.clss, ∀ C, PySem.W.nsIn K mainGlobals e.1 = some (some (.ref C)) → Cls K C ∧ ∀ f ∈ e.2.2.2, NoAttr K C f
theorem start_env {K : PySem.W.Frag} {ρ : List Addr} {H : Hp} {vs : List V} {ds : List D} {N : List Str} {np : Nat} (r : Reps K ρ H vs ds) (hn : ds.length = np) : EnvR K ρ H (env0 np N.length ds) (L2.start N vs) := by
  subst hn
  unfold env0 L2.start
  rw [r.length]
  refine ⟨by simp [r.length], fun i d h => ?_⟩
  by_cases hi : i < ds.length
  · rw [List.getElem?_append_left (by simpa using hi), List.getElem?_map] at h
    cases e : ds[i]? with
    | none => rw [e] at h; cases h
    | some f =>
      rw [e] at h
      cases h
      obtain ⟨v, h1, h2⟩ := r.get e
      refine ⟨v, ?_, h2⟩
      rw [List.getElem?_append_left (by rw [List.length_map, r.length]; exact hi), List.getElem?_map, h1]
      rfl
  · rw [List.getElem?_append_right (by simpa using hi), List.getElem?_replicate] at h
    split at h <;> cases h
theorem fng_zero {P : Program} {w : World} {K : PySem.W.Frag} {mg : Str → Option Value} {base : Heap} {q : Pr} {W f : Nat} {a : Addr} {fd : FuncData} {ps : List Str} : FnG P w K mg base 0 a fd ps (spR K ps.length ((pm q W 0).R f)) :=
  ⟨fun vs H Q h => h.1, fun B out t H as us vs Q _ _ _ _ _ h => by
    obtain ⟨_, ρ, S, ds, d, S', _, _, e, _⟩ := h
    cases e⟩
theorem fng_succ {P : Program} {w : World} {K : PySem.W.Frag} {mg : Str → Option Value} {base : Heap} {q : Pr} {G : Gx} {n : Nat} {W k f : Nat} {x qual : Str} {st : Stmt} {a : Addr} {fd : FuncData} {N ps : List Str} (F : Fun K x qual st a fd) (S : FnScope N ps (defScope st))
    (hq : q.fs f = some (ps.length, N.length, cSs n ⟨N, (defScope st).names, none, G⟩ (defBody st))) (ih : GMat P w K mg base (pm q W k) G k) : FnG P w K mg base (k + 1) a fd ps (spR K ps.length ((pm q W (k + 1)).R f)) := by
  refine fnG_of F S (fun vs H Q h => h.1) fun cdv B out t H vs Q room gd h => ?_
  have M : Mat (cxOf CX0 P w K mg base N qual (defScope st) a cdv B out t H E0).nox (pm q W k) ⟨N, (defScope st).names, none, G⟩ k :=
    ⟨rfl, S.nd, rfl, S.kind, rfl, gd, room, rfl, fun x _ => .inl rfl, ih⟩
  refine ⟨_, (snds_all (pm q W k) k n).ss _ _ M (defBody st), ?_⟩
  obtain ⟨hl, ρ, S0, ds, d, S', sm, rs, e, kq⟩ := h
  simp only [run, hq] at e
  split at e
  · rename_i hn
    unfold fin at e
    split at e
    · rename_i d' e' S'' he
      cases e
      exact ⟨ρ, S0, _, _, sm, start_env rs hn, he, fun ρ' H' p1 g1 s1 v rv => kq ρ' H' v p1 g1 s1 rv⟩
    · rename_i e' S'' he
      cases e
      exact ⟨ρ, S0, _, _, sm, start_env rs hn, he, fun ρ' H' p1 g1 s1 σ' en => kq ρ' H' .non p1 g1 s1 .non⟩
    · cases e
  · cases e
theorem gmat_all {P : Program} {w : World} {K : PySem.W.Frag} {mg : Str → Option Value} {base : Heap} {q : Pr} {G : Gx} {n : Nat} (T : Stands K mg w q G n) (W : Nat) : ∀ k : Nat, GMat P w K mg base (pm q W k) G k := by
  intro k
  induction k with
  | zero =>
    refine ⟨fun x f ps h => ?_, T.cons, T.dics, T.blt, fun x f ps h => ?_, T.fnv, T.fxs, fun x f ps fl h => ?_, T.flds⟩
    · obtain ⟨a, fd, qual, st, N, h1, F, S, hb, hk, hq⟩ := T.funs x f ps h
      exact ⟨a, fd, h1, F.kp, fng_zero, hb, hk⟩
    · obtain ⟨a, fd, qual, st, N, h1, F, S, hb, hk, hq⟩ := T.funs x f ps h
      exact run_arity hq
    · obtain ⟨C, fa, fd, qual, st, N, h1, h2, M, F, S, hb, hq⟩ := T.clss x f ps fl h
      exact ⟨C, fa, fd, h1, h2, M, fng_zero, hb, run_arity hq⟩
  | succ k ih =>
    refine ⟨fun x f ps h => ?_, T.cons, T.dics, T.blt, fun x f ps h => ?_, T.fnv, T.fxs, fun x f ps fl h => ?_, T.flds⟩
    · obtain ⟨a, fd, qual, st, N, h1, F, S, hb, hk, hq⟩ := T.funs x f ps h
      exact ⟨a, fd, h1, F.kp, fng_succ F S hq ih, hb, hk⟩
    · obtain ⟨a, fd, qual, st, N, h1, F, S, hb, hk, hq⟩ := T.funs x f ps h
      exact run_arity hq
    · obtain ⟨C, fa, fd, qual, st, N, h1, h2, M, F, S, hb, hq⟩ := T.clss x f ps fl h
      exact ⟨C, fa, fd, h1, h2, M, fng_succ F S hq ih, hb, run_arity hq⟩
end Tm

set_option Elab.async false
set_option linter.all false
set_option maxRecDepth 100000
set_option maxHeartbeats 4000000
namespace Tm
open PySem PySem.Spec PyProof.Rows L2
/-! ## the law's own call -/
theorem room_caller {k : Nat} (h : k ≤ 200) : Room k callerA := ⟨rfl, by
  have e : callerA.depth = 1 + claimMargin := rfl
  rw [e]
  have : 1 + claimMargin + 3 * 200 + 5 < recursionLimit := by decide
  omega, by
  have e : callerA.units = 4 := rfl
  rw [e]
  have : 4 + 16 * 200 + 200 < cLine := by decide
  omega⟩
/-- what the law's def does, asked of the machine: at the script's ints it hands back True -/
def Says (q : Pr) (f : Nat) (ns : List Int) : Prop := ∃ (W k : Nat) (S : Store), k ≤ 200 ∧ run q W k f [.ref 0] [.ro (ns.map D.int)] = some (.bl true, S)
section
variable {P : Program} {w : World} {K : PySem.W.Frag} {mg mb : Str → Option Value} {fa a : Addr} {fd : FuncData} {t : Shared} {vs : List Value} {ns : List Int} {q : Pr} {f : Nat}
/-- from an abstract heap that knows the script at most -/
theorem law_from {k W : Nat} {S : Store} (H : Hp) (only : ∀ b u, H b = some u → b = a ∧ ∃ o xs, u = .frz o (.lst xs)) (apart : ∀ u, H a = some u → K.lookup a = none) (fx : Fix K H a (ns.map V.int)) (hok : HOk P w H t.heap)
    (KX : K.In t.heap) (hns : t.heap.Ns mainGlobals mg) (hb : t.heap.Ns builtinsNs mb) (hbb : ∀ x : Str, x ≠ "__name__" → mb x = bootBuiltins x) (hlim : t.heap.NoLimit) (hg : t.gens = #[]) (ha : t.heap.get? a = some { cls := .type "list", data := .seq vs.toArray })
    (hk : k ≤ 200) (F : ∀ base : Heap, K.In base → base.Ns mainGlobals mg → FnG P w K mg base k fa fd ["script"] (spR K 1 (run q W k f))) (hbind : ∀ (s : Shared) (u : Value), BindsTo s fd ⟨[u], []⟩ [(("script" : Str), u)])
    (hrun : run q W k f [.ref 0] [.ro (ns.map D.int)] = some (.bl true, S)) :
    codeAny (model P w) callerA (.call (.ref fa) ⟨[.ref a], []⟩) (fun r s' => r = .ok (.ret (.bool true)) ∧ OldK t.heap s'.heap ∧ s'.os = t.os ∧ AllBare s'.gens) t := by
  have keepD : ∀ {b : Addr} {m : Str → Option Value}, t.heap.Ns b m → (hidT t.heap H).Ns b m := by
    intro b m h
    obtain ⟨o, es, ep, h1, h2, h3⟩ := h
    refine ⟨o, es, ep, hidT_get h1 ?_, h2, h3⟩
    cases z : H b with
    | none => rfl
    | some u =>
      obtain ⟨e, _⟩ := only b u z
      subst e
      rw [ha] at h1
      cases h1
      cases h2
  have inB : K.In (hidT t.heap H) := by
    intro b o hb'
    refine hidT_get (KX b o hb') ?_
    cases z : H b with
    | none => rfl
    | some u =>
      obtain ⟨e, _⟩ := only b u z
      subst e
      rw [apart u z] at hb'
      cases hb'
  have modB : Mod K mg (hidT t.heap H) := by
    obtain ⟨mc, l1, l2⟩ := hlim
    exact ⟨inB, keepD hns, ⟨mb, keepD hb, hbb⟩, ⟨mc, keepD l1, l2⟩⟩
  have e0 : Env0 P w K mg (hidT t.heap H) callerA [] t H := by
    refine ⟨rfl, modB, fun b o e => of_hidT e, ?_, trivial, fun b hb' => ?_, hok, .of_eq hg⟩
    · rw [hidT_size]; exact Nat.le_refl _
    · cases hb'
  have sim : Sim K [a] [.ro (ns.map D.int)] H := by
    refine ⟨rfl, fun n o A e ea => ?_, fun m n A _ _ m1 _ => ?_⟩
    · match n, e, ea with
      | 0, e, ea =>
        cases e
        cases ea
        exact ⟨_, fx, reps_ints ns⟩
    · obtain ⟨xs, m1, m2⟩ := m1
      match m, m1 with
      | 0, m1 => cases m1; cases m2
  have sp : spR K 1 (run q W k f) [.ref a] H (fun v _ => v = .bl true) E0 :=
    ⟨rfl, [a], _, [.ref 0], .bl true, S, sim, .cons (.ref rfl) .nil, hrun, fun ρ' H' v _ _ _ r => rep_bl r⟩
  apply codeAny_mono ((F _ inB (keepD hns)).go callerA [] t H ⟨[.ref a], []⟩ [.ref a] [.ref a] _ (.of (room_caller hk)) rfl e0 (hbind t (.ref a)) (.cons rfl .nil) sp)
  intro r s' h
  match r, h with
  | .ok (.ret u), ⟨v, H', os, bare, un, hok', r', ev⟩ =>
    subst ev
    have eu : u = Value.bool true := r'
    subst eu
    refine ⟨rfl, OldK.of_keep fun b o e => ?_, os, bare⟩
    cases z : H b with
    | none => exact un.keep b o e z (fun x => by cases x) (fun x => by cases x)
    | some u =>
      obtain ⟨_, ob, xs, eu⟩ := only b u z
      subst eu
      have z2 := un.frzs b ob _ z
      have h1 := (hok b _ z).1
      have h2 := (hok' b _ z2).1
      rw [e] at h1
      cases h1
      exact h2
/-- the law's call, from the machine's word -/
theorem law_holds (KX : K.In t.heap) (hns : t.heap.Ns mainGlobals mg) (hb : t.heap.Ns builtinsNs mb) (hbb : ∀ x : Str, x ≠ "__name__" → mb x = bootBuiltins x) (hlim : t.heap.NoLimit) (hg : t.gens = #[]) (ha : t.heap.get? a = some { cls := .type "list", data := .seq vs.toArray })
    (hi : IntsAre vs ns) (hl : ns.length ≤ sizeLine) (F : ∀ (W k : Nat) (base : Heap), K.In base → base.Ns mainGlobals mg → FnG P w K mg base k fa fd ["script"] (spR K 1 (run q W k f))) (hbind : ∀ (s : Shared) (u : Value), BindsTo s fd ⟨[u], []⟩ [(("script" : Str), u)])
    (says : Says q f ns) : codeAny (model P w) callerA (.call (.ref fa) ⟨[.ref a], []⟩) (fun r s' => r = .ok (.ret (.bool true)) ∧ OldK t.heap s'.heap ∧ s'.os = t.os ∧ AllBare s'.gens) t := by
  obtain ⟨W, k, S, hk, hrun⟩ := says
  have rv := vals_ints hi
  have lv := hi.length
  cases hka : K.lookup a with
  | some o =>
    have e := KX a o hka
    rw [ha] at e
    cases e
    refine law_from (fun _ => none) (fun b u z => by cases z) (fun u z => by cases z) (.inr (.inr ⟨_, vs.toArray, _, hka, rfl, rfl, rfl, ?_, by simpa using rv⟩)) (fun b u z => by cases z) KX hns hb hbb hlim hg ha hk (F W k) hbind hrun
    rw [List.size_toArray, lv]; exact hl
  | none =>
    have at_ : ∀ b u, (fun b => if b = a then some (HO.frz { cls := .type "list", data := .seq vs.toArray } (.lst (ns.map V.int))) else none : Hp) b = some u → b = a ∧ u = HO.frz { cls := .type "list", data := .seq vs.toArray } (.lst (ns.map V.int)) := by
      intro b u z
      by_cases hba : b = a
      · subst hba
        simp only [if_pos] at z
        exact ⟨rfl, (Option.some.inj z).symm⟩
      · simp only [if_neg hba] at z
        cases z
    refine law_from (fun b => if b = a then some (.frz { cls := .type "list", data := .seq vs.toArray } (.lst (ns.map V.int))) else none) (fun b u z => ⟨(at_ b u z).1, _, _, (at_ b u z).2⟩) (fun _ _ => hka) (.inl ⟨_, if_pos rfl⟩) (fun b u z => ?_) KX hns hb hbb hlim hg ha hk (F W k) hbind hrun
    obtain ⟨e1, e2⟩ := at_ b u z
    subst e1; subst e2
    exact ⟨ha, by rw [List.length_map]; exact hl, vs, _, rv, ha⟩
end
/-- the goal that the head leaves -/
theorem walk_M {l : PySem.W.OpenLaw} {q0 : Program} {loose : List Str} {XP : (Str → Option Value) → Heap → Prop} {YP : World → Heap → Prop} {d : DefRec} {K : Params → PySem.W.Frag} {q : Pr} {f : Nat}
    (hn : l.most = some 63) (hdf : d.params.defaults = []) (hY : ∀ (w : World) (h : Heap), YP w h → (K w.params).In h)
    (F : ∀ (w : World) (mg : Str → Option Value) (fa : Addr) (h : Heap), (K w.params).In h → h.Ns mainGlobals mg → mg d.name = some (.ref fa) →
      ∃ fd : FuncData, (∀ (s : Shared) (u : Value), BindsTo s fd ⟨[u], []⟩ [(("script" : Str), u)]) ∧ ∀ (W k : Nat) (base : Heap), (K w.params).In base → base.Ns mainGlobals mg → FnG l.prog w (K w.params) mg base k fa fd ["script"] (spR (K w.params) 1 (run q W k f)))
    (says : ∀ ns : List Int, ns.length ≤ 63 → Says q f ns) : PySem.W.WalkO q0 loose XP YP l.row.toRowW d [] (fun g vs => PySem.call g vs) := by
  apply Att.attach_call hn hdf
  intro w s0 s1 mg mb fa o pm cd doc a vs ns G Y ho hd hcd hmg hobj hints hlen hg
  obtain ⟨fd, hbd, hF⟩ := F w mg fa _ (hY w _ Y) G.T.g hmg
  exact law_holds (hY w _ Y) G.T.g G.T.b G.T.builtins G.T.nolimit hg hobj hints (Nat.le_trans hlen (by decide)) hF hbd (says ns hlen)
end Tm

set_option Elab.async false
set_option maxRecDepth 100000
namespace Tm
open PySem L2
def b_4 : St := (.seq (.asg (.nm 2) (.bin .add (.bin .mul (.lit (.int 13)) (.var 1)) (.lit (.int 5))))
  (.seq (.ifs (.cmp .lt (.var 1) (.bi .len (.cons (.var 0) .nil))) (.seq (.asg (.nm 2) (.idx (.var 0) (.var 1)))
  .skip) .skip)
  (.seq (.asg (.nm 3) (.bin .add (.bin .add (.lit (.int 977)) (.bin .mul (.lit (.int 3)) (.var 1))) (.bin .mod (.bi .abs (.cons (.bi .int (.cons (.var 2) .nil)) .nil)) (.bin .add (.bin .pow (.lit (.int 10)) (.lit (.int 9))) (.lit (.int 7))))))
  (.seq (.for_ (.itv (.var 0)) (.nm 4) (.seq (.asg (.nm 3) (.bin .mod (.bi .int (.cons (.bin .add (.bin .mul (.var 3) (.lit (.int 524287))) (.bin .mod (.bi .int (.cons (.var 4) .nil)) (.bin .add (.bin .pow (.lit (.int 10)) (.lit (.int 18))) (.lit (.int 9))))) .nil)) (.bin .sub (.bin .pow (.lit (.int 2)) (.lit (.int 61))) (.lit (.int 1)))))
  .skip))
  (.seq (.ret (.lst (.cons (.bi .max (.cons (.lit (.int 0)) (.cons (.bin .sub (.var 2) (.bin .pow (.lit (.int 10)) (.lit (.int 18)))) .nil))) (.cons (.var 3) (.cons (.lit (.int 0)) .nil)))))
  .skip)))))
def b_5 : St := (.seq (.ifs (.cmp .gt (.idx (.var 0) (.lit (.int 0))) (.lit (.int 0))) (.seq (.asg (.nm 2) (.bin .mod (.bi .int (.cons (.idx (.var 0) (.lit (.int 0))) .nil)) (.var 1)))
  (.seq (.seti (.bin .fdiv (.idx (.var 0) (.lit (.int 0))) (.var 1)) (.var 0) (.lit (.int 0)))
  (.seq (.ret (.var 2))
  .skip))) .skip)
  (.seq (.seti (.bin .add (.idx (.var 0) (.lit (.int 2))) (.lit (.int 1))) (.var 0) (.lit (.int 2)))
  (.seq (.asg (.nm 3) (.bin .mod (.bi .int (.cons (.bin .add (.bin .pow (.bin .add (.idx (.var 0) (.lit (.int 1))) (.bin .mul (.lit (.int 1000003)) (.idx (.var 0) (.lit (.int 2))))) (.lit (.int 3))) (.bin .mul (.lit (.int 754974721)) (.idx (.var 0) (.lit (.int 2))))) .nil)) (.bin .add (.bin .pow (.lit (.int 10)) (.lit (.int 18))) (.lit (.int 9)))))
  (.seq (.ret (.bin .mod (.bin .fdiv (.bin .mod (.bi .int (.cons (.bin .mul (.var 3) (.bin .add (.var 3) (.lit (.int 40961)))) .nil)) (.bin .sub (.bin .pow (.lit (.int 2)) (.lit (.int 61))) (.lit (.int 1)))) (.lit (.int 4099))) (.var 1)))
  .skip))))
def b_6 : St := (.seq (.asg (.nm 1) (.call 5 [0, 1] (.cons (.var 0) (.cons (.lit (.int 4)) .nil)) .nil))
  (.seq (.ifs (.cmp .eq (.var 1) (.lit (.int 0))) (.seq (.ret (.call 5 [0, 1] (.cons (.var 0) (.cons (.lit (.int 4)) .nil)) .nil))
  .skip) .skip)
  (.seq (.ifs (.cmp .eq (.var 1) (.lit (.int 1))) (.seq (.ret (.bin .sub (.lit (.int 65535)) (.call 5 [0, 1] (.cons (.var 0) (.cons (.lit (.int 4)) .nil)) .nil)))
  .skip) .skip)
  (.seq (.ifs (.cmp .eq (.var 1) (.lit (.int 2))) (.seq (.ret (.bin .add (.lit (.int 32766)) (.call 5 [0, 1] (.cons (.var 0) (.cons (.lit (.int 4)) .nil)) .nil)))
  .skip) .skip)
  (.seq (.ret (.call 5 [0, 1] (.cons (.var 0) (.cons (.lit (.int 65536)) .nil)) .nil))
  .skip)))))
def b_7 : St := (.seq (.asg (.tp 3 (.cons (.nm 4) (.cons (.nm 5) (.cons (.nm 6) .nil)))) (.tup (.cons (.call 5 [0, 1] (.cons (.var 0) (.cons (.var 2) .nil)) .nil) (.cons (.call 5 [0, 1] (.cons (.var 0) (.cons (.var 2) .nil)) .nil) (.cons (.call 5 [0, 1] (.cons (.var 0) (.cons (.var 2) .nil)) .nil) .nil)))))
  (.seq (.asg (.tp 2 (.cons (.nm 7) (.cons (.nm 8) .nil))) (.tup (.cons (.call 6 [0] (.cons (.var 0) .nil) .nil) (.cons (.idx (.lst (.cons (.lit (.int 0)) (.cons (.var 3) (.cons (.call 5 [0, 1] (.cons (.var 0) (.cons (.bin .add (.var 3) (.lit (.int 1))) .nil)) .nil) .nil)))) (.call 5 [0, 1] (.cons (.var 0) (.cons (.lit (.int 3)) .nil)) .nil)) .nil))))
  (.seq (.ifs (.cmp .eq (.var 1) (.lit (.str "set"))) (.seq (.ret (.tup (.cons (.var 1) (.cons (.var 4) (.cons (.var 7) .nil)))))
  .skip) .skip)
  (.seq (.ifs (.cmp .in_ (.var 1) (.lst (.cons (.lit (.str "add")) (.cons (.lit (.str "sub")) (.cons (.lit (.str "and")) (.cons (.lit (.str "xor")) (.cons (.lit (.str "below")) .nil))))))) (.seq (.ret (.tup (.cons (.var 1) (.cons (.var 4) (.cons (.var 5) (.cons (.var 6) .nil))))))
  .skip) .skip)
  (.seq (.ifs (.cmp .in_ (.var 1) (.lst (.cons (.lit (.str "load")) (.cons (.lit (.str "store")) .nil)))) (.seq (.ret (.tup (.cons (.var 1) (.cons (.var 4) (.cons (.var 5) (.cons (.var 7) .nil))))))
  .skip) .skip)
  (.seq (.ifs (.cmp .in_ (.var 1) (.lst (.cons (.lit (.str "swap")) (.cons (.lit (.str "addto")) .nil)))) (.seq (.ret (.tup (.cons (.var 1) (.cons (.var 4) (.cons (.var 5) (.cons (.var 6) (.cons (.var 7) .nil)))))))
  .skip) .skip)
  (.seq (.ifs (.cmp .eq (.var 1) (.lit (.str "ifzero"))) (.seq (.ret (.tup (.cons (.var 1) (.cons (.var 4) (.cons (.var 8) .nil)))))
  .skip) .skip)
  (.seq (.ifs (.cmp .eq (.var 1) (.lit (.str "jump"))) (.seq (.ret (.tup (.cons (.var 1) (.cons (.var 8) .nil))))
  .skip) .skip)
  (.seq (.ret (.tup (.cons (.var 1) .nil)))
  .skip)))))))))
end Tm

set_option Elab.async false
set_option linter.all false
set_option maxRecDepth 100000
namespace Tm
open PySem L2
/-! ## the machine alone: its runs by rules -/
theorem run_at (q : Pr) (W k f : Nat) (ds : List D) (S : Store) {np ns : Nat} {b : St} (h : q.fs f = some (np, ns, b)) (hn : ds.length = np) : run q W (k + 1) f ds S = fin (ex (pm q W k) b (env0 np ns ds) S) := by
  simp only [run, h, hn, if_true]
theorem run_rt {q : Pr} {W k f : Nat} {ds : List D} {S : Store} {np ns : Nat} {b : St} (h : q.fs f = some (np, ns, b)) (hn : ds.length = np) {d : D} {e' : Env'} {S' : Store} {e0 : Env'} (he : env0 np ns ds = e0) (hx : ex (pm q W k) b e0 S = some (.rt d, e', S')) :
    run q W (k + 1) f ds S = some (d, S') := by
  rw [run_at q W k f ds S h hn, he, hx]; rfl
section
variable {q : Pr} {W k : Nat} {e e1 : Env'} {S S1 S2 S3 : Store} {a b c r : C} {d x y z : D} {ds fs es : List D} {op o2 : Cmp}
theorem er_var {i : Nat} (h : e[i]? = some (some d)) : ev (pm q W k) (.var i) e S = some (d, S) := by simp only [ev, h]
theorem er_lit (h : isScal d = true) : ev (pm q W k) (.lit d) e S = some (d, S) := by simp only [ev, h, if_true]
theorem er_glob {g : Nat} (h : q.gl g = d) : ev (pm q W k) (.glob g) e S = some (d, S) := by subst h; rfl
theorem er_nil : ev (pm q W k) .nil e S = some (.tup [], S) := rfl
theorem er_cons (h1 : ev (pm q W k) a e S = some (x, S1)) (h2 : ev (pm q W k) r e S1 = some (.tup ds, S2)) : ev (pm q W k) (.cons a r) e S = some (.tup (x :: ds), S2) := by
  simp only [ev, h1, h2, Option.bind_some]
theorem er_tup (h1 : ev (pm q W k) a e S = some (.tup ds, S1)) (hz : ds.length ≤ sizeLine) : ev (pm q W k) (.tup a) e S = some (.tup ds, S1) := by
  simp only [ev, h1, Option.bind_some, okI, decide_eq_true hz, if_true]
theorem er_lst (h1 : ev (pm q W k) a e S = some (.tup ds, S1)) (hz : ds.length ≤ sizeLine) : ev (pm q W k) (.lst a) e S = some (.ref S1.length, S1 ++ [.lst ds]) := by
  simp only [ev, h1, Option.bind_some, if_pos hz, new]
theorem er_bin {o : Bin} {w : D × Store} (h1 : ev (pm q W k) a e S = some (x, S1)) (h2 : ev (pm q W k) b e S1 = some (y, S2)) (h3 : binop o x y S2 = some w) : ev (pm q W k) (.bin o a b) e S = some w := by
  simp only [ev, h1, h2, h3, Option.bind_some]
theorem er_neg {i : Int} (h1 : ev (pm q W k) a e S = some (.int i, S1)) : ev (pm q W k) (.neg a) e S = some (.int (-i), S1) := by
  simp only [ev, h1, Option.bind_some]
theorem er_cmp {t : Bool} (h1 : ev (pm q W k) a e S = some (x, S1)) (h2 : ev (pm q W k) b e S1 = some (y, S2)) (h3 : cmpop op x y S2 = some t) : ev (pm q W k) (.cmp op a b) e S = some (.bl t, S2) := by
  simp only [ev, h1, h2, alt_some h3, Option.bind_some, Option.map_some]
theorem er_chain_t {t : Bool} (h1 : ev (pm q W k) a e S = some (x, S1)) (h2 : ev (pm q W k) b e S1 = some (y, S2)) (h3 : cmpop op x y S2 = some true) (h4 : ev (pm q W k) c e S2 = some (z, S3)) (h5 : cmpop o2 y z S3 = some t) :
    ev (pm q W k) (.chain op o2 a b c) e S = some (.bl t, S3) := by
  simp only [ev, h1, h2, h3, h4, h5, Option.bind_some, Option.map_some, if_true]
theorem er_chain_f (h1 : ev (pm q W k) a e S = some (x, S1)) (h2 : ev (pm q W k) b e S1 = some (y, S2)) (h3 : cmpop op x y S2 = some false) :
    ev (pm q W k) (.chain op o2 a b c) e S = some (.bl false, S2) := by
  simp only [ev, h1, h2, h3, Option.bind_some, Bool.false_eq_true, if_false]
theorem er_and_t {w : D × Store} (h1 : ev (pm q W k) a e S = some (.bl true, S1)) (h2 : ev (pm q W k) b e S1 = some w) : ev (pm q W k) (.and_ a b) e S = some w := by
  simp only [ev, h1, h2, Option.bind_some]
theorem er_and_f (h1 : ev (pm q W k) a e S = some (.bl false, S1)) : ev (pm q W k) (.and_ a b) e S = some (.bl false, S1) := by
  simp only [ev, h1, Option.bind_some]
theorem er_or_f {w : D × Store} (h1 : ev (pm q W k) a e S = some (.bl false, S1)) (h2 : ev (pm q W k) b e S1 = some w) : ev (pm q W k) (.or_ a b) e S = some w := by
  simp only [ev, h1, h2, Option.bind_some]
theorem er_or_t (h1 : ev (pm q W k) a e S = some (.bl true, S1)) : ev (pm q W k) (.or_ a b) e S = some (.bl true, S1) := by
  simp only [ev, h1, Option.bind_some]
theorem er_not {t : Bool} (h1 : ev (pm q W k) a e S = some (.bl t, S1)) : ev (pm q W k) (.not_ a) e S = some (.bl (!t), S1) := by
  simp only [ev, h1, Option.bind_some]
theorem er_not_f (h1 : ev (pm q W k) a e S = some (.bl true, S1)) : ev (pm q W k) (.not_ a) e S = some (.bl false, S1) := er_not h1
theorem er_not_t (h1 : ev (pm q W k) a e S = some (.bl false, S1)) : ev (pm q W k) (.not_ a) e S = some (.bl true, S1) := er_not h1
theorem er_ife_t {w : D × Store} (h1 : ev (pm q W k) c e S = some (.bl true, S1)) (h2 : ev (pm q W k) a e S1 = some w) : ev (pm q W k) (.ife c a b) e S = some w := by
  simp only [ev, h1, h2, Option.bind_some]
theorem er_ife_f {w : D × Store} (h1 : ev (pm q W k) c e S = some (.bl false, S1)) (h2 : ev (pm q W k) b e S1 = some w) : ev (pm q W k) (.ife c a b) e S = some w := by
  simp only [ev, h1, h2, Option.bind_some]
theorem er_idx (h1 : ev (pm q W k) a e S = some (x, S1)) (h2 : ev (pm q W k) b e S1 = some (y, S2)) (h3 : idxop x y S2 = some d) : ev (pm q W k) (.idx a b) e S = some (d, S2) := by
  simp only [ev, h1, h2, alt_some h3, Option.bind_some, Option.map_some]
theorem er_dget (h1 : ev (pm q W k) a e S = some (x, S1)) (h2 : ev (pm q W k) b e S1 = some (y, S2)) (h0 : idxop x y S2 = none) (h3 : dgetop x y S2 = some d) : ev (pm q W k) (.idx a b) e S = some (d, S2) := by
  simp only [ev, h1, h2, alt_none h0, h3, Option.bind_some, Option.map_some]
theorem er_din {t : Bool} (h1 : ev (pm q W k) a e S = some (x, S1)) (h2 : ev (pm q W k) b e S1 = some (y, S2)) (h0 : cmpop op x y S2 = none) (h3 : dinop op x y S2 = some t) : ev (pm q W k) (.cmp op a b) e S = some (.bl t, S2) := by
  simp only [ev, h1, h2, alt_none h0, h3, Option.bind_some, Option.map_some]
theorem er_dty {t : Ty} {u : Bool} (h1 : ev (pm q W k) a e S = some (x, S1)) (h0 : tyop x t S1 = none) (h3 : tydop x t S1 = some u) : ev (pm q W k) (.isty a t) e S = some (.bl u, S1) := by
  simp only [ev, h1, alt_none h0, h3, Option.bind_some, Option.map_some]
theorem er_mt {m : Mt} {w : D × Store} (h1 : ev (pm q W k) a e S = some (x, S1)) (h2 : ev (pm q W k) b e S1 = some (.tup ds, S2)) (h0 : okRef S1 x = true) (h3 : mtop m x ds S2 = some w) : ev (pm q W k) (.mt m a b) e S = some w := by
  simp only [ev, h1, h2, h3, h0, if_true, Option.bind_some]
theorem er_dnew : ev (pm q W k) .dnew e S = some (.ref S.length, S ++ [.dct []]) := rfl
theorem er_kgetd {g : Nat} {w : Str} (h1 : ev (pm q W k) a e S = some (.str w, S1)) (h2 : ev (pm q W k) b e S1 = some (y, S2)) (h3 : (lookK (q.kd g) w).getD y = d) : ev (pm q W k) (.kgetd g a b) e S = some (d, S2) := by
  subst h3
  simp only [ev, h1, h2, Option.bind_some]
theorem er_kget {g : Nat} {w : Str} (h1 : ev (pm q W k) a e S = some (.str w, S1)) (h3 : lookK (q.kd g) w = some d) : ev (pm q W k) (.kget g a) e S = some (d, S1) := by
  simp only [ev, h1, h3, Option.bind_some, Option.map_some]
theorem er_kin {g : Nat} {w : Str} {neg t : Bool} (h1 : ev (pm q W k) a e S = some (.str w, S1)) (h3 : (if neg then !(lookK (q.kd g) w).isSome else (lookK (q.kd g) w).isSome) = t) : ev (pm q W k) (.kin g neg a) e S = some (.bl t, S1) := by
  simp only [ev, h1, h3, Option.bind_some]
theorem er_call {f : Nat} {perm : List Nat} {w : D × Store} (h1 : ev (pm q W k) a e S = some (.tup ds, S1)) (h2 : ev (pm q W k) b e S1 = some (.tup fs, S2)) (he : pick perm (ds ++ fs) = es) (h3 : run q W k f es S2 = some w) : ev (pm q W k) (.call f perm a b) e S = some w := by
  subst he
  simp only [ev, h1, h2, Option.bind_some]
  exact h3
theorem er_bi {o : Bi} {w : D × Store} (h1 : ev (pm q W k) a e S = some (.tup ds, S1)) (h3 : biop o ds S1 = some w) : ev (pm q W k) (.bi o a) e S = some w := by
  simp only [ev, h1, h3, Option.bind_some]
theorem er_isty {t : Ty} {u : Bool} (h1 : ev (pm q W k) a e S = some (x, S1)) (h3 : tyop x t S1 = some u) : ev (pm q W k) (.isty a t) e S = some (.bl u, S1) := by
  simp only [ev, h1, alt_some h3, Option.bind_some, Option.map_some]
theorem push_ok {n : Nat} {S' : Store} (h : push n y S = some S') : okRef S (.ref n) = true := by
  unfold push at h
  split at h
  · rename_i xs hx
    show (listAt S n).isSome = true
    unfold listAt
    rw [hx]; rfl
  · cases h
theorem lst_ok {n : Nat} {xs : List D} (h : listAt S n = some xs) : okRef S (.ref n) = true := by
  show (listAt S n).isSome = true
  rw [h]; rfl
theorem er_appG {n : Nat} (h1 : ev (pm q W k) a e S = some (.ref n, S1)) (h0 : okRef S1 (.ref n) = true) (h2 : ev (pm q W k) b e S1 = some (y, S2)) (h3 : push n y S2 = some S3) : ev (pm q W k) (.app a b) e S = some (.non, S3) := by
  simp only [ev, h1, h2, h3, h0, if_true, Option.bind_some, Option.map_some]
theorem er_app {n : Nat} (h1 : ev (pm q W k) a e S = some (.ref n, S1)) (h2 : ev (pm q W k) b e S1 = some (y, S1)) (h3 : push n y S1 = some S3) : ev (pm q W k) (.app a b) e S = some (.non, S3) :=
  er_appG h1 (push_ok h3) h2 h3
theorem er_fld {cs : List Str} {f : Str} (h1 : ev (pm q W k) a e S = some (x, S1)) (h2 : fldS cs f x S1 = some y) : ev (pm q W k) (.fld a f cs) e S = some (y, S1) := by
  simp only [ev, h1, h2, Option.bind_some, Option.map_some]
theorem er_mk {c : Str} {f : Nat} (h1 : ev (pm q W k) a e S = some (.tup ds, S1)) (h2 : run q W k f (.ref S1.length :: ds) (S1 ++ [.ins c []]) = some (.non, S2)) : ev (pm q W k) (.mk c f a) e S = some (.ref S1.length, S2) := by
  simp only [ev, h1, h2, Option.bind_some]
theorem er_revl {n : Nat} (h1 : ev (pm q W k) a e S = some (.ref n, S1)) (h2 : listAt S1 n = some ds) : ev (pm q W k) (.revl a) e S = some (.ref S1.length, S1 ++ [.lst ds.reverse]) := by
  simp only [ev, h1, h2, Option.bind_some, Option.map_some, new]
theorem es_setf {v : C} {cs : List Str} {f : Str} (h1 : ev (pm q W k) v e S = some (x, S1)) (h2 : ev (pm q W k) a e S1 = some (y, S2)) (h3 : putfS cs f y x S2 = some S3) : ex (pm q W k) (.setf v a f cs) e S = some (.nx, e, S3) := by
  simp only [ex, h1, h2, h3, Option.bind_some, Option.map_some]
theorem es_augf {cs : List Str} {f : Str} {op : Bin} {x d y z : D} (h1 : ev (pm q W k) a e S = some (x, S1)) (h2 : fldS cs f x S1 = some d) (h3 : ev (pm q W k) b e S1 = some (y, S2)) (h4 : augop op d y = some z) (h5 : clsS x S1 = clsS x S2) (h6 : putfS cs f x z S2 = some S3) :
    ex (pm q W k) (.augf a f cs op b) e S = some (.nx, e, S3) := by
  simp only [ex, h1, h2, h3, h4, if_pos h5, h6, Option.bind_some, Option.map_some]
theorem er_itv (h1 : ev (pm q W k) a e S = some (x, S1)) (h3 : itOf S1 x = some (ds, fs)) : ev (pm q W k) (.itv a) e S = some (itD ds fs, S1) := by
  simp only [ev, h1, h3, Option.bind_some, Option.map_some]
theorem er_irng (h1 : ev (pm q W k) a e S = some (.tup es, S1)) (h3 : rngs es = some ds) : ev (pm q W k) (.irng a) e S = some (itD ds [], S1) := by
  simp only [ev, h1, h3, Option.bind_some, Option.map_some]
theorem er_lc {i : C} {t : Tg} {own : List Nat} (h1 : ev (pm q W k) i e S = some (itD ds fs, S1)) (h2 : lcL (ev (pm q W k) b) (ev (pm q W k) a) t fs (wipeE e own) S1.length ds (S1 ++ [.lst []]) = some S2) :
    ev (pm q W k) (.lc i t b a own) e S = some (.ref S1.length, S2) := by
  simp only [ev, h1, Option.bind_some, itD, h2, Option.map_some]
/-! statements -/
variable {s u : St} {f : Fl}
theorem es_nx {w : Fl × Env' × Store} (h1 : ex (pm q W k) s e S = some (.nx, e1, S1)) (h2 : ex (pm q W k) u e1 S1 = some w) : ex (pm q W k) (.seq s u) e S = some w := by
  simp only [ex, h1, h2, Option.bind_some]
theorem es_rt (h1 : ex (pm q W k) s e S = some (.rt d, e1, S1)) : ex (pm q W k) (.seq s u) e S = some (.rt d, e1, S1) := by
  simp only [ex, h1, Option.bind_some]
theorem es_bk (h1 : ex (pm q W k) s e S = some (.bk, e1, S1)) : ex (pm q W k) (.seq s u) e S = some (.bk, e1, S1) := by
  simp only [ex, h1, Option.bind_some]
theorem es_ct (h1 : ex (pm q W k) s e S = some (.ct, e1, S1)) : ex (pm q W k) (.seq s u) e S = some (.ct, e1, S1) := by
  simp only [ex, h1, Option.bind_some]
theorem es_skip : ex (pm q W k) .skip e S = some (.nx, e, S) := rfl
theorem es_asg {t : Tg} (h1 : ev (pm q W k) c e S = some (x, S1)) (h2 : bindT t x S1 e = some e1) : ex (pm q W k) (.asg t c) e S = some (.nx, e1, S1) := by
  simp only [ex, h1, h2, Option.bind_some, Option.map_some]
theorem es_seti (h1 : ev (pm q W k) c e S = some (x, S1)) (h2 : ev (pm q W k) a e S1 = some (y, S2)) (h3 : ev (pm q W k) b e S2 = some (z, S3)) {S' : Store} (h4 : setS y z x S3 = some S') : ex (pm q W k) (.seti c a b) e S = some (.nx, e, S') := by
  simp only [ex, h1, h2, h3, alt_some h4, Option.bind_some, Option.map_some]
theorem es_dput (h1 : ev (pm q W k) c e S = some (x, S1)) (h2 : ev (pm q W k) a e S1 = some (y, S2)) (h3 : ev (pm q W k) b e S2 = some (z, S3)) {S' : Store} (h0 : setS y z x S3 = none) (h4 : dputS y z x S3 = some S') :
    ex (pm q W k) (.seti c a b) e S = some (.nx, e, S') := by
  simp only [ex, h1, h2, h3, alt_none h0, h4, Option.bind_some, Option.map_some]
theorem es_aug {i : Nat} {op : Bin} (h0 : e[i]? = some (some y)) (h1 : ev (pm q W k) c e S = some (x, S1)) (h2 : augop op y x = some z) : ex (pm q W k) (.aug i op c) e S = some (.nx, e.set i (some z), S1) := by
  simp only [ex, h0, h1, h2, Option.bind_some, Option.map_some]
theorem es_drop (h1 : ev (pm q W k) c e S = some (x, S1)) : ex (pm q W k) (.drop c) e S = some (.nx, e, S1) := by
  simp only [ex, h1, Option.map_some]
theorem es_ret (h1 : ev (pm q W k) c e S = some (x, S1)) : ex (pm q W k) (.ret c) e S = some (.rt x, e, S1) := by
  simp only [ex, h1, Option.map_some]
theorem es_if_t {w : Fl × Env' × Store} (h1 : ev (pm q W k) c e S = some (.bl true, S1)) (h2 : ex (pm q W k) s e S1 = some w) : ex (pm q W k) (.ifs c s u) e S = some w := by
  simp only [ex, h1, h2, Option.bind_some]
theorem es_if_f {w : Fl × Env' × Store} (h1 : ev (pm q W k) c e S = some (.bl false, S1)) (h2 : ex (pm q W k) u e S1 = some w) : ex (pm q W k) (.ifs c s u) e S = some w := by
  simp only [ex, h1, h2, Option.bind_some]
theorem es_for {t : Tg} {w : Fl × Env' × Store} (h1 : ev (pm q W k) c e S = some (itD ds fs, S1)) (h2 : forL (ex (pm q W k) s) t fs ds e S1 = some w) : ex (pm q W k) (.for_ c t s) e S = some w := by
  simp only [ex, h1, Option.bind_some, itD, h2]
end
/-! ## operators at known values -/
/-- small: below 2 ^ 200 -/
def Sm (i : Int) : Prop := i.natAbs < 2 ^ 200
theorem log_sm {i : Int} (h : Sm i) : i.natAbs.log2 < 200 := by
  by_cases z : i.natAbs = 0
  · rw [z]; decide
  · exact (Nat.log2_lt z).mpr h
section
variable {i j : Int} {S S' : Store} {x y : D} {xs : List D}
theorem o_add : binop .add (.int i) (.int j) S = some (.int (i + j), S) := rfl
theorem o_sub : binop .sub (.int i) (.int j) S = some (.int (i - j), S) := rfl
theorem o_mul (hi : Sm i) (hj : Sm j) : binop .mul (.int i) (.int j) S = some (.int (i * j), S) := by
  have h1 := log_sm hi
  have h2 := log_sm hj
  show okI (decide (i.natAbs.log2 + j.natAbs.log2 < 1000000) || decide (j.natAbs < 2 ^ 64)) _ _ = _
  rw [decide_eq_true (show i.natAbs.log2 + j.natAbs.log2 < 1000000 by omega)]; rfl
theorem o_mulS (hj : j.natAbs < 2 ^ 64) : binop .mul (.int i) (.int j) S = some (.int (i * j), S) := by
  show okI (decide (i.natAbs.log2 + j.natAbs.log2 < 1000000) || decide (j.natAbs < 2 ^ 64)) _ _ = _
  rw [decide_eq_true hj, Bool.or_true]; rfl
theorem o_pow (hi : i.natAbs < 2 ^ 64) (hj : 0 ≤ j ∧ j ≤ 1000000) : binop .pow (.int i) (.int j) S = some (.int (i ^ j.toNat), S) := by
  have h2 : (Builtin.Int.intBits i : Int) * j ≤ 2 ^ 27 := PyProof.Rows.bits_mul_le hi hj.1 hj.2
  show okI (decide (0 ≤ j) && decide ((Builtin.Int.intBits i : Int) * j ≤ 2 ^ 27)) _ _ = _
  rw [decide_eq_true hj.1, decide_eq_true h2]; rfl
theorem o_powW (hi : i.natAbs < 2 ^ 300) (hj : 0 ≤ j ∧ j ≤ 1000) : binop .pow (.int i) (.int j) S = some (.int (i ^ j.toNat), S) := by
  have hb : Builtin.Int.intBits i ≤ 300 := bits_lt hi
  have h2 : (Builtin.Int.intBits i : Int) * j ≤ 2 ^ 27 := by
    have : (Builtin.Int.intBits i : Int) * j ≤ 300 * 1000 := Int.mul_le_mul (by omega) hj.2 hj.1 (by decide)
    omega
  show okI (decide (0 ≤ j) && decide ((Builtin.Int.intBits i : Int) * j ≤ 2 ^ 27)) _ _ = _
  rw [decide_eq_true hj.1, decide_eq_true h2]; rfl
theorem o_mod (h : 0 < j) : binop .mod (.int i) (.int j) S = some (.int (i % j), S) := by
  show okI (decide (0 < j)) _ _ = _
  rw [decide_eq_true h]; rfl
theorem o_div (h : 0 < j) (hj : Sm j) : binop .fdiv (.int i) (.int j) S = some (.int (i / j), S) := by
  have h2 := log_sm hj
  show okI (decide (0 < j) && decide (j.natAbs.log2 < 9000)) _ _ = _
  rw [decide_eq_true h, decide_eq_true (by omega)]; rfl
theorem c_eq_t (h : i = j) : cmpop .eq (.int i) (.int j) S = some true := by show some (decide (i = j)) = _; rw [decide_eq_true h]
theorem c_eq_f (h : ¬ i = j) : cmpop .eq (.int i) (.int j) S = some false := by show some (decide (i = j)) = _; rw [decide_eq_false h]
theorem c_ne_f (h : i = j) : cmpop .ne (.int i) (.int j) S = some false := by show some (!decide (i = j)) = _; rw [decide_eq_true h]; rfl
theorem c_ne_t (h : ¬ i = j) : cmpop .ne (.int i) (.int j) S = some true := by show some (!decide (i = j)) = _; rw [decide_eq_false h]; rfl
theorem c_lt_t (h : i < j) : cmpop .lt (.int i) (.int j) S = some true := by show some (decide (i < j)) = _; rw [decide_eq_true h]
theorem c_lt_f (h : ¬ i < j) : cmpop .lt (.int i) (.int j) S = some false := by show some (decide (i < j)) = _; rw [decide_eq_false h]
theorem c_le_t (h : i ≤ j) : cmpop .le (.int i) (.int j) S = some true := by show some (decide (i ≤ j)) = _; rw [decide_eq_true h]
theorem c_le_f (h : ¬ i ≤ j) : cmpop .le (.int i) (.int j) S = some false := by show some (decide (i ≤ j)) = _; rw [decide_eq_false h]
theorem c_gt_t (h : j < i) : cmpop .gt (.int i) (.int j) S = some true := by show some (decide (j < i)) = _; rw [decide_eq_true h]
theorem c_gt_f (h : ¬ j < i) : cmpop .gt (.int i) (.int j) S = some false := by show some (decide (j < i)) = _; rw [decide_eq_false h]
theorem c_ge_t (h : j ≤ i) : cmpop .ge (.int i) (.int j) S = some true := by show some (decide (j ≤ i)) = _; rw [decide_eq_true h]
theorem c_ge_f (h : ¬ j ≤ i) : cmpop .ge (.int i) (.int j) S = some false := by show some (decide (j ≤ i)) = _; rw [decide_eq_false h]
theorem c_str_t {x y : Str} (h : x = y) : cmpop .eq (.str x) (.str y) S = some true := by show some (decide (x = y)) = _; rw [decide_eq_true h]
theorem c_str_f {x y : Str} (h : ¬ x = y) : cmpop .eq (.str x) (.str y) S = some false := by show some (decide (x = y)) = _; rw [decide_eq_false h]
theorem c_strn_t {x y : Str} (h : ¬ x = y) : cmpop .ne (.str x) (.str y) S = some true := by show some (!decide (x = y)) = _; rw [decide_eq_false h]; rfl
theorem c_strn_f {x y : Str} (h : x = y) : cmpop .ne (.str x) (.str y) S = some false := by show some (!decide (x = y)) = _; rw [decide_eq_true h]; rfl
theorem i_tup {d : D} (h : atI xs i = some d) : idxop (.tup xs) (.int i) S = some d := h
theorem i_lst {d : D} {n : Nat} (hn : listAt S n = some xs) (h : atI xs i = some d) : idxop (.ref n) (.int i) S = some d := by
  show (listAt S n).bind (fun xs => atI xs i) = _
  rw [hn]; exact h
theorem l_lst {n : Nat} (h : S[n]? = some (.lst xs)) : listAt S n = some xs := by unfold listAt; rw [h]
theorem l_ro {n : Nat} (h : S[n]? = some (.ro xs)) : listAt S n = some xs := by unfold listAt; rw [h]
theorem l_last : listAt (S ++ [.lst xs]) S.length = some xs := l_lst (by simp)
theorem g_last {o : O} : (S ++ [o])[S.length]? = some o := by simp
theorem c_in {t : Bool} {n : Nat} (hn : listAt S n = some xs) (hx : isScal x = true) (hs : xs.all isScal = true) (ht : (xs.any fun y => scEq y x) = t) : cmpop .in_ x (.ref n) S = some t := by
  show inD S x (.ref n) = some t
  simp only [inD, hn, hx, hs, ht, Option.bind_some, Bool.and_self, if_true]
theorem c_inT {t : Bool} (hx : isScal x = true) (hs : xs.all isScal = true) (ht : (xs.any fun y => scEq y x) = t) : cmpop .in_ x (.tup xs) S = some t := by
  show inD S x (.tup xs) = some t
  simp only [inD, hx, hs, ht, Bool.and_self, if_true]
theorem c_nin {t : Bool} {n : Nat} (hn : listAt S n = some xs) (hx : isScal x = true) (hs : xs.all isScal = true) (ht : (xs.any fun y => scEq y x) = t) : cmpop .nin x (.ref n) S = some (!t) := by
  show (inD S x (.ref n)).map (!·) = some (!t)
  simp only [inD, hn, hx, hs, ht, Option.bind_some, Bool.and_self, if_true, Option.map_some]
theorem set_get {a : Nat} {o o' : O} (h : S[a]? = some o) : (S.set a o')[a]? = some o' := by
  have := (List.getElem?_eq_some_iff.mp h).1
  rw [List.getElem?_set_self this]
theorem s_set {a j : Nat} {v : D} (h : S[a]? = some (.lst xs)) (hj : ixN xs.length i = some j) : setS (.ref a) (.int i) v S = some (S.set a (.lst (xs.set j v))) := by
  simp only [setS, h, hj, Option.map_some]
end
/-! ## what stays -/
/-- all objects but those at A stand as they stood -/
def Kp (A : List Nat) (S S' : Store) : Prop := ∀ (i : Nat) (o : O), i ∉ A → S[i]? = some o → S'[i]? = some o
theorem Kp.refl (A : List Nat) (S : Store) : Kp A S S := fun _ _ _ h => h
theorem Kp.trans {A : List Nat} {S S1 S2 : Store} (h : Kp A S S1) (k : Kp A S1 S2) : Kp A S S2 := fun i o n e => k i o n (h i o n e)
theorem Kp.more {A B : List Nat} {S S1 : Store} (h : Kp A S S1) (s : ∀ i ∈ A, i ∈ B) : Kp B S S1 := fun i o n e => h i o (fun z => n (s i z)) e
theorem Kp.set {S : Store} {a : Nat} {o : O} : Kp [a] S (S.set a o) := fun i u n e => by
  rw [List.getElem?_set_ne (fun z => n (by simp [z]))]; exact e
theorem Kp.push {A : List Nat} {S : Store} {o : O} : Kp A S (S ++ [o]) := fun i u n e => by
  have := (List.getElem?_eq_some_iff.mp e).1
  rw [List.getElem?_append_left this]; exact e
theorem Kp.len {A : List Nat} {S S' : Store} (h : Kp A S S') {n : Nat} (hn : n ∉ A) (hl : n < S.length) : n < S'.length := by
  have e := h n S[n] hn (by simp [hl])
  exact (List.getElem?_eq_some_iff.mp e).1

/-! ## rules that decide nothing -/
section
variable {q : Pr} {W k : Nat} {e e1 : Env'} {S S1 S2 S3 : Store} {a b c r : C} {d x y z : D} {s u : St} {f : Fl}
/-- what follows a flow -/
structure Nxt (q : Pr) (W k : Nat) (u : St) (f : Fl) (e : Env') (S : Store) (w : Fl × Env' × Store) : Prop where
  h : (match f with | .nx => ex (pm q W k) u e S | f => some (f, e, S)) = some w
theorem nxt_nx {w : Fl × Env' × Store} (h : ex (pm q W k) u e S = some w) : Nxt q W k u .nx e S w := ⟨h⟩
theorem nxt_rt : Nxt q W k u (.rt d) e S (.rt d, e, S) := ⟨rfl⟩
theorem nxt_bk : Nxt q W k u .bk e S (.bk, e, S) := ⟨rfl⟩
theorem nxt_ct : Nxt q W k u .ct e S (.ct, e, S) := ⟨rfl⟩
theorem es_sq {w : Fl × Env' × Store} (h1 : ex (pm q W k) s e S = some (f, e1, S1)) (h2 : Nxt q W k u f e1 S1 w) : ex (pm q W k) (.seq s u) e S = some w := by
  have h3 := h2.h
  cases f <;> simp only [ex, h1, Option.bind_some] at h3 ⊢ <;> exact h3
structure Brs (q : Pr) (W k : Nat) (t : Bool) (s u : St) (e : Env') (S : Store) (w : Fl × Env' × Store) : Prop where
  h : (if t = true then ex (pm q W k) s e S else ex (pm q W k) u e S) = some w
theorem brs_t {w : Fl × Env' × Store} (h : ex (pm q W k) s e S = some w) : Brs q W k true s u e S w := ⟨h⟩
theorem brs_f {w : Fl × Env' × Store} (h : ex (pm q W k) u e S = some w) : Brs q W k false s u e S w := ⟨h⟩
theorem es_br {t : Bool} {w : Fl × Env' × Store} (h1 : ev (pm q W k) c e S = some (.bl t, S1)) (h2 : Brs q W k t s u e S1 w) : ex (pm q W k) (.ifs c s u) e S = some w := by
  cases t
  · exact es_if_f h1 h2.h
  · exact es_if_t h1 h2.h
structure Bre (q : Pr) (W k : Nat) (t : Bool) (a b : C) (e : Env') (S : Store) (w : D × Store) : Prop where
  h : (if t = true then ev (pm q W k) a e S else ev (pm q W k) b e S) = some w
theorem bre_t {w : D × Store} (h : ev (pm q W k) a e S = some w) : Bre q W k true a b e S w := ⟨h⟩
theorem bre_f {w : D × Store} (h : ev (pm q W k) b e S = some w) : Bre q W k false a b e S w := ⟨h⟩
theorem er_br {t : Bool} {w : D × Store} (h1 : ev (pm q W k) c e S = some (.bl t, S1)) (h2 : Bre q W k t a b e S1 w) : ev (pm q W k) (.ife c a b) e S = some w := by
  cases t
  · exact er_ife_f h1 h2.h
  · exact er_ife_t h1 h2.h
structure Ands (q : Pr) (W k : Nat) (t : Bool) (b : C) (e : Env') (S : Store) (w : D × Store) : Prop where
  h : (if t = true then ev (pm q W k) b e S else some (.bl false, S)) = some w
theorem ands_t {w : D × Store} (h : ev (pm q W k) b e S = some w) : Ands q W k true b e S w := ⟨h⟩
theorem ands_f : Ands q W k false b e S (.bl false, S) := ⟨rfl⟩
theorem er_ands {t : Bool} {w : D × Store} (h1 : ev (pm q W k) a e S = some (.bl t, S1)) (h2 : Ands q W k t b e S1 w) : ev (pm q W k) (.and_ a b) e S = some w := by
  cases t
  · rw [er_and_f h1]; exact h2.h
  · exact er_and_t h1 h2.h
structure Ors (q : Pr) (W k : Nat) (t : Bool) (b : C) (e : Env') (S : Store) (w : D × Store) : Prop where
  h : (if t = true then some (.bl true, S) else ev (pm q W k) b e S) = some w
theorem ors_f {w : D × Store} (h : ev (pm q W k) b e S = some w) : Ors q W k false b e S w := ⟨h⟩
theorem ors_t : Ors q W k true b e S (.bl true, S) := ⟨rfl⟩
theorem er_ors {t : Bool} {w : D × Store} (h1 : ev (pm q W k) a e S = some (.bl t, S1)) (h2 : Ors q W k t b e S1 w) : ev (pm q W k) (.or_ a b) e S = some w := by
  cases t
  · exact er_or_f h1 h2.h
  · rw [er_or_t h1]; exact h2.h
inductive Neg : Bool → Bool → Prop
  | t : Neg true false
  | f : Neg false true
theorem er_nots {t v : Bool} (h1 : ev (pm q W k) a e S = some (.bl t, S1)) (h2 : Neg t v) : ev (pm q W k) (.not_ a) e S = some (.bl v, S1) := by
  cases h2
  · exact er_not h1
  · exact er_not h1
theorem b_int {i : Int} : biop .int [.int i] S = some (.int i, S) := rfl
theorem b_bool {t : Bool} : biop .int [.bl t] S = some (.int (if t then 1 else 0), S) := by cases t <;> rfl
theorem b_abs {i : Int} : biop .abs [.int i] S = some (.int (if i < 0 then -i else i), S) := rfl
theorem b_max {i j : Int} : biop .max [.int i, .int j] S = some (.int (if j > i then j else i), S) := rfl
theorem b_min {i j : Int} : biop .min [.int i, .int j] S = some (.int (if j < i then j else i), S) := rfl
theorem b_lenT {xs : List D} : biop .len [.tup xs] S = some (.int xs.length, S) := rfl
theorem b_lenL {n : Nat} {xs : List D} (h : listAt S n = some xs) : biop .len [.ref n] S = some (.int xs.length, S) := by
  show (listAt S n).map _ = _
  rw [h]; rfl
end
end Tm

set_option Elab.async false
set_option linter.all false
set_option maxRecDepth 100000
namespace Tm
open PySem L2
/-! ## data that are like themselves -/
/-- a datum without lists whose text is known and short -/
def Nice (d : D) : Prop := ∃ x, (∀ S, pd S d = some x) ∧ x.layable0 = true ∧ PyData.intsShort 13 x = true ∧ x.showable = true
theorem Nice.rp {d : D} (h : Nice d) : ∃ z, ∀ S, biop .repr [d] S = some (.str z, S) := by
  obtain ⟨x, h1, h2, h3, h4⟩ := h
  refine ⟨x.shown, fun S => ?_⟩
  have h5 := PyData.shown_le_of_layable0 h2 h3
  have h6 := PyData.depth_of_layable h2
  show ((pd S d).bind fun x => if x.showable && decide (x.depth ≤ 64) && decide (x.shown.length ≤ sizeLine) then some (D.str x.shown, S) else none) = some (D.str x.shown, S)
  rw [h1 S]
  show (if x.showable && decide (x.depth ≤ 64) && decide (x.shown.length ≤ sizeLine) then some (D.str x.shown, S) else none) = some (D.str x.shown, S)
  rw [h4, decide_eq_true h6, decide_eq_true (show x.shown.length ≤ sizeLine from Nat.le_trans h5 (by decide))]
  rfl
theorem Nice.eq {d : D} (h : Nice d) (S : Store) : cmpop .eq d d S = some true := by
  obtain ⟨x, h1, h2, h3, h4⟩ := h
  have h6 := PyData.depth_of_layable h2
  have h7 : x.canLay0 = true := by
    rw [PyData.layable0.eq_1] at h2
    revert h2; cases x.canLay0 <;> simp
  show eqD S d d = some true
  have g : ((pd S d).bind fun x => (pd S d).bind fun y => if SeqAt.shaped x && SeqAt.shaped y then some (PyData.eqv x y) else none) = some true := by
    rw [h1 S]
    show (if SeqAt.shaped x && SeqAt.shaped x then some (PyData.eqv x x) else none) = _
    have : SeqAt.shaped x = true := by show (x.canLay0 && decide (x.depth ≤ 64)) = true; rw [h7, decide_eq_true h6]; rfl
    rw [this, SeqAt.eqv_refl x h7]; rfl
  cases d with
  | non => rfl
  | bl b => show some (decide (b = b)) = _; rw [decide_eq_true rfl]
  | int i => show some (decide (i = i)) = _; rw [decide_eq_true rfl]
  | str z => show some (decide (z = z)) = _; rw [decide_eq_true rfl]
  | tup xs => exact g
  | ref n => exact g
  | fn n => exact g
theorem weight_int {i : Int} (h : i.natAbs < 10 ^ 12) : (PyData.int i).weight ≤ 50 := by
  rw [PyData.weight.eq_def]
  show (if (i == 0) = true then 0 else i.natAbs.log2 + 1) ≤ 50
  split
  · omega
  · have : i.natAbs.log2 < 40 := Flt.log2_lt_of (by decide) (by omega)
    omega
theorem Nice.int {i : Int} (h : i.natAbs < 10 ^ 12) : Nice (.int i) := by
  refine ⟨.int i, fun _ => rfl, ?_, ?_, ?_⟩
  · have := weight_int h
    rw [PyData.layable0.eq_1, decide_eq_true (show (PyData.int i).weight ≤ 2 ^ 20 by omega)]; rfl
  · rw [PyData.intsShort.eq_5]; exact decide_eq_true (PyData.shown_int_le h)
  · rw [PyData.showable.eq_4]; exact decide_eq_true (by have : i.natAbs.log2 < 40 := Flt.log2_lt_of (by decide) (by omega); omega)
theorem Nice.non : Nice .non := ⟨.none, fun _ => rfl, by decide, by decide, by decide⟩
/-- a flat datum: an int that is small, or a short text -/
def Flat1 (d : D) : Prop := ∃ x, (∀ S, pd S d = some x) ∧ x.canLay0 = true ∧ x.depth = 0 ∧ x.weight ≤ 60 ∧ PyData.intsShort 13 x = true ∧ x.showable = true
theorem Flat1.int {i : Int} (h : i.natAbs < 10 ^ 12) : Flat1 (.int i) := by
  obtain ⟨x, h1, h2, h3, h4⟩ := Nice.int h
  cases h1 []
  exact ⟨_, h1, rfl, rfl, by have := weight_int h; omega, h3, h4⟩
theorem Flat1.str {z : Str} (h : PyData.strOk z = true) (k : z.cps.size ≤ 60) : Flat1 (.str z) :=
  ⟨.str z, fun _ => rfl, h, rfl, k, rfl, rfl⟩
theorem flats {ds : List D} (h : ∀ d ∈ ds, Flat1 d) : ∃ xs, (∀ S, pds S ds = some xs) ∧ PyData.canLayAll0 xs = true ∧ PyData.depthAll xs = 0 ∧ PyData.weightAll xs ≤ 61 * ds.length ∧ PyData.intsShortAll 13 xs = true ∧ PyData.showableAll xs = true := by
  induction ds with
  | nil => exact ⟨[], fun _ => rfl, rfl, rfl, by decide, rfl, rfl⟩
  | cons d ds ih =>
    obtain ⟨xs, h1, h2, h3, h4, h5, h6⟩ := ih (fun e he => h e (List.mem_cons_of_mem _ he))
    obtain ⟨x, k1, k2, k3, k4, k5, k6⟩ := h d List.mem_cons_self
    refine ⟨x :: xs, fun S => ?_, ?_, ?_, ?_, ?_, ?_⟩
    · show ((pd S d).bind fun x => (pds S ds).map fun xs => x :: xs) = _
      rw [k1 S, h1 S]; rfl
    · show (x.canLay0 && PyData.canLayAll0 xs) = true
      rw [k2, h2]; rfl
    · rw [PyData.depthAll.eq_def]; show max x.depth (PyData.depthAll xs) = 0; rw [k3, h3]; rfl
    · rw [PyData.weightAll.eq_2]; simp only [List.length_cons]; omega
    · rw [PyData.intsShortAll.eq_2, k5, h5]; rfl
    · rw [PyData.showableAll.eq_2, k6, h6]; rfl
theorem Nice.tup {ds : List D} (h : ∀ d ∈ ds, Flat1 d) (hl : ds.length ≤ 1000) : Nice (.tup ds) := by
  obtain ⟨xs, h1, h2, h3, h4, h5, h6⟩ := flats h
  refine ⟨.tuple xs, fun S => ?_, ?_, ?_, ?_⟩
  · show (pds S ds).map PyData.tuple = some (PyData.tuple xs)
    rw [h1 S]; rfl
  · rw [PyData.layable0.eq_1, PyData.canLay0.eq_6, h2, PyData.weight.eq_3, decide_eq_true (show PyData.weightAll xs ≤ 2 ^ 20 by omega), PyData.depth.eq_def]
    show (true && decide (PyData.depthAll xs + 1 ≤ 64) && true) = true
    rw [h3]; rfl
  · rw [PyData.intsShort.eq_7]; exact h5
  · rw [PyData.showable.eq_6]; exact h6
end Tm

set_option Elab.async false
set_option linter.all false
set_option maxRecDepth 100000
namespace Tm
open PySem L2
/-! ## nested data without lists: their depth and weight -/
def NW (dp w : Nat) (d : D) : Prop := ∃ x, (∀ g, pdG g d = some x) ∧ x.canLay0 = true ∧ x.depth ≤ dp ∧ x.weight ≤ w ∧ PyData.intsShort 13 x = true ∧ x.showable = true
theorem NW.mono {a b a' b' : Nat} {d : D} (h : NW a b d) (h1 : a ≤ a') (h2 : b ≤ b') : NW a' b' d := by
  obtain ⟨x, k1, k2, k3, k4, k5⟩ := h
  exact ⟨x, k1, k2, by omega, by omega, k5⟩
theorem NW.nice {dp w : Nat} {d : D} (h : NW dp w d) (h1 : dp ≤ 64 := by decide) (h2 : w ≤ 2 ^ 20 := by decide) : Nice d := by
  obtain ⟨x, k1, k2, k3, k4, k5, k6⟩ := h
  refine ⟨x, fun S => k1 _, ?_, k5, k6⟩
  rw [PyData.layable0.eq_1, k2, decide_eq_true (show x.weight ≤ 2 ^ 20 by omega), decide_eq_true (show x.depth ≤ 64 by omega)]
  rfl
theorem NW.int {i : Int} (h : i.natAbs < 10 ^ 12) : NW 0 50 (.int i) := by
  obtain ⟨x, h1, h2, h3, h4⟩ := Nice.int h
  cases h1 []
  exact ⟨_, fun _ => rfl, rfl, Nat.le_of_eq rfl, weight_int h, h3, h4⟩
theorem NW.non : NW 0 50 .non := ⟨.none, fun _ => rfl, rfl, by decide, by decide, rfl, rfl⟩
theorem NW.str {z : Str} (h : PyData.strOk z = true) (k : z.cps.size ≤ 50) : NW 0 50 (.str z) :=
  ⟨.str z, fun _ => rfl, h, Nat.le_of_eq rfl, k, rfl, rfl⟩
theorem nws {dp w : Nat} {ds : List D} (h : ∀ d ∈ ds, NW dp w d) : ∃ xs, (∀ g, pdsG g ds = some xs) ∧ PyData.canLayAll0 xs = true ∧ PyData.depthAll xs ≤ dp ∧ PyData.weightAll xs ≤ (w + 1) * ds.length ∧ PyData.intsShortAll 13 xs = true ∧ PyData.showableAll xs = true := by
  induction ds with
  | nil => exact ⟨[], fun _ => rfl, rfl, Nat.zero_le _, Nat.zero_le _, rfl, rfl⟩
  | cons d ds ih =>
    obtain ⟨xs, h1, h2, h3, h4, h5, h6⟩ := ih (fun e he => h e (List.mem_cons_of_mem _ he))
    obtain ⟨x, k1, k2, k3, k4, k5, k6⟩ := h d List.mem_cons_self
    refine ⟨x :: xs, fun g => ?_, ?_, ?_, ?_, ?_, ?_⟩
    · show ((pdG g d).bind fun x => (pdsG g ds).map fun xs => x :: xs) = _
      rw [k1 g, h1 g]; rfl
    · show (x.canLay0 && PyData.canLayAll0 xs) = true
      rw [k2, h2]; rfl
    · rw [PyData.depthAll.eq_def]; show max x.depth (PyData.depthAll xs) ≤ dp; omega
    · rw [PyData.weightAll.eq_2]; simp only [List.length_cons, Nat.mul_add, Nat.mul_one]; omega
    · rw [PyData.intsShortAll.eq_2, k5, h5]; rfl
    · rw [PyData.showableAll.eq_2, k6, h6]; rfl
theorem NW.tup {dp w : Nat} {ds : List D} (h : ∀ d ∈ ds, NW dp w d) : NW (dp + 1) ((w + 1) * ds.length) (.tup ds) := by
  obtain ⟨xs, h1, h2, h3, h4, h5, h6⟩ := nws h
  refine ⟨.tuple xs, fun g => ?_, ?_, ?_, ?_, ?_, ?_⟩
  · show (pdsG g ds).map PyData.tuple = some (PyData.tuple xs)
    rw [h1 g]; rfl
  · rw [PyData.canLay0.eq_6]; exact h2
  · rw [PyData.depth.eq_def]; show PyData.depthAll xs + 1 ≤ dp + 1; omega
  · rw [PyData.weight.eq_3]; exact h4
  · rw [PyData.intsShort.eq_7]; exact h5
  · rw [PyData.showable.eq_6]; exact h6
/-- a list of such data, read off the store -/
theorem pd_list {dp w n : Nat} {S : Store} {ds : List D} (hn : listAt S n = some ds) (h : ∀ d ∈ ds, NW dp w d) (h1 : dp < 64) (h2 : (w + 1) * ds.length ≤ 2 ^ 20) :
    ∃ x, pd S (.ref n) = some x ∧ x.layable0 = true ∧ PyData.intsShort 13 x = true ∧ x.showable = true := by
  obtain ⟨xs, k1, k2, k3, k4, k5, k6⟩ := nws h
  refine ⟨.list xs, ?_, ?_, ?_, ?_⟩
  · show pdN S 60 n = _
    show (listAt S n).bind (fun xs => (pdsG (pdN S 59) xs).map PyData.list) = _
    rw [hn]
    show (pdsG (pdN S 59) ds).map PyData.list = _
    rw [k1]; rfl
  · rw [PyData.layable0.eq_1, PyData.canLay0.eq_5, k2, PyData.weight.eq_2, decide_eq_true (show PyData.weightAll xs ≤ 2 ^ 20 by omega), PyData.depth.eq_def]
    show (true && decide (PyData.depthAll xs + 1 ≤ 64) && true) = true
    rw [decide_eq_true (by omega)]; rfl
  · rw [PyData.intsShort.eq_6]; exact k5
  · rw [PyData.showable.eq_5]; exact k6
theorem eq_lists {dp w m n : Nat} {S : Store} {ds : List D} (hm : listAt S m = some ds) (hn : listAt S n = some ds) (h : ∀ d ∈ ds, NW dp w d) (h1 : dp < 64) (h2 : (w + 1) * ds.length ≤ 2 ^ 20) :
    cmpop .eq (.ref m) (.ref n) S = some true ∧ ∃ z, biop .repr [.ref m] S = some (.str z, S) ∧ biop .repr [.ref n] S = some (.str z, S) := by
  obtain ⟨x, a1, a2, a3, a4⟩ := pd_list hm h h1 h2
  obtain ⟨y, b1, b2, b3, b4⟩ := pd_list hn h h1 h2
  have e : x = y := by
    obtain ⟨xs, k1, _⟩ := nws h
    have q : ∀ {n' : Nat} {x' : PyData}, listAt S n' = some ds → pd S (.ref n') = some x' → x' = .list xs := by
      intro n' x' g1 g2
      have : (listAt S n').bind (fun xs => (pdsG (pdN S 59) xs).map PyData.list) = some x' := g2
      rw [g1] at this
      have : (pdsG (pdN S 59) ds).map PyData.list = some x' := this
      rw [k1] at this
      exact (Option.some.inj this).symm
    rw [q hm a1, q hn b1]
  subst e
  have h5 := PyData.shown_le_of_layable0 a2 a3
  have h6 := PyData.depth_of_layable a2
  have h7 : x.canLay0 = true := by
    rw [PyData.layable0.eq_1] at a2
    revert a2; cases x.canLay0 <;> simp
  constructor
  · show ((pd S (.ref m)).bind fun x => (pd S (.ref n)).bind fun y => if SeqAt.shaped x && SeqAt.shaped y then some (PyData.eqv x y) else none) = some true
    rw [a1, b1]
    show (if SeqAt.shaped x && SeqAt.shaped x then some (PyData.eqv x x) else none) = _
    have : SeqAt.shaped x = true := by show (x.canLay0 && decide (x.depth ≤ 64)) = true; rw [h7, decide_eq_true h6]; rfl
    rw [this, SeqAt.eqv_refl x h7]; rfl
  · refine ⟨x.shown, ?_, ?_⟩
    · show ((pd S (.ref m)).bind fun x => if x.showable && decide (x.depth ≤ 64) && decide (x.shown.length ≤ sizeLine) then some (D.str x.shown, S) else none) = some (D.str x.shown, S)
      rw [a1]
      show (if x.showable && decide (x.depth ≤ 64) && decide (x.shown.length ≤ sizeLine) then some (D.str x.shown, S) else none) = some (D.str x.shown, S)
      rw [a4, decide_eq_true h6, decide_eq_true (show x.shown.length ≤ sizeLine from Nat.le_trans h5 (by decide))]; rfl
    · show ((pd S (.ref n)).bind fun x => if x.showable && decide (x.depth ≤ 64) && decide (x.shown.length ≤ sizeLine) then some (D.str x.shown, S) else none) = some (D.str x.shown, S)
      rw [b1]
      show (if x.showable && decide (x.depth ≤ 64) && decide (x.shown.length ≤ sizeLine) then some (D.str x.shown, S) else none) = some (D.str x.shown, S)
      rw [b4, decide_eq_true h6, decide_eq_true (show x.shown.length ≤ sizeLine from Nat.le_trans h5 (by decide))]; rfl
/-- a list against the empty one -/
theorem eq_nil {dp w m n : Nat} {S : Store} {ds : List D} (hm : listAt S m = some ds) (hn : listAt S n = some []) (h : ∀ d ∈ ds, NW dp w d) (h1 : dp < 64) (h2 : (w + 1) * ds.length ≤ 2 ^ 20) :
    cmpop .eq (.ref m) (.ref n) S = some ds.isEmpty := by
  obtain ⟨xs, k1, k2, k3, k4, _⟩ := nws h
  have a1 : pd S (.ref m) = some (.list xs) := by
    show (listAt S m).bind (fun xs => (pdsG (pdN S 59) xs).map PyData.list) = _
    rw [hm]
    show (pdsG (pdN S 59) ds).map PyData.list = _
    rw [k1]; rfl
  have b1 : pd S (.ref n) = some (.list []) := by
    show (listAt S n).bind (fun xs => (pdsG (pdN S 59) xs).map PyData.list) = _
    rw [hn]; rfl
  show ((pd S (.ref m)).bind fun x => (pd S (.ref n)).bind fun y => if SeqAt.shaped x && SeqAt.shaped y then some (PyData.eqv x y) else none) = _
  rw [a1, b1]
  have s1 : SeqAt.shaped (.list xs) = true := by
    show ((PyData.list xs).canLay0 && decide ((PyData.list xs).depth ≤ 64)) = true
    rw [PyData.canLay0.eq_5, k2, PyData.depth.eq_def]
    show (true && decide (PyData.depthAll xs + 1 ≤ 64)) = true
    rw [decide_eq_true (by omega)]; rfl
  show (if SeqAt.shaped (.list xs) && SeqAt.shaped (.list []) then some (PyData.eqv (.list xs) (.list [])) else none) = _
  rw [s1, show SeqAt.shaped (.list []) = true from by decide]
  cases ds with
  | nil =>
    have := k1 (fun _ => none)
    cases this
    rfl
  | cons d ds =>
    have := k1 (fun _ => none)
    simp only [pdsG, Option.bind_eq_some_iff, Option.map_eq_some_iff] at this
    obtain ⟨y, _, ys, _, rfl⟩ := this
    rfl
end Tm

set_option Elab.async false
set_option linter.all false
set_option maxRecDepth 100000
namespace Tm
open PySem L2
/-! ## nested data, their weights summed -/
def NWs (dp w : Nat) (ds : List D) : Prop := ∃ xs, (∀ g, pdsG g ds = some xs) ∧ PyData.canLayAll0 xs = true ∧ PyData.depthAll xs ≤ dp ∧ PyData.weightAll xs ≤ w ∧ PyData.intsShortAll 13 xs = true ∧ PyData.showableAll xs = true
theorem NWs.nil {dp : Nat} : NWs dp 0 [] := ⟨[], fun _ => rfl, rfl, Nat.zero_le _, Nat.zero_le _, rfl, rfl⟩
theorem NWs.cons {dp w v : Nat} {d : D} {ds : List D} (h : NW dp w d) (t : NWs dp v ds) : NWs dp (w + 1 + v) (d :: ds) := by
  obtain ⟨xs, h1, h2, h3, h4, h5, h6⟩ := t
  obtain ⟨x, k1, k2, k3, k4, k5, k6⟩ := h
  refine ⟨x :: xs, fun g => ?_, ?_, ?_, ?_, ?_, ?_⟩
  · show ((pdG g d).bind fun x => (pdsG g ds).map fun xs => x :: xs) = _
    rw [k1 g, h1 g]; rfl
  · show (x.canLay0 && PyData.canLayAll0 xs) = true
    rw [k2, h2]; rfl
  · rw [PyData.depthAll.eq_def]; show max x.depth (PyData.depthAll xs) ≤ dp; omega
  · rw [PyData.weightAll.eq_2]; omega
  · rw [PyData.intsShortAll.eq_2, k5, h5]; rfl
  · rw [PyData.showableAll.eq_2, k6, h6]; rfl
theorem NWs.mono {dp w v : Nat} {ds : List D} (h : NWs dp w ds) (h2 : w ≤ v) : NWs dp v ds := by
  obtain ⟨xs, h1, h2, h3, h4, h5⟩ := h
  exact ⟨xs, h1, h2, h3, by omega, h5⟩
theorem NWs.tup {dp w : Nat} {ds : List D} (h : NWs dp w ds) : NW (dp + 1) w (.tup ds) := by
  obtain ⟨xs, h1, h2, h3, h4, h5, h6⟩ := h
  refine ⟨.tuple xs, fun g => ?_, ?_, ?_, ?_, ?_, ?_⟩
  · show (pdsG g ds).map PyData.tuple = some (PyData.tuple xs)
    rw [h1 g]; rfl
  · rw [PyData.canLay0.eq_6]; exact h2
  · rw [PyData.depth.eq_def]; show PyData.depthAll xs + 1 ≤ dp + 1; omega
  · rw [PyData.weight.eq_3]; exact h4
  · rw [PyData.intsShort.eq_7]; exact h5
  · rw [PyData.showable.eq_6]; exact h6
/-- a tuple against the empty one -/
theorem eq_tnil {dp w : Nat} {S : Store} {ds : List D} (h : NWs dp w ds) (h1 : dp < 64) : cmpop .eq (.tup ds) (.tup []) S = some ds.isEmpty := by
  obtain ⟨xs, k1, k2, k3, k4, _⟩ := h
  have a1 : pd S (.tup ds) = some (.tuple xs) := by
    show (pdsG (pdN S 60) ds).map PyData.tuple = _
    rw [k1]; rfl
  show ((pd S (.tup ds)).bind fun x => (pd S (.tup [])).bind fun y => if SeqAt.shaped x && SeqAt.shaped y then some (PyData.eqv x y) else none) = _
  rw [a1]
  have s1 : SeqAt.shaped (.tuple xs) = true := by
    show ((PyData.tuple xs).canLay0 && decide ((PyData.tuple xs).depth ≤ 64)) = true
    rw [PyData.canLay0.eq_6, k2, PyData.depth.eq_def]
    show (true && decide (PyData.depthAll xs + 1 ≤ 64)) = true
    rw [decide_eq_true (by omega)]; rfl
  show (if SeqAt.shaped (.tuple xs) && SeqAt.shaped (.tuple []) then some (PyData.eqv (.tuple xs) (.tuple [])) else none) = _
  rw [s1, show SeqAt.shaped (.tuple []) = true from by decide]
  cases ds with
  | nil =>
    have := k1 (fun _ => none)
    cases this
    rfl
  | cons d ds =>
    have := k1 (fun _ => none)
    simp only [pdsG, Option.bind_eq_some_iff, Option.map_eq_some_iff] at this
    obtain ⟨y, _, ys, _, rfl⟩ := this
    rfl
theorem ne_tnil {dp w : Nat} {S : Store} {ds : List D} (h : NWs dp w ds) (h1 : dp < 64) : cmpop .ne (.tup ds) (.tup []) S = some (!ds.isEmpty) := by
  show (eqD S (.tup ds) (.tup [])).map (!·) = _
  have := eq_tnil (S := S) h h1
  have : eqD S (.tup ds) (.tup []) = some ds.isEmpty := this
  rw [this]; rfl
end Tm

set_option Elab.async false
set_option linter.all false
set_option maxRecDepth 100000
set_option maxHeartbeats 1000000
namespace Tm
open PySem L2
local macro_rules | `(tactic| walk_at "sm") => `(tactic| first | assumption | (unfold Sm; first | omega | decide))
local macro_rules | `(tactic| walk_at "in") => `(tactic| first | assumption | omega | decide)
local macro_rules | `(tactic| walk_at "lst") => `(tactic| first | assumption | exact l_last | exact l_lst (by assumption) | exact l_ro (by assumption) | exact l_lst (set_get (by assumption)))
local macro_rules | `(tactic| walk_at "op") => `(tactic| first
  | with_reducible exact o_add
  | with_reducible exact o_sub
  | ((with_reducible refine' o_mod ?h); (case h => walk_at "in"))
  | ((with_reducible refine' o_div ?h ?g); (case h => walk_at "in"); (case g => walk_at "sm"))
  | ((with_reducible refine' o_mul ?h ?g); (case h => walk_at "sm"); (case g => walk_at "sm"))
  | ((with_reducible refine' o_pow ?h ?g); (case h => walk_at "in"); (case g => decide)))
local macro_rules | `(tactic| walk_at "cmp") => `(tactic| first
  | ((with_reducible refine' c_eq_t ?h); (case h => walk_at "in"))
  | ((with_reducible refine' c_lt_t ?h); (case h => walk_at "in"))
  | ((with_reducible refine' c_gt_t ?h); (case h => walk_at "in"))
  | ((with_reducible refine' c_ne_t ?h); (case h => walk_at "in"))
  | ((with_reducible refine' c_le_t ?h); (case h => walk_at "in"))
  | ((with_reducible refine' c_ge_t ?h); (case h => walk_at "in"))
  | ((with_reducible refine' c_eq_f ?h); (case h => walk_at "in"))
  | ((with_reducible refine' c_lt_f ?h); (case h => walk_at "in"))
  | ((with_reducible refine' c_gt_f ?h); (case h => walk_at "in"))
  | ((with_reducible refine' c_ne_f ?h); (case h => walk_at "in"))
  | ((with_reducible refine' c_le_f ?h); (case h => walk_at "in"))
  | ((with_reducible refine' c_ge_f ?h); (case h => walk_at "in"))
  | ((with_reducible refine' c_str_t ?h); (case h => with_reducible exact rfl))
  | ((with_reducible refine' c_str_f ?h); (case h => decide))
  | ((with_reducible refine' c_strn_f ?h); (case h => with_reducible exact rfl))
  | ((with_reducible refine' c_strn_t ?h); (case h => decide))
  | ((with_reducible refine' c_in (t := true) ?h ?g ?f ?e); (case h => walk_at "lst"); (case g => exact rfl); (case f => exact rfl); (case e => decide))
  | ((with_reducible refine' c_in (t := false) ?h ?g ?f ?e); (case h => walk_at "lst"); (case g => exact rfl); (case f => exact rfl); (case e => decide))
  | ((with_reducible refine' c_inT (t := true) ?g ?f ?e); (case g => exact rfl); (case f => exact rfl); (case e => decide))
  | ((with_reducible refine' c_inT (t := false) ?g ?f ?e); (case g => exact rfl); (case f => exact rfl); (case e => decide)))
local macro_rules | `(tactic| walk_at "bi") => `(tactic| first | with_reducible exact b_int | with_reducible exact b_bool | with_reducible exact b_abs | with_reducible exact b_max | with_reducible exact b_min | with_reducible exact b_lenT | ((with_reducible refine' b_lenL ?h); (case h => walk_at "lst")))
local macro_rules | `(tactic| walk_at "call") => `(tactic| first | assumption)
local macro_rules | `(tactic| walk_at "ev") => `(tactic| first
  | (exact er_nil)
  | ((with_reducible refine' er_lit ?h); (case h => exact rfl))
  | ((with_reducible refine' er_var ?h); (case h => exact rfl))
  | ((with_reducible refine' er_cons ?h1 ?h2); (case h1 => walk_at "ev"); (case h2 => walk_at "ev"))
  | ((with_reducible refine' er_tup ?h1 ?h2); (case h1 => walk_at "ev"); (case h2 => exact Nat.le_of_ble_eq_true rfl))
  | ((with_reducible refine' er_lst ?h1 ?h2); (case h1 => walk_at "ev"); (case h2 => exact Nat.le_of_ble_eq_true rfl))
  | ((with_reducible refine' er_bin ?h1 ?h2 ?h3); (case h1 => walk_at "ev"); (case h2 => walk_at "ev"); (case h3 => walk_at "op"))
  | ((with_reducible refine' er_idx ?h1 ?h2 ?h3); (case h1 => walk_at "ev"); (case h2 => walk_at "ev"); (case h3 => first | exact i_tup (by first | assumption | rfl) | exact i_lst (by walk_at "lst") (by first | assumption | rfl)))
  | ((with_reducible refine' er_call ?h1 ?h2 ?h3 ?h4); (case h1 => walk_at "ev"); (case h2 => walk_at "ev"); (case h3 => exact rfl); (case h4 => walk_at "call"))
  | ((with_reducible refine' er_bi ?h1 ?h2); (case h1 => walk_at "ev"); (case h2 => walk_at "bi"))
  | ((with_reducible refine' er_cmp ?h1 ?h2 ?h3); (case h1 => walk_at "ev"); (case h2 => walk_at "ev"); (case h3 => walk_at "cmp"))
  | ((with_reducible refine' er_nots ?h1 ?h2); (case h1 => walk_at "ev"); (case h2 => first | exact Neg.t | exact Neg.f))
  | ((with_reducible refine' er_ors ?h1 ?h2); (case h1 => walk_at "ev"); (case h2 => first | exact ors_t | ((with_reducible refine' ors_f ?h3); (case h3 => walk_at "ev"))))
  | ((with_reducible refine' er_ands ?h1 ?h2); (case h1 => walk_at "ev"); (case h2 => first | exact ands_f | ((with_reducible refine' ands_t ?h3); (case h3 => walk_at "ev"))))
  | ((with_reducible refine' er_br ?h1 ?h2); (case h1 => walk_at "ev"); (case h2 => first | ((with_reducible refine' bre_t ?h3); (case h3 => walk_at "ev")) | ((with_reducible refine' bre_f ?h3); (case h3 => walk_at "ev")))))
local macro_rules | `(tactic| walk_at "ex") => `(tactic| first
  | (exact es_skip)
  | ((with_reducible refine' es_sq ?h1 ?h2); (case h1 => walk_at "ex"); (case h2 => first | exact nxt_rt | exact nxt_bk | exact nxt_ct | ((with_reducible refine' nxt_nx ?h3); (case h3 => walk_at "ex"))))
  | ((with_reducible refine' es_ret ?h1); (case h1 => walk_at "ev"))
  | ((with_reducible refine' es_asg ?h1 ?h2); (case h1 => walk_at "ev"); (case h2 => exact rfl))
  | ((with_reducible refine' es_seti ?h1 ?h2 ?h3 ?h4); (case h1 => walk_at "ev"); (case h2 => walk_at "ev"); (case h3 => walk_at "ev"); (case h4 => exact s_set (by first | assumption | exact set_get (by assumption)) rfl))
  | ((with_reducible refine' es_drop ?h1); (case h1 => walk_at "ev"))
  | ((with_reducible refine' es_br ?h1 ?h2); (case h1 => walk_at "ev"); (case h2 => first | ((with_reducible refine' brs_t ?h3); (case h3 => walk_at "ex")) | ((with_reducible refine' brs_f ?h3); (case h3 => walk_at "ex")))))
/-! ## the spring: numbers that are drawn -/
/-- at a stands a spring from which at most c numbers were drawn by mixing -/
def Spr (S : Store) (a : Nat) (c : Int) : Prop := ∃ x m n : Int, S[a]? = some (.lst [.int x, .int m, .int n]) ∧ 0 ≤ m ∧ m < 2 ^ 61 ∧ 0 ≤ n ∧ n ≤ c
theorem Spr.kp {S S' : Store} {a : Nat} {c : Int} {A : List Nat} (h : Spr S a c) (k : Kp A S S') (n : a ∉ A) : Spr S' a c := by
  obtain ⟨x, m, n', h1, h2⟩ := h
  exact ⟨x, m, n', k _ _ n h1, h2⟩
theorem Spr.le {S : Store} {a : Nat} {c d : Int} (h : Spr S a c) (k : c ≤ d) : Spr S a d := by
  obtain ⟨x, m, n', h1, h2, h3, h4, h5⟩ := h
  exact ⟨x, m, n', h1, h2, h3, h4, by omega⟩
theorem Spr.lt {S : Store} {a : Nat} {c : Int} (h : Spr S a c) : a < S.length := by
  obtain ⟨x, m, n', h1, _⟩ := h
  exact (List.getElem?_eq_some_iff.mp h1).1
section
variable {q : Pr} (hq : q.fs 5 = some (2, 4, b_5)) {W : Nat}
include hq
theorem pick_a (k : Nat) {S : Store} {a : Nat} {x m c many : Int} (hS : S[a]? = some (.lst [.int x, .int m, .int c])) (hx : 0 < x) (hm : 0 < many) (hl : Sm many) :
    run q W (k + 1) 5 [.ref a, .int many] S = some (.int (x % many), S.set a (.lst [.int (x / many), .int m, .int c])) := by
  refine' run_rt hq rfl rfl ?h
  case h => unfold b_5; walk_at "ex"
theorem pick_b (k : Nat) {S : Store} {a : Nat} {x m c many : Int} (hS : S[a]? = some (.lst [.int x, .int m, .int c])) (hx : ¬ 0 < x) (hm0 : 0 ≤ m) (hm : m < 2 ^ 61) (hc0 : 0 ≤ c) (hc : c < 10 ^ 12) (hn : 0 < many) (hl : Sm many) :
    ∃ r, run q W (k + 1) 5 [.ref a, .int many] S = some (.int r, S.set a (.lst [.int x, .int m, .int (c + 1)])) ∧ 0 ≤ r ∧ r < many := by
  have w0 : Sm (c + 1) := by unfold Sm; omega
  have w1 : Sm (1000003 * (c + 1)) := by unfold Sm; omega
  have w2 : (m + 1000003 * (c + 1)).natAbs < 2 ^ 64 := by omega
  have w3 : 0 < (10 : Int) ^ (18 : Int).toNat + 9 := by decide
  have w4 : 0 < (2 : Int) ^ (61 : Int).toNat - 1 := by decide
  have w5 : ((m + 1000003 * (c + 1)) ^ (3 : Int).toNat + 754974721 * (c + 1)) % ((10 : Int) ^ (18 : Int).toNat + 9) < 10 ^ 18 + 9 := Int.emod_lt_of_pos _ w3
  have w6 : 0 ≤ ((m + 1000003 * (c + 1)) ^ (3 : Int).toNat + 754974721 * (c + 1)) % ((10 : Int) ^ (18 : Int).toNat + 9) := Int.emod_nonneg _ (by decide)
  generalize hg : ((m + 1000003 * (c + 1)) ^ (3 : Int).toNat + 754974721 * (c + 1)) % ((10 : Int) ^ (18 : Int).toNat + 9) = g at w5 w6
  have w7 : Sm g := by unfold Sm; omega
  have w8 : Sm (g + 40961) := by unfold Sm; omega
  refine ⟨(g * (g + 40961)) % ((2 : Int) ^ (61 : Int).toNat - 1) / 4099 % many, ?_, Int.emod_nonneg _ (by omega), Int.emod_lt_of_pos _ hn⟩
  subst hg
  have hS' : (S.set a (.lst [.int x, .int m, .int (c + 1)]))[a]? = some (.lst [.int x, .int m, .int (c + 1)]) := set_get hS
  refine' run_rt hq rfl rfl ?h
  case h => unfold b_5; walk_at "ex"
end
theorem pick_spec {q : Pr} (hq : q.fs 5 = some (2, 4, b_5)) {W : Nat} (k : Nat) {S : Store} {a : Nat} {c many : Int} (h : Spr S a c) (hc : c < 10 ^ 12) (hn : 0 < many) (hl : Sm many) :
    ∃ r S', run q W (k + 1) 5 [.ref a, .int many] S = some (.int r, S') ∧ 0 ≤ r ∧ r < many ∧ Spr S' a (c + 1) ∧ Kp [a] S S' := by
  obtain ⟨x, m, n, h1, h2, h3, h4, h5⟩ := h
  by_cases hx : 0 < x
  · exact ⟨_, _, pick_a hq k h1 hx hn hl, Int.emod_nonneg _ (by omega), Int.emod_lt_of_pos _ hn, ⟨_, _, _, set_get h1, h2, h3, h4, by omega⟩, Kp.set⟩
  · obtain ⟨r, g1, g2, g3⟩ := pick_b hq k (W := W) h1 hx h2 h3 h4 (by omega) hn hl
    exact ⟨r, _, g1, g2, g3, ⟨_, _, _, set_get h1, h2, h3, by omega, by omega⟩, Kp.set⟩
theorem word_spec {q : Pr} (h5 : q.fs 5 = some (2, 4, b_5)) (h6 : q.fs 6 = some (1, 2, b_6)) {W : Nat} (k : Nat) {S : Store} {a : Nat} {c : Int} (h : Spr S a c) (hc : c + 1 < 10 ^ 12) :
    ∃ r S', run q W (k + 2) 6 [.ref a] S = some (.int r, S') ∧ 0 ≤ r ∧ r < 65536 ∧ Spr S' a (c + 2) ∧ Kp [a] S S' := by
  obtain ⟨r1, S1, p1, l1, u1, s1, k1⟩ := pick_spec h5 (W := W) k h (by omega) (show (0 : Int) < 4 by decide) (by unfold Sm; decide)
  obtain ⟨r2, S2, p2, l2, u2, s2, k2⟩ := pick_spec h5 (W := W) k s1 (by omega) (show (0 : Int) < 4 by decide) (by unfold Sm; decide)
  obtain ⟨r3, S3, p3, l3, u3, s3, k3⟩ := pick_spec h5 (W := W) k s1 (by omega) (show (0 : Int) < 65536 by decide) (by unfold Sm; decide)
  by_cases e0 : r1 = 0
  · exact ⟨_, _, by refine' run_rt h6 rfl rfl ?h; (case h => unfold b_6; walk_at "ex"), l2, by omega, s2.le (by omega), k1.trans k2⟩
  by_cases e1 : r1 = 1
  · exact ⟨_, _, by refine' run_rt h6 rfl rfl ?h; (case h => unfold b_6; walk_at "ex"), by omega, by omega, s2.le (by omega), k1.trans k2⟩
  by_cases e2 : r1 = 2
  · exact ⟨_, _, by refine' run_rt h6 rfl rfl ?h; (case h => unfold b_6; walk_at "ex"), by omega, by omega, s2.le (by omega), k1.trans k2⟩
  · exact ⟨_, _, by refine' run_rt h6 rfl rfl ?h; (case h => unfold b_6; walk_at "ex"), l3, u3, s3.le (by omega), k1.trans k3⟩

end Tm

set_option Elab.async false
set_option linter.all false
set_option maxRecDepth 100000
set_option maxHeartbeats 4000000
namespace Tm
open PySem L2
local macro_rules | `(tactic| walk_at "sm") => `(tactic| first | assumption | (unfold Sm; first | omega | decide))
local macro_rules | `(tactic| walk_at "in") => `(tactic| first | assumption | omega | decide)
local macro_rules | `(tactic| walk_at "lst") => `(tactic| first | assumption | exact l_last | exact l_lst (by assumption) | exact l_ro (by assumption) | exact l_lst (set_get (by assumption)))
local macro_rules | `(tactic| walk_at "op") => `(tactic| first
  | with_reducible exact o_add
  | with_reducible exact o_sub
  | ((with_reducible refine' o_mod ?h); (case h => walk_at "in"))
  | ((with_reducible refine' o_div ?h ?g); (case h => walk_at "in"); (case g => walk_at "sm"))
  | ((with_reducible refine' o_mul ?h ?g); (case h => walk_at "sm"); (case g => walk_at "sm"))
  | ((with_reducible refine' o_pow ?h ?g); (case h => walk_at "in"); (case g => decide)))
local macro_rules | `(tactic| walk_at "cmp") => `(tactic| first
  | ((with_reducible refine' c_eq_t ?h); (case h => walk_at "in"))
  | ((with_reducible refine' c_lt_t ?h); (case h => walk_at "in"))
  | ((with_reducible refine' c_gt_t ?h); (case h => walk_at "in"))
  | ((with_reducible refine' c_ne_t ?h); (case h => walk_at "in"))
  | ((with_reducible refine' c_le_t ?h); (case h => walk_at "in"))
  | ((with_reducible refine' c_ge_t ?h); (case h => walk_at "in"))
  | ((with_reducible refine' c_eq_f ?h); (case h => walk_at "in"))
  | ((with_reducible refine' c_lt_f ?h); (case h => walk_at "in"))
  | ((with_reducible refine' c_gt_f ?h); (case h => walk_at "in"))
  | ((with_reducible refine' c_ne_f ?h); (case h => walk_at "in"))
  | ((with_reducible refine' c_le_f ?h); (case h => walk_at "in"))
  | ((with_reducible refine' c_ge_f ?h); (case h => walk_at "in"))
  | ((with_reducible refine' c_str_t ?h); (case h => with_reducible exact rfl))
  | ((with_reducible refine' c_str_f ?h); (case h => decide))
  | ((with_reducible refine' c_strn_f ?h); (case h => with_reducible exact rfl))
  | ((with_reducible refine' c_strn_t ?h); (case h => decide))
  | ((with_reducible refine' c_in (t := true) ?h ?g ?f ?e); (case h => walk_at "lst"); (case g => exact rfl); (case f => exact rfl); (case e => decide))
  | ((with_reducible refine' c_in (t := false) ?h ?g ?f ?e); (case h => walk_at "lst"); (case g => exact rfl); (case f => exact rfl); (case e => decide))
  | ((with_reducible refine' c_inT (t := true) ?g ?f ?e); (case g => exact rfl); (case f => exact rfl); (case e => decide))
  | ((with_reducible refine' c_inT (t := false) ?g ?f ?e); (case g => exact rfl); (case f => exact rfl); (case e => decide)))
local macro_rules | `(tactic| walk_at "bi") => `(tactic| first | with_reducible exact b_int | with_reducible exact b_bool | with_reducible exact b_abs | with_reducible exact b_max | with_reducible exact b_min | with_reducible exact b_lenT | ((with_reducible refine' b_lenL ?h); (case h => walk_at "lst")))
local macro_rules | `(tactic| walk_at "call") => `(tactic| first | assumption)
local macro_rules | `(tactic| walk_at "ev") => `(tactic| first
  | (exact er_nil)
  | ((with_reducible refine' er_lit ?h); (case h => exact rfl))
  | ((with_reducible refine' er_var ?h); (case h => exact rfl))
  | ((with_reducible refine' er_cons ?h1 ?h2); (case h1 => walk_at "ev"); (case h2 => walk_at "ev"))
  | ((with_reducible refine' er_tup ?h1 ?h2); (case h1 => walk_at "ev"); (case h2 => exact Nat.le_of_ble_eq_true rfl))
  | ((with_reducible refine' er_lst ?h1 ?h2); (case h1 => walk_at "ev"); (case h2 => exact Nat.le_of_ble_eq_true rfl))
  | ((with_reducible refine' er_bin ?h1 ?h2 ?h3); (case h1 => walk_at "ev"); (case h2 => walk_at "ev"); (case h3 => walk_at "op"))
  | ((with_reducible refine' er_idx ?h1 ?h2 ?h3); (case h1 => walk_at "ev"); (case h2 => walk_at "ev"); (case h3 => first | exact i_tup (by first | assumption | rfl) | exact i_lst (by walk_at "lst") (by first | assumption | rfl)))
  | ((with_reducible refine' er_call ?h1 ?h2 ?h3 ?h4); (case h1 => walk_at "ev"); (case h2 => walk_at "ev"); (case h3 => exact rfl); (case h4 => walk_at "call"))
  | ((with_reducible refine' er_bi ?h1 ?h2); (case h1 => walk_at "ev"); (case h2 => walk_at "bi"))
  | ((with_reducible refine' er_cmp ?h1 ?h2 ?h3); (case h1 => walk_at "ev"); (case h2 => walk_at "ev"); (case h3 => walk_at "cmp"))
  | ((with_reducible refine' er_nots ?h1 ?h2); (case h1 => walk_at "ev"); (case h2 => first | exact Neg.t | exact Neg.f))
  | ((with_reducible refine' er_ors ?h1 ?h2); (case h1 => walk_at "ev"); (case h2 => first | exact ors_t | ((with_reducible refine' ors_f ?h3); (case h3 => walk_at "ev"))))
  | ((with_reducible refine' er_ands ?h1 ?h2); (case h1 => walk_at "ev"); (case h2 => first | exact ands_f | ((with_reducible refine' ands_t ?h3); (case h3 => walk_at "ev"))))
  | ((with_reducible refine' er_br ?h1 ?h2); (case h1 => walk_at "ev"); (case h2 => first | ((with_reducible refine' bre_t ?h3); (case h3 => walk_at "ev")) | ((with_reducible refine' bre_f ?h3); (case h3 => walk_at "ev")))))
local macro_rules | `(tactic| walk_at "ex") => `(tactic| first
  | (exact es_skip)
  | ((with_reducible refine' es_sq ?h1 ?h2); (case h1 => walk_at "ex"); (case h2 => first | exact nxt_rt | exact nxt_bk | exact nxt_ct | ((with_reducible refine' nxt_nx ?h3); (case h3 => walk_at "ex"))))
  | ((with_reducible refine' es_ret ?h1); (case h1 => walk_at "ev"))
  | ((with_reducible refine' es_asg ?h1 ?h2); (case h1 => walk_at "ev"); (case h2 => exact rfl))
  | ((with_reducible refine' es_seti ?h1 ?h2 ?h3 ?h4); (case h1 => walk_at "ev"); (case h2 => walk_at "ev"); (case h3 => walk_at "ev"); (case h4 => exact s_set (by first | assumption | exact set_get (by assumption)) rfl))
  | ((with_reducible refine' es_drop ?h1); (case h1 => walk_at "ev"))
  | ((with_reducible refine' es_br ?h1 ?h2); (case h1 => walk_at "ev"); (case h2 => first | ((with_reducible refine' brs_t ?h3); (case h3 => walk_at "ex")) | ((with_reducible refine' brs_f ?h3); (case h3 => walk_at "ex")))))
def b_7t : St := (.seq (.ifs (.cmp .eq (.var 1) (.lit (.str "set"))) (.seq (.ret (.tup (.cons (.var 1) (.cons (.var 4) (.cons (.var 7) .nil)))))
  .skip) .skip)
  (.seq (.ifs (.cmp .in_ (.var 1) (.lst (.cons (.lit (.str "add")) (.cons (.lit (.str "sub")) (.cons (.lit (.str "and")) (.cons (.lit (.str "xor")) (.cons (.lit (.str "below")) .nil))))))) (.seq (.ret (.tup (.cons (.var 1) (.cons (.var 4) (.cons (.var 5) (.cons (.var 6) .nil))))))
  .skip) .skip)
  (.seq (.ifs (.cmp .in_ (.var 1) (.lst (.cons (.lit (.str "load")) (.cons (.lit (.str "store")) .nil)))) (.seq (.ret (.tup (.cons (.var 1) (.cons (.var 4) (.cons (.var 5) (.cons (.var 7) .nil))))))
  .skip) .skip)
  (.seq (.ifs (.cmp .in_ (.var 1) (.lst (.cons (.lit (.str "swap")) (.cons (.lit (.str "addto")) .nil)))) (.seq (.ret (.tup (.cons (.var 1) (.cons (.var 4) (.cons (.var 5) (.cons (.var 6) (.cons (.var 7) .nil)))))))
  .skip) .skip)
  (.seq (.ifs (.cmp .eq (.var 1) (.lit (.str "ifzero"))) (.seq (.ret (.tup (.cons (.var 1) (.cons (.var 4) (.cons (.var 8) .nil)))))
  .skip) .skip)
  (.seq (.ifs (.cmp .eq (.var 1) (.lit (.str "jump"))) (.seq (.ret (.tup (.cons (.var 1) (.cons (.var 8) .nil))))
  .skip) .skip)
  (.seq (.ret (.tup (.cons (.var 1) .nil)))
  .skip)))))))
theorem Spr.push {S : Store} {a : Nat} {c : Int} {o : O} (h : Spr S a c) : Spr (S ++ [o]) a c := h.kp (A := []) Kp.push (by simp)
abbrev nms : List Str := ["set", "add", "sub", "and", "xor", "below", "load", "store", "swap", "addto", "fence", "ifzero", "jump", "gap", "stop"]
def shape (nm : Str) (a b c w g : Int) : List D :=
  if nm = "set" then [.int a, .int w] else if nm = "add" ∨ nm = "sub" ∨ nm = "and" ∨ nm = "xor" ∨ nm = "below" then [.int a, .int b, .int c]
  else if nm = "load" ∨ nm = "store" then [.int a, .int b, .int w] else if nm = "swap" ∨ nm = "addto" then [.int a, .int b, .int c, .int w]
  else if nm = "ifzero" then [.int a, .int g] else if nm = "jump" then [.int g] else []
theorem pick3 (x y z r : Int) (h0 : 0 ≤ r) (h3 : r < 3) : ∃ t, atI [D.int x, D.int y, D.int z] r = some (D.int t) ∧ (t = x ∨ t = y ∨ t = z) := by
  have : r = 0 ∨ r = 1 ∨ r = 2 := by omega
  rcases this with rfl | rfl | rfl
  · exact ⟨x, rfl, Or.inl rfl⟩
  · exact ⟨y, rfl, Or.inr (Or.inl rfl)⟩
  · exact ⟨z, rfl, Or.inr (Or.inr rfl)⟩
theorem instr_spec {q : Pr} (h5 : q.fs 5 = some (2, 4, b_5)) (h6 : q.fs 6 = some (1, 2, b_6)) (h7 : q.fs 7 = some (4, 9, b_7)) {W : Nat} (k : Nat) {S : Store} {a : Nat} {c few many : Int} (h : Spr S a c) (hc : c + 7 < 10 ^ 12)
    (f0 : 0 < few) (f1 : few < 100) (m0 : 0 ≤ many) (m1 : many < 100) {nm : Str} (hm : nm ∈ nms) :
    ∃ (i1 i2 i3 w g : Int) (S' : Store), run q W (k + 3) 7 [.ref a, .str nm, .int few, .int many] S = some (.tup (.str nm :: shape nm i1 i2 i3 w g), S') ∧ 0 ≤ i1 ∧ i1 < few ∧ 0 ≤ i2 ∧ i2 < few ∧ 0 ≤ i3 ∧ i3 < few ∧ 0 ≤ w ∧ w < 65536 ∧ 0 ≤ g ∧ g ≤ many
      ∧ Spr S' a (c + 7) ∧ Kp [a] S S' := by
  obtain ⟨r1, S1, p1, l1, u1, s1, k1⟩ := pick_spec h5 (W := W) (k + 1) h (by omega) f0 (by unfold Sm; omega)
  obtain ⟨r2, S2, p2, l2, u2, s2, k2⟩ := pick_spec h5 (W := W) (k + 1) s1 (by omega) f0 (by unfold Sm; omega)
  obtain ⟨r3, S3, p3, l3, u3, s3, k3⟩ := pick_spec h5 (W := W) (k + 1) s2 (by omega) f0 (by unfold Sm; omega)
  obtain ⟨w, S4, p4, l4, u4, s4, k4⟩ := word_spec h5 h6 (W := W) k s3 (by omega)
  obtain ⟨r5, S5, p5, l5, u5, s5, k5⟩ := pick_spec h5 (W := W) (k + 1) s4 (by omega) (show 0 < many + 1 by omega) (by unfold Sm; omega)
  obtain ⟨r6, S6, p6, l6, u6, s6, k6⟩ := pick_spec h5 (W := W) (k + 1) (s5.push (o := .lst [.int 0, .int many, .int r5])) (by omega) (show (0 : Int) < 3 by decide) (by unfold Sm; decide)
  obtain ⟨g, hg, hgo⟩ := pick3 0 many r5 r6 l6 u6
  have hL : listAt S6 S5.length = some [.int 0, .int many, .int r5] := l_lst (k6 _ _ (by have := s5.lt; simp; omega) g_last)
  have K : Kp [a] S S6 := k1.trans (k2.trans (k3.trans (k4.trans (k5.trans (Kp.push.trans k6)))))
  have Z : Spr S6 a (c + 7) := s6.le (by omega)
  have G : 0 ≤ g ∧ g ≤ many := by omega
  have R0 : ∀ (w' : Fl × Env' × Store), ex (pm q W (k + 2)) b_7t [some (.ref a), some (.str nm), some (.int few), some (.int many), some (.int r1), some (.int r2), some (.int r3), some (.int w), some (.int g)] S6 = some w' → ex (pm q W (k + 2)) b_7 (env0 4 9 [.ref a, .str nm, .int few, .int many]) S = some w' := by
    intro w' hw
    unfold b_7
    refine' es_nx ?x1 ?x2
    case x1 => walk_at "ex"
    case x2 =>
    refine' es_nx ?y1 ?y2
    case y1 => walk_at "ex"
    case y2 => exact hw
  simp only [nms, List.mem_cons, List.not_mem_nil, or_false] at hm
  rcases hm with rfl | rfl | rfl | rfl | rfl | rfl | rfl | rfl | rfl | rfl | rfl | rfl | rfl | rfl | rfl
  all_goals
    refine' ⟨r1, r2, r3, w, g, _, ?h, l1, u1, l2, u2, l3, u3, l4, u4, G.1, G.2, ?z, ?k⟩
    case h => refine' run_rt h7 rfl rfl ?h; (case h => refine' R0 _ ?h; (case h => unfold b_7t; walk_at "ex"))
    case z => repeat (first | exact Z | apply Spr.push)
    case k => repeat (first | exact K | refine Kp.trans ?_ Kp.push)
end Tm

set_option Elab.async false
set_option linter.all false
set_option maxRecDepth 100000
namespace Tm
open PySem L2
/-! ## and and xor, bit by bit -/
def bs (t : Nat) : Nat → Nat → Nat → Nat
  | 0, _, _ => 0
  | n + 1, x, y => (if x % 2 + y % 2 = t then 1 else 0) + 2 * bs t n (x / 2) (y / 2)
theorem and_mod2 (x y : Nat) : (x &&& y) % 2 = (x % 2) * (y % 2) := by
  have h := Nat.and_mod_two_pow (a := x) (b := y) (n := 1)
  simp only [Nat.pow_one] at h
  rw [h]
  have hx : x % 2 = 0 ∨ x % 2 = 1 := by omega
  have hy : y % 2 = 0 ∨ y % 2 = 1 := by omega
  rcases hx with hx | hx <;> rcases hy with hy | hy <;> rw [hx, hy] <;> rfl
theorem or_mod2 (x y : Nat) : (x ||| y) % 2 + (x % 2) * (y % 2) = x % 2 + y % 2 := by
  have h := Nat.or_mod_two_pow (a := x) (b := y) (n := 1)
  simp only [Nat.pow_one] at h
  rw [h]
  have hx : x % 2 = 0 ∨ x % 2 = 1 := by omega
  have hy : y % 2 = 0 ∨ y % 2 = 1 := by omega
  rcases hx with hx | hx <;> rcases hy with hy | hy <;> rw [hx, hy] <;> rfl
theorem bs_and : ∀ (n x y : Nat), x < 2 ^ n → y < 2 ^ n → bs 2 n x y = x &&& y
  | 0, x, y, hx, hy => by
    have : x = 0 := by omega
    subst this; simp [bs]
  | n + 1, x, y, hx, hy => by
    have e := bs_and n (x / 2) (y / 2) (by rw [Nat.pow_succ] at hx; omega) (by rw [Nat.pow_succ] at hy; omega)
    have d := Nat.and_div_two (a := x) (b := y)
    have m := and_mod2 x y
    have hx : x % 2 = 0 ∨ x % 2 = 1 := by omega
    have hy : y % 2 = 0 ∨ y % 2 = 1 := by omega
    simp only [bs, e]
    rcases hx with hx | hx <;> rcases hy with hy | hy <;> rw [hx, hy] at m ⊢ <;> simp <;> omega
theorem bs_xor : ∀ (n x y : Nat), x < 2 ^ n → y < 2 ^ n → bs 1 n x y + (x &&& y) = x ||| y
  | 0, x, y, hx, hy => by
    have : x = 0 := by omega
    have : y = 0 := by omega
    subst x; subst y; simp [bs]
  | n + 1, x, y, hx, hy => by
    have e := bs_xor n (x / 2) (y / 2) (by rw [Nat.pow_succ] at hx; omega) (by rw [Nat.pow_succ] at hy; omega)
    have d := Nat.and_div_two (a := x) (b := y)
    have d' := Nat.or_div_two (a := x) (b := y)
    have m := and_mod2 x y
    have m' := or_mod2 x y
    have hx : x % 2 = 0 ∨ x % 2 = 1 := by omega
    have hy : y % 2 = 0 ∨ y % 2 = 1 := by omega
    rw [← d, ← d'] at e
    simp only [bs]
    generalize bs 1 n (x / 2) (y / 2) = B at e ⊢
    generalize (x &&& y) = A at e m m' ⊢
    generalize (x ||| y) = O at e m m' ⊢
    clear d d'
    rcases hx with hx | hx <;> rcases hy with hy | hy <;> rw [hx, hy] at m m' ⊢ <;> simp at m m' ⊢ <;> omega
theorem bitAnd_nat (x y : Nat) : Builtin.bitAnd (x : Int) (y : Int) = ((x &&& y : Nat) : Int) := by
  unfold Builtin.bitAnd
  rw [decide_eq_true (show (0 : Int) ≤ x by omega), decide_eq_true (show (0 : Int) ≤ y by omega)]
  rfl
theorem bitOr_nat (x y : Nat) : Builtin.bitOr (x : Int) (y : Int) = ((x ||| y : Nat) : Int) := by
  unfold Builtin.bitOr Builtin.bitAnd Builtin.bitNot
  rw [decide_eq_false (show ¬ (0 : Int) ≤ -(x : Int) - 1 by omega), decide_eq_false (show ¬ (0 : Int) ≤ -(y : Int) - 1 by omega)]
  simp only
  have h1 : (-(-(x : Int) - 1) - 1).toNat = x := by omega
  have h2 : (-(-(y : Int) - 1) - 1).toNat = y := by omega
  rw [h1, h2]; omega
theorem bitXor_nat (x y : Nat) (hx : x < 2 ^ 16) (hy : y < 2 ^ 16) : Builtin.bitXor (x : Int) (y : Int) = ((bs 1 16 x y : Nat) : Int) := by
  unfold Builtin.bitXor
  rw [bitAnd_nat, bitOr_nat, ← bs_xor 16 x y hx hy]; omega
end Tm

set_option Elab.async false
set_option linter.all false
set_option maxRecDepth 100000
set_option maxHeartbeats 4000000
namespace Tm
open PySem L2
theorem o_band {i j : Int} {S : Store} : binop .band (.int i) (.int j) S = some (.int (Builtin.bitAnd i j), S) := rfl
theorem o_bxor {i j : Int} {S : Store} : binop .bxor (.int i) (.int j) S = some (.int (Builtin.bitXor i j), S) := rfl
theorem forL_nx {bod : Env' → Store → Option (Fl × Env' × Store)} {t : Tg} {cks ds : List D} {d : D} {e e1 e2 : Env'} {S S2 : Store} {w : Fl × Env' × Store}
    (hc : chks S cks = true) (hb : bindT t d S e = some e1) (h : bod e1 S = some (.nx, e2, S2)) (r : forL bod t cks ds e2 S2 = some w) : forL bod t cks (d :: ds) e S = some w := by
  simp only [forL, hc, hb, h, if_true, Option.bind_some]; exact r
theorem forL_nil {bod : Env' → Store → Option (Fl × Env' × Store)} {t : Tg} {cks : List D} {e : Env'} {S : Store} (hc : chks S cks = true) : forL bod t cks [] e S = some (.nx, e, S) := by
  simp only [forL, hc, if_true]
inductive LcAll (cnd elt : Env' → Store → Option (D × Store)) (t : Tg) (w : Env') : List D → List D → Prop
  | nil : LcAll cnd elt t w [] []
  | cons {d y : D} {ds ys : List D} {e1 : Env'} (hb : ∀ S, bindT t d S w = some e1) (hc : ∀ S, cnd e1 S = some (.bl true, S)) (he : ∀ S, elt e1 S = some (y, S)) (r : LcAll cnd elt t w ds ys) : LcAll cnd elt t w (d :: ds) (y :: ys)
theorem lc_pure {cnd elt : Env' → Store → Option (D × Store)} {t : Tg} {w : Env'} {n : Nat} {ds ys : List D} (h : LcAll cnd elt t w ds ys) : ∀ {S : Store} {acc : List D}, S[n]? = some (.lst acc) → acc.length + ys.length ≤ sizeLine →
    lcL cnd elt t [] w n ds S = some (S.set n (.lst (acc ++ ys))) := by
  induction h with
  | nil =>
    intro S acc hS hl
    obtain ⟨hn, hv⟩ := List.getElem?_eq_some_iff.mp hS
    have : S.set n (.lst acc) = S := by rw [← hv]; exact List.set_getElem_self hn
    simp only [lcL, chks, if_true, List.append_nil, this]
  | cons hb hc he r ih =>
    intro S acc hS hl
    simp only [List.length_cons] at hl
    have hp : ∀ z, push n z S = some (S.set n (.lst (acc ++ [z]))) := by
      intro z; simp only [push, hS]; rw [if_pos (by omega)]
    simp only [lcL, chks, if_true, hb S, hc S, he S, Option.bind_some, hp]
    rw [ih (set_get hS) (by simp; omega)]
    simp
theorem er_lcp {q : Pr} {W k : Nat} {i a b : C} {t : Tg} {own : List Nat} {e : Env'} {S S1 : Store} {ds ys : List D} (h1 : ev (pm q W k) i e S = some (itD ds [], S1))
    (h2 : LcAll (ev (pm q W k) b) (ev (pm q W k) a) t (wipeE e own) ds ys) (h3 : ys.length ≤ sizeLine) : ev (pm q W k) (.lc i t b a own) e S = some (.ref S1.length, S1 ++ [.lst ys]) := by
  refine er_lc h1 ?_
  rw [lc_pure h2 (g_last) (by simpa using h3)]
  congr 1
  rw [List.nil_append, List.set_append_right _ _ (Nat.le_refl _)]
  simp
def sumOf (nm : Str) (x y : Int) : Int :=
  if nm = "add" then (x + y) % 65536 else if nm = "sub" then (x - y) % 65536 else if nm = "and" then Builtin.bitAnd x y else if nm = "xor" then Builtin.bitXor x y
  else if x < y then 1 else 0
abbrev sms : List Str := ["add", "sub", "and", "xor", "below"]
theorem sum_le {nm : Str} (hm : nm ∈ sms) {x y : Int} (hx : 0 ≤ x ∧ x < 65536) (hy : 0 ≤ y ∧ y < 65536) : (sumOf nm x y).natAbs < 10 ^ 12 := by
  obtain ⟨x, rfl⟩ := Int.eq_ofNat_of_zero_le hx.1
  obtain ⟨y, rfl⟩ := Int.eq_ofNat_of_zero_le hy.1
  simp only [sms, List.mem_cons, List.not_mem_nil, or_false] at hm
  rcases hm with rfl | rfl | rfl | rfl | rfl
  · show ((x + y : Int) % 65536).natAbs < _; omega
  · show ((x - y : Int) % 65536).natAbs < _; omega
  · show (Builtin.bitAnd x y).natAbs < _
    rw [bitAnd_nat]
    have := Nat.and_le_left (n := x) (m := y)
    omega
  · show (Builtin.bitXor x y).natAbs < _
    rw [show Builtin.bitXor x y = Builtin.bitOr x y - Builtin.bitAnd x y from rfl, bitAnd_nat, bitOr_nat]
    have h1 := Nat.and_le_left (n := x) (m := y)
    have h2 : x ||| y < 2 ^ 16 := Nat.or_lt_two_pow (by omega) (by omega)
    omega
  · show (if (x : Int) < y then (1 : Int) else 0).natAbs < _
    split <;> decide
/-! ## loops and comprehensions, by what holds before each item -/
/-- a comprehension: Inv (items left) (made so far) (store); the list under way stands at n -/
theorem lc_inv {cnd elt : Env' → Store → Option (D × Store)} {t : Tg} {w : Env'} {n : Nat} {cks : List D} (Inv : List D → List D → Store → Prop)
    (hc : ∀ ds acc S, Inv ds acc S → chks S cks = true)
    (step : ∀ d ds acc S, Inv (d :: ds) acc S → ∃ e1 S1, bindT t d S w = some e1 ∧ ((cnd e1 S = some (.bl false, S1) ∧ Inv ds acc S1) ∨
      (∃ y S2, cnd e1 S = some (.bl true, S1) ∧ elt e1 S1 = some (y, S2) ∧ S2[n]? = some (.lst acc) ∧ acc.length < sizeLine ∧ Inv ds (acc ++ [y]) (S2.set n (.lst (acc ++ [y])))))) :
    ∀ ds acc S, Inv ds acc S → ∃ acc' S', lcL cnd elt t cks w n ds S = some S' ∧ Inv [] acc' S' := by
  intro ds
  induction ds with
  | nil => intro acc S h; exact ⟨acc, S, by simp only [lcL, hc _ _ _ h, if_true], h⟩
  | cons d ds ih =>
    intro acc S h
    obtain ⟨e1, S1, hb, h2⟩ := step d ds acc S h
    rcases h2 with ⟨h3, h4⟩ | ⟨y, S2, h3, h4, h5, h6, h7⟩
    · obtain ⟨a', S', k1, k2⟩ := ih acc S1 h4
      exact ⟨a', S', by simp only [lcL, hc _ _ _ h, if_true, hb, h3, Option.bind_some]; exact k1, k2⟩
    · obtain ⟨a', S', k1, k2⟩ := ih _ _ h7
      have hp : push n y S2 = some (S2.set n (.lst (acc ++ [y]))) := by simp only [push, h5, h6, if_true]
      exact ⟨a', S', by simp only [lcL, hc _ _ _ h, if_true, hb, h3, h4, hp, Option.bind_some]; exact k1, k2⟩
/-- a for that runs to its end -/
theorem forL_inv {bod : Env' → Store → Option (Fl × Env' × Store)} {t : Tg} {cks : List D} (Inv : List D → Env' → Store → Prop)
    (hc : ∀ ds e S, Inv ds e S → chks S cks = true)
    (step : ∀ d ds e S, Inv (d :: ds) e S → ∃ e1 e2 S2, bindT t d S e = some e1 ∧ (bod e1 S = some (.nx, e2, S2) ∨ bod e1 S = some (.ct, e2, S2)) ∧ Inv ds e2 S2) :
    ∀ ds e S, Inv ds e S → ∃ e' S', forL bod t cks ds e S = some (.nx, e', S') ∧ Inv [] e' S' := by
  intro ds
  induction ds with
  | nil => intro e S h; exact ⟨e, S, by simp only [forL, hc _ _ _ h, if_true], h⟩
  | cons d ds ih =>
    intro e S h
    obtain ⟨e1, e2, S2, hb, h2, h3⟩ := step d ds e S h
    obtain ⟨e', S', k1, k2⟩ := ih e2 S2 h3
    rcases h2 with h2 | h2
    · exact ⟨e', S', by simp only [forL, hc _ _ _ h, if_true, hb, h2, Option.bind_some]; exact k1, k2⟩
    · exact ⟨e', S', by simp only [forL, hc _ _ _ h, if_true, hb, h2, Option.bind_some]; exact k1, k2⟩
theorem forL_rt {bod : Env' → Store → Option (Fl × Env' × Store)} {t : Tg} {cks ds : List D} {d v : D} {e e1 e2 : Env'} {S S2 : Store}
    (hc : chks S cks = true) (hb : bindT t d S e = some e1) (h : bod e1 S = some (.rt v, e2, S2)) : forL bod t cks (d :: ds) e S = some (.rt v, e2, S2) := by
  simp only [forL, hc, hb, h, if_true, Option.bind_some]
theorem forL_bk {bod : Env' → Store → Option (Fl × Env' × Store)} {t : Tg} {cks ds : List D} {d : D} {e e1 e2 : Env'} {S S2 : Store}
    (hc : chks S cks = true) (hb : bindT t d S e = some e1) (h : bod e1 S = some (.bk, e2, S2)) : forL bod t cks (d :: ds) e S = some (.nx, e2, S2) := by
  simp only [forL, hc, hb, h, if_true, Option.bind_some]
theorem forL_ct {bod : Env' → Store → Option (Fl × Env' × Store)} {t : Tg} {cks ds : List D} {d : D} {e e1 e2 : Env'} {S S2 : Store} {w : Fl × Env' × Store}
    (hc : chks S cks = true) (hb : bindT t d S e = some e1) (h : bod e1 S = some (.ct, e2, S2)) (r : forL bod t cks ds e2 S2 = some w) : forL bod t cks (d :: ds) e S = some w := by
  simp only [forL, hc, hb, h, if_true, Option.bind_some]; exact r
/-! ## slices, sums of tuples and lists -/
theorem cut_to (xs : List D) {i : Int} (h : 0 ≤ i) : cutD xs none (some i) = xs.take i.toNat := by
  unfold cutD HT.sIx
  simp only [if_neg (show ¬ i < 0 by omega), List.drop_zero, Nat.sub_zero]
  rw [← List.take_take]
  simp
theorem cut_from (xs : List D) {i : Int} (h : 0 ≤ i) : cutD xs (some i) none = xs.drop i.toNat := by
  unfold cutD HT.sIx
  simp only [if_neg (show ¬ i < 0 by omega)]
  by_cases g : i.toNat ≤ xs.length
  · rw [Nat.min_eq_left g, List.take_of_length_le (by simp)]
  · rw [Nat.min_eq_right (by omega), List.drop_of_length_le (show xs.length ≤ i.toNat by omega)]; simp
section
variable {q : Pr} {W k : Nat} {e : Env'} {S S1 S2 : Store} {a b : C} {x : D} {xs ys : List D} {i j : Int}
theorem er_slc_to (h1 : ev (pm q W k) a e S = some (.tup xs, S1)) (hb : isAbs b = false) (h2 : ev (pm q W k) b e S1 = some (.int i, S2)) (hi : 0 ≤ i) : ev (pm q W k) (.slc a .absent b) e S = some (.tup (xs.take i.toNat), S2) := by
  have ha : isAbs C.absent = true := rfl
  simp only [ev, h1, Option.bind_some, part, ha, if_true, hb, Bool.false_eq_true, if_false, h2, slcop, cut_to xs hi]
theorem er_slc_from (h1 : ev (pm q W k) a e S = some (.tup xs, S1)) (hb : isAbs b = false) (h2 : ev (pm q W k) b e S1 = some (.int i, S2)) (hi : 0 ≤ i) : ev (pm q W k) (.slc a b .absent) e S = some (.tup (xs.drop i.toNat), S2) := by
  have ha : isAbs C.absent = true := rfl
  simp only [ev, h1, Option.bind_some, part, ha, if_true, hb, Bool.false_eq_true, if_false, h2, slcop, cut_from xs hi]
theorem o_addT (h : xs.length + ys.length ≤ sizeLine) : binop .add (.tup xs) (.tup ys) S = some (.tup (xs ++ ys), S) := by
  show okI (decide (xs.length + ys.length ≤ sizeLine)) _ _ = _
  rw [decide_eq_true h]; rfl
theorem o_addL {m n : Nat} (h1 : S[m]? = some (.lst xs)) (h2 : S[n]? = some (.lst ys)) (h : xs.length + ys.length ≤ sizeLine) : binop .add (.ref m) (.ref n) S = some (.ref S.length, S ++ [.lst (xs ++ ys)]) := by
  simp only [binop, h1, h2, h, if_true, new]
theorem at_nat {n : Nat} {d : D} (h : xs[n]? = some d) : atI xs (n : Int) = some d := by
  have hl := (List.getElem?_eq_some_iff.mp h).1
  unfold atI ixN
  rw [if_pos (by omega), if_pos (by omega)]
  simpa using h
theorem at_pos {d : D} (h0 : 0 ≤ i) (h : xs[i.toNat]? = some d) : atI xs i = some d := by
  have := at_nat (n := i.toNat) h
  rwa [Int.toNat_of_nonneg h0] at this
/-- what `items[:i] + (x,) + items[i + 1:]` is -/
theorem put_at {n : Nat} (h : n < xs.length) : xs.take n ++ [x] ++ xs.drop (n + 1) = xs.set n x := by
  rw [List.set_eq_take_append_cons_drop, if_pos h]; simp
end
section
variable {a b c d : D}
theorem pk1 : pick [0] ([a] ++ []) = [a] := rfl
theorem pk2 : pick [0, 1] ([a, b] ++ []) = [a, b] := rfl
theorem pk3 : pick [0, 1, 2] ([a, b, c] ++ []) = [a, b, c] := rfl
theorem pk4 : pick [0, 1, 2, 3] ([a, b, c, d] ++ []) = [a, b, c, d] := rfl
theorem pn1 : pick [0] ([] ++ [a]) = [a] := rfl
theorem pn2 : pick [1, 0] ([] ++ [a, b]) = [b, a] := rfl
theorem es_skip2 {q : Pr} {W k : Nat} {e e' : Env'} {S S' : Store} (h1 : e = e') (h2 : S = S') : ex (pm q W k) .skip e S = some (.nx, e', S') := by subst h1 h2; rfl
theorem pn3 : pick [1, 2, 0] ([] ++ [a, b, c]) = [b, c, a] := rfl
end
theorem b_tupL {n : Nat} {xs : List D} {S : Store} (h : listAt S n = some xs) : biop .tuple [.ref n] S = some (.tup xs, S) := by
  show (listAt S n).map _ = _
  rw [h]; rfl
theorem pur_of {q : Pr} {W k f : Nat} {es : List D} {d : D} (h : ∀ S, ∃ S', run q W k f es S = some (d, S') ∧ Kp [] S S') : ∃ F : Store → Store, (∀ S, run q W k f es S = some (d, F S)) ∧ ∀ S, Kp [] S (F S) :=
  ⟨fun S => Classical.choose (h S), fun S => (Classical.choose_spec (h S)).1, fun S => (Classical.choose_spec (h S)).2⟩
theorem Kp.nil {S S' : Store} {A : List Nat} (h : Kp [] S S') : Kp A S S' := h.more (by simp)
theorem Spr.kp0 {S S' : Store} {a : Nat} {c : Int} (h : Spr S a c) (k : Kp [] S S') : Spr S' a c := h.kp k (by simp)
theorem Kp.drop {S S' : Store} {a : Nat} (h : Kp [a] S S') (l : S.length ≤ a) : Kp [] S S' := fun i o _ e => by
  refine h i o ?_ e
  have := (List.getElem?_eq_some_iff.mp e).1
  simp; omega
theorem Kp.from {S S1 S' : Store} {a : Nat} (h : Kp [] S S1) (k : Kp [a] S1 S') (l : S.length ≤ a) : Kp [] S S' := fun i o n e => by
  refine k i o ?_ (h i o n e)
  have := (List.getElem?_eq_some_iff.mp e).1
  simp; omega
theorem beqs_ints : ∀ ns : List Int, D.beqs (ns.map D.int) (ns.map D.int) = true
  | [] => rfl
  | n :: ns => by
    show (decide (n = n) && D.beqs (ns.map D.int) (ns.map D.int)) = true
    rw [beqs_ints ns, decide_eq_true rfl]; rfl
theorem at_ints (ns : List Int) (i : Int) (h0 : 0 ≤ i) (h1 : i < ((ns.map D.int).length : Int)) : ∃ u, atI (ns.map D.int) i = some (.int u) := by
  have hl : i.toNat < ns.length := by simp at h1; omega
  refine ⟨ns[i.toNat], ?_⟩
  have e : ixN (ns.map D.int).length i = some i.toNat := by
    unfold ixN
    rw [if_pos h0, if_pos h1]
  unfold atI
  rw [e]
  simp [hl]
end Tm

set_option Elab.async false
set_option linter.all false
set_option maxRecDepth 100000
set_option maxHeartbeats 4000000
namespace Tm
open PySem L2
theorem Kp.set_new {S0 S : Store} {n : Nat} {o : O} (h : Kp [] S0 S) (hn : S0.length ≤ n) : Kp [] S0 (S.set n o) := fun i u x e => by
  have := (List.getElem?_eq_some_iff.mp e).1
  rw [List.getElem?_set_ne (by omega)]
  exact h i u x e
theorem push_at {n : Nat} {d : D} {S : Store} {xs : List D} (h : S[n]? = some (.lst xs)) (l : xs.length < sizeLine) : push n d S = some (S.set n (.lst (xs ++ [d]))) := by
  simp only [push, h, l, if_true]
/-- a comprehension whose items each give something or nothing, with nothing else done -/
theorem lcF {α : Type} {cnd elt : Env' → Store → Option (D × Store)} {t : Tg} {w : Env'} {cks : List D} {n : Nat} {S0 : Store} (h : α → D) (f : α → Option D) (hck : ∀ S, Kp [] S0 S → chks S cks = true) (hn : S0.length ≤ n) : ∀ (ds : List α) (acc : List D) (S : Store),
    (∀ d ∈ ds, ∀ S, Kp [] S0 S → ∃ e1, bindT t (h d) S w = some e1 ∧ ((f d = none ∧ cnd e1 S = some (.bl false, S)) ∨ ∃ y S2, f d = some y ∧ cnd e1 S = some (.bl true, S) ∧ elt e1 S = some (y, S2) ∧ Kp [] S S2)) →
    S[n]? = some (.lst acc) → acc.length + ds.length ≤ sizeLine → Kp [] S0 S → ∃ S', lcL cnd elt t cks w n (ds.map h) S = some S' ∧ Kp [] S0 S' ∧ S'[n]? = some (.lst (acc ++ ds.filterMap f)) := by
  intro ds
  induction ds with
  | nil => intro acc S _ h2 _ h4; exact ⟨S, by simp only [List.map_nil, lcL, hck S h4, if_true], h4, by simpa using h2⟩
  | cons d ds ih =>
    intro acc S h1 h2 h3 h4
    simp only [List.length_cons] at h3
    obtain ⟨e1, g1, g⟩ := h1 d List.mem_cons_self S h4
    rcases g with ⟨g2, g3⟩ | ⟨y, S2, g2, g3, g4, g5⟩
    · obtain ⟨S', k1, k2, k3⟩ := ih acc S (fun d hd => h1 d (List.mem_cons_of_mem _ hd)) h2 (by omega) h4
      exact ⟨S', by simp only [List.map_cons, lcL, hck S h4, if_true, g1, g3, Option.bind_some]; exact k1, k2, by rw [List.filterMap_cons, g2]; exact k3⟩
    · have h2' := g5 n _ (by simp) h2
      obtain ⟨S', k1, k2, k3⟩ := ih (acc ++ [y]) (S2.set n (.lst (acc ++ [y]))) (fun d hd => h1 d (List.mem_cons_of_mem _ hd)) (set_get h2') (by simp; omega) ((h4.trans g5).set_new hn)
      exact ⟨S', by simp only [List.map_cons, lcL, hck S h4, if_true, g1, g3, g4, Option.bind_some, push_at h2' (show acc.length < sizeLine by omega)]; exact k1, k2, by rw [List.filterMap_cons, g2, k3]; simp⟩
theorem er_lcF {α : Type} {q : Pr} {W k : Nat} {i a b : C} {t : Tg} {own : List Nat} {e : Env'} {S S1 : Store} {ds : List α} {cks : List D} (h : α → D) (f : α → Option D) (h1 : ev (pm q W k) i e S = some (itD (ds.map h) cks, S1)) (hck : ∀ S, Kp [] S1 S → chks S cks = true) (hl : ds.length ≤ sizeLine)
    (step : ∀ d ∈ ds, ∀ S, Kp [] S1 S → ∃ e1, bindT t (h d) S (wipeE e own) = some e1 ∧ ((f d = none ∧ ev (pm q W k) b e1 S = some (.bl false, S)) ∨ ∃ y S2, f d = some y ∧ ev (pm q W k) b e1 S = some (.bl true, S) ∧ ev (pm q W k) a e1 S = some (y, S2) ∧ Kp [] S S2)) :
    ∃ S', ev (pm q W k) (.lc i t b a own) e S = some (.ref S1.length, S') ∧ Kp [] S1 S' ∧ S'[S1.length]? = some (.lst (ds.filterMap f)) := by
  obtain ⟨S', k1, k2, k3⟩ := lcF (S0 := S1) (n := S1.length) h f hck (Nat.le_refl _) ds [] (S1 ++ [.lst []]) step g_last (by simpa using hl) Kp.push
  exact ⟨S', er_lc h1 k1, k2, by simpa using k3⟩
theorem er_lcG {α : Type} {q : Pr} {W k : Nat} {i a : C} {t : Tg} {own : List Nat} {e : Env'} {S S1 : Store} {ds : List α} {cks : List D} (h f : α → D) (h1 : ev (pm q W k) i e S = some (itD (ds.map h) cks, S1)) (hck : ∀ S, Kp [] S1 S → chks S cks = true) (hl : ds.length ≤ sizeLine)
    (step : ∀ d ∈ ds, ∀ S, Kp [] S1 S → ∃ e1 S2, bindT t (h d) S (wipeE e own) = some e1 ∧ ev (pm q W k) a e1 S = some (f d, S2) ∧ Kp [] S S2) :
    ∃ S', ev (pm q W k) (.lc i t (.lit (.bl true)) a own) e S = some (.ref S1.length, S') ∧ Kp [] S1 S' ∧ S'[S1.length]? = some (.lst (ds.map f)) := by
  obtain ⟨S', k1, k2, k3⟩ := er_lcF (q := q) (W := W) (k := k) (b := .lit (.bl true)) (a := a) (t := t) (own := own) h (fun d => some (f d)) h1 hck hl fun d hd S hS => by
    obtain ⟨e1, S2, g1, g2, g3⟩ := step d hd S hS
    exact ⟨e1, g1, .inr ⟨f d, S2, rfl, er_lit rfl, g2, g3⟩⟩
  refine ⟨S', k1, k2, ?_⟩
  rw [k3, ← List.filterMap_eq_map]; rfl
theorem er_lcM {q : Pr} {W k : Nat} {i a : C} {t : Tg} {own : List Nat} {e : Env'} {S S1 : Store} {ds cks : List D} (f : D → D) (h1 : ev (pm q W k) i e S = some (itD ds cks, S1)) (hck : ∀ S, Kp [] S1 S → chks S cks = true) (hl : ds.length ≤ sizeLine)
    (step : ∀ d ∈ ds, ∀ S, Kp [] S1 S → ∃ e1 S2, bindT t d S (wipeE e own) = some e1 ∧ ev (pm q W k) a e1 S = some (f d, S2) ∧ Kp [] S S2) :
    ∃ S', ev (pm q W k) (.lc i t (.lit (.bl true)) a own) e S = some (.ref S1.length, S') ∧ Kp [] S1 S' ∧ S'[S1.length]? = some (.lst (ds.map f)) :=
  er_lcG (fun d => d) f (by rw [List.map_id']; exact h1) hck hl step
theorem zipF_map {α β : Type} (f : α → D) (g : β → D) : ∀ (xs : List α) (ys : List β), zipF (xs.map f) (ys.map g) = (xs.zip ys).map fun p => .tup [f p.1, g p.2]
  | [], ys => by cases ys <;> rfl
  | x :: xs, [] => rfl
  | x :: xs, y :: ys => by simp [zipF, zipF_map f g xs ys]
theorem b_all {n : Nat} {S : Store} {ds : List D} (h : listAt S n = some ds) (t : ∀ d ∈ ds, d = .bl true) : biop .all [.ref n] S = some (.bl true, S) := by
  have : ∃ bs, blsD ds = some bs ∧ bs.all id = true := by
    clear h
    induction ds with
    | nil => exact ⟨[], rfl, rfl⟩
    | cons d ds ih =>
      obtain ⟨bs, h1, h2⟩ := ih fun d hd => t d (List.mem_cons_of_mem _ hd)
      have := t d List.mem_cons_self
      subst this
      exact ⟨true :: bs, by simp only [blsD, h1, Option.map_some], by simpa using h2⟩
  obtain ⟨bs, h1, h2⟩ := this
  show ((listAt S n).bind fun xs => (blsD xs).map fun bs => (D.bl (bs.all id), S)) = _
  rw [h]
  show ((blsD ds).map fun bs => (D.bl (bs.all id), S)) = _
  rw [h1]
  show some (D.bl (bs.all id), S) = _
  rw [h2]
theorem b_allB {n : Nat} {S : Store} {bs : List Bool} (h : listAt S n = some (bs.map D.bl)) : biop .all [.ref n] S = some (.bl (bs.all id), S) := by
  have h1 : blsD (bs.map D.bl) = some bs := by
    clear h
    induction bs with
    | nil => rfl
    | cons b bs ih => simp only [List.map_cons, blsD, ih, Option.map_some]
  show ((listAt S n).bind fun xs => (blsD xs).map fun bs => (D.bl (bs.all id), S)) = _
  rw [h]
  show ((blsD (bs.map D.bl)).map fun bs => (D.bl (bs.all id), S)) = _
  rw [h1]; rfl
theorem itv_tup {q : Pr} {W k : Nat} {a : C} {e : Env'} {S S1 : Store} {ds : List D} (h : ev (pm q W k) a e S = some (.tup ds, S1)) : ev (pm q W k) (.itv a) e S = some (itD ds [], S1) := er_itv h rfl
theorem itv_lst {q : Pr} {W k : Nat} {a : C} {e : Env'} {S S1 : Store} {ds : List D} {n : Nat} (h : ev (pm q W k) a e S = some (.ref n, S1)) (hn : listAt S1 n = some ds) : ev (pm q W k) (.itv a) e S = some (itD ds [.tup [.ref n, .tup ds]], S1) :=
  er_itv h (by show (listAt S1 n).map _ = _; rw [hn]; rfl)
theorem Kp.at {S S' : Store} {n : Nat} {ds : List D} (k : Kp [] S S') (h : listAt S n = some ds) : listAt S' n = some ds := by
  unfold listAt at h ⊢
  split at h
  · rename_i xs e; rw [k _ _ (by simp) e]; exact h
  · rename_i xs e; rw [k _ _ (by simp) e]; exact h
  · cases h
theorem chk_lst {S S1 : Store} {n : Nat} {ds : List D} (hn : listAt S1 n = some ds) (k : Kp [] S1 S) : chks S [.tup [.ref n, .tup ds]] = true := by
  simp only [chks, chk1, k.at hn, D.beqs_refl, Bool.and_true]
theorem ty_ref {n : Nat} {S : Store} {ds : List D} {t : Ty} (h : listAt S n = some ds) : tyop (.ref n) t S = some (match t with | .list => true | _ => false) := by
  show (listAt S n).map _ = _
  rw [h]; rfl
theorem er_callv {q : Pr} {W k : Nat} {e : Env'} {S S1 S2 : Store} {a b : C} {x : Str} {i : Nat} {ds : List D} {w : D × Store} (h1 : ev (pm q W k) a e S = some (.fn x, S1)) (h2 : ev (pm q W k) b e S1 = some (.tup ds, S2)) (hx : q.fx x = some i) (h3 : run q W k i ds S2 = some w) :
    ev (pm q W k) (.callv a b) e S = some w := by
  simp only [ev, h1, h2, Option.bind_some, hx]
  exact h3
theorem c_isN {S : Store} : cmpop .is_ .non .non S = some true := rfl
theorem c_isnN {S : Store} : cmpop .isn .non .non S = some false := rfl
theorem c_isT {S : Store} {xs : List D} : cmpop .is_ (.tup xs) .non S = some false := rfl
theorem c_isnT {S : Store} {xs : List D} : cmpop .isn (.tup xs) .non S = some true := rfl
theorem c_isB {S : Store} {a b : Bool} : cmpop .is_ (.bl a) (.bl b) S = some (decide (a = b)) := rfl
theorem rng0 (n : Nat) : rng 0 n = (List.range n).map fun (i : Nat) => D.int (i : Int) := by
  unfold rng
  congr 1
  funext i
  simp
theorem er_rng {q : Pr} {W k : Nat} {e : Env'} {S S1 : Store} {a : C} {n : Nat} (h : ev (pm q W k) a e S = some (.tup [.int (n : Int)], S1)) (hn : n < 2 ^ 62) : ev (pm q W k) (.irng a) e S = some (itD ((List.range n).map fun (i : Nat) => D.int (i : Int)) [], S1) := by
  refine er_irng h ?_
  have h1 : decide (-(2 ^ 62) ≤ (n : Int)) = true := decide_eq_true (by omega)
  have h2 : decide ((n : Int) < 2 ^ 62) = true := decide_eq_true (by omega)
  simp only [rngs, h1, h2, Bool.and_self, if_true, Int.toNat_natCast, rng0]
theorem atN {xs : List D} {n : Nat} {d : D} (h : xs[n]? = some d) : atI xs (n : Int) = some d := at_nat h
theorem at_last {xs : List D} {d : D} : atI (xs ++ [d]) (-1) = some d := by
  unfold atI ixN
  have : ((xs ++ [d]).length : Int) = xs.length + 1 := by simp
  rw [if_neg (by decide), if_pos (by omega), this]
  have e : (-1 + ((xs.length : Int) + 1)).toNat = xs.length := by omega
  rw [e]
  simp
end Tm
namespace Tm
open PySem L2
theorem er_env {q : Pr} {W k : Nat} {e e' : Env'} {S : Store} {c : C} {w : D × Store} (he : e = e') (h : ev (pm q W k) c e' S = some w) : ev (pm q W k) c e S = some w := by subst he; exact h
theorem er_izipS {q : Pr} {W k : Nat} {e : Env'} {S S1 S2 : Store} {a b : C} {xs : List D} {z : Str} (h1 : ev (pm q W k) a e S = some (.tup xs, S1)) (h2 : ev (pm q W k) b e S1 = some (.str z, S2)) : ev (pm q W k) (.izip a b) e S = some (itD (zipF xs (z.cps.toList.map fun c => D.str ⟨#[c]⟩)) [], S2) := by
  simp only [ev, h1, h2, Option.bind_some]
theorem er_izipT {q : Pr} {W k : Nat} {e : Env'} {S S1 S2 : Store} {a b : C} {xs ys : List D} (h1 : ev (pm q W k) a e S = some (.tup xs, S1)) (h2 : ev (pm q W k) b e S1 = some (.tup ys, S2)) : ev (pm q W k) (.izip a b) e S = some (itD (zipF xs ys) [], S2) := by
  simp only [ev, h1, h2, Option.bind_some]
theorem pk5 {a b c d e : D} : pick [0, 1, 2, 3, 4] ([a, b, c, d, e] ++ []) = [a, b, c, d, e] := rfl
theorem c_ninT {S : Store} {x : D} {xs : List D} {t : Bool} (hx : isScal x = true) (hs : xs.all isScal = true) (ht : (xs.any fun y => scEq y x) = t) : cmpop .nin x (.tup xs) S = some (!t) := by
  show (inD S x (.tup xs)).map (!·) = some (!t)
  simp only [inD, hx, hs, ht, Bool.and_self, if_true, Option.map_some]
end Tm

set_option Elab.async false
set_option linter.all false
set_option maxRecDepth 100000
set_option maxHeartbeats 8000000
namespace Tm
open PySem L2 TL
/-! ## texts -/
def small : Str := "abcdefghijklmnopqrstuvwxyz"
def digs : Str := "0123456789"
def isSm (c : Nat) : Prop := 97 ≤ c ∧ c ≤ 122
def isDg (c : Nat) : Prop := 48 ≤ c ∧ c ≤ 57
theorem sm_mem {c : Nat} (h : isSm c) : c ∈ small.cps.toList := by
  have : ∀ k, k < 26 → 97 + k ∈ small.cps.toList := by decide +kernel
  have := this (c - 97) (by unfold isSm at h; omega)
  rwa [show 97 + (c - 97) = c by unfold isSm at h; omega] at this
theorem dg_mem {c : Nat} (h : isDg c) : c ∈ digs.cps.toList := by
  have : ∀ k, k < 10 → 48 + k ∈ digs.cps.toList := by decide +kernel
  have := this (c - 48) (by unfold isDg at h; omega)
  rwa [show 48 + (c - 48) = c by unfold isDg at h; omega] at this
def numS (n : Nat) : Str := Str.ofString (toString ((n : Nat) : Int))
theorem tl_numS (n : Nat) : tl (numS n) = numL n := tl_num n
theorem num_dg {n c : Nat} (h : c ∈ numL n) : isDg c := by
  by_cases q : c < 48 ∨ 57 < c
  · exact absurd h (numL_free q)
  · unfold isDg; omega
theorem num_head : ∀ (n : Nat), 1 ≤ n → ∃ c r, numL n = c :: r ∧ ¬ c = 48 := by
  intro n
  induction n using Nat.strongRecOn with
  | _ n ih =>
    intro h
    by_cases q : n < 10
    · exact ⟨48 + n, [], numL_lt q, by omega⟩
    · obtain ⟨c, r, h1, h2⟩ := ih (n / 10) (by omega) (by omega)
      exact ⟨c, r ++ [48 + n % 10], by rw [numL_step (by omega), h1]; rfl, h2⟩
section
variable {S : Store} {x z : Str} {c : Nat}
theorem c_inS : cmpop .in_ (.str ⟨#[c]⟩) (.str z) S = some (decide (c ∈ z.cps.toList)) := rfl
theorem c_ninS : cmpop .nin (.str ⟨#[c]⟩) (.str z) S = some (!decide (c ∈ z.cps.toList)) := rfl
theorem b_lenS (h : (tl z).length ≤ 1000) : biop .len [.str z] S = some (.int (tl z).length, S) := by
  show okI (decide (z.length ≤ sizeLine)) (D.int z.length) S = _
  have e := len_tl z
  rw [decide_eq_true (show z.length ≤ sizeLine by rw [e, sizeLine_eq]; omega), e]; rfl
theorem i_str0 {r : List Nat} (h : tl z = c :: r) (hl : (tl z).length ≤ 1000) : idxop (.str z) (.int 0) S = some (.str ⟨#[c]⟩) := by
  have e := len_tl z
  show (if z.length ≤ sizeLine then (atI z.cps.toList 0).map (fun c => D.str ⟨#[c]⟩) else none) = _
  have q : atI (c :: r) 0 = some c := by
    unfold atI ixN
    rw [if_pos (by omega), if_pos (by simp)]; rfl
  rw [if_pos (show z.length ≤ sizeLine by rw [e, sizeLine_eq]; omega), show z.cps.toList = c :: r from h, q]; rfl
theorem subAt_tl (x y : Str) (i : Nat) : PySem.Builtin.Str.subAt x y i = decide (((tl x).drop i).take (tl y).length = tl y) := by
  unfold PySem.Builtin.Str.subAt
  rw [Bool.eq_iff_iff, beq_iff_eq, decide_eq_true_iff, ← Array.toList_inj, Array.toList_extract, List.extract_eq_take_drop, len_tl y]
  rw [show i + (tl y).length - i = (tl y).length by omega]
theorem starts_cons {x y : Str} {r : List Nat} (h : tl x = c :: r) (hy : tl y = [c]) : Txt.startswith x y = true := by
  show (decide (0 + y.length ≤ x.length) && PySem.Builtin.Str.subAt x y 0) = true
  rw [subAt_tl, len_tl, len_tl, h, hy]
  simp
theorem ends_last {x y : Str} {r : List Nat} (h : tl x = r ++ [c]) (hy : tl y = [c]) : Txt.endswith x y = true := by
  show (decide (0 + y.length ≤ x.length) && PySem.Builtin.Str.subAt x y (x.length - y.length)) = true
  rw [subAt_tl, len_tl, len_tl, h, hy]
  simp
theorem ends_not {x y : Str} (h : c ∉ tl x) (hy : tl y = [c]) : Txt.endswith x y = false := by
  show (decide (0 + y.length ≤ x.length) && PySem.Builtin.Str.subAt x y (x.length - y.length)) = false
  rw [subAt_tl, hy]
  have : ¬ (((tl x).drop (x.length - y.length)).take [c].length = [c]) := fun e => by
    have m : c ∈ ((tl x).drop (x.length - y.length)).take [c].length := by rw [e]; simp
    exact h (List.mem_of_mem_drop (List.mem_of_mem_take m))
  rw [decide_eq_false this, Bool.and_false]
theorem tl_from1 {r : List Nat} (h : tl z = c :: r) : tl (cutS z (some 1) none) = r := by
  show ((tl z).drop (HT.sIx z.length 0 (some 1))).take (HT.sIx z.length z.length none - HT.sIx z.length 0 (some 1)) = r
  have e : z.length = r.length + 1 := by rw [len_tl, h]; rfl
  have e1 : HT.sIx z.length 0 (some 1) = 1 := by show (if (1 : Int) < 0 then ((1 : Int) + (z.length : Int)).toNat else min (1 : Int).toNat z.length) = 1; rw [if_neg (by decide), e]; simp
  have e2 : HT.sIx z.length z.length none = z.length := rfl
  rw [e1, e2, e, h]; simp
theorem tl_to1 {r : List Nat} (h : tl z = r ++ [c]) : tl (cutS z none (some (-1))) = r := by
  show ((tl z).drop (HT.sIx z.length 0 none)).take (HT.sIx z.length z.length (some (-1)) - HT.sIx z.length 0 none) = r
  have e : z.length = r.length + 1 := by rw [len_tl, h]; simp
  have e1 : HT.sIx z.length 0 none = 0 := rfl
  have e2 : HT.sIx z.length z.length (some (-1)) = r.length := by show (if (-1 : Int) < 0 then ((-1 : Int) + (z.length : Int)).toNat else min (-1 : Int).toNat z.length) = r.length; rw [if_pos (by decide), e]; omega
  rw [e1, e2, h]; simp
theorem slS {lo hi : Option Int} {y : Str} (hl : (tl z).length ≤ 100000) (h : cutS z lo hi = y) : slcop (.str z) lo hi S = some (.str y, S) := by
  show okI (decide (z.length ≤ sizeLine)) (.str (cutS z lo hi)) S = _
  rw [decide_eq_true (show z.length ≤ sizeLine by rw [len_tl, sizeLine_eq]; omega), h]; rfl
end
theorem er_slcS_from {q : Pr} {W k : Nat} {e : Env'} {S S1 S2 : Store} {a b : C} {z : Str} {i : Int} {w : D × Store} (h1 : ev (pm q W k) a e S = some (.str z, S1)) (hb : isAbs b = false) (h2 : ev (pm q W k) b e S1 = some (.int i, S2)) (h3 : slcop (.str z) (some i) none S2 = some w) :
    ev (pm q W k) (.slc a b .absent) e S = some w := by
  have ha : isAbs C.absent = true := rfl
  simp only [ev, h1, Option.bind_some, part, ha, if_true, hb, Bool.false_eq_true, if_false, h2, h3]
theorem er_slcS_to {q : Pr} {W k : Nat} {e : Env'} {S S1 S2 : Store} {a b : C} {z : Str} {i : Int} {w : D × Store} (h1 : ev (pm q W k) a e S = some (.str z, S1)) (hb : isAbs b = false) (h2 : ev (pm q W k) b e S1 = some (.int i, S2)) (h3 : slcop (.str z) none (some i) S2 = some w) :
    ev (pm q W k) (.slc a .absent b) e S = some w := by
  have ha : isAbs C.absent = true := rfl
  simp only [ev, h1, Option.bind_some, part, ha, if_true, hb, Bool.false_eq_true, if_false, h2, h3]
theorem er_slcL_from {q : Pr} {W k : Nat} {e : Env'} {S S1 S2 : Store} {a b : C} {n : Nat} {xs : List D} {i : Int} (h1 : ev (pm q W k) a e S = some (.ref n, S1)) (hb : isAbs b = false) (h2 : ev (pm q W k) b e S1 = some (.int i, S2)) (hn : listAt S2 n = some xs) (hi : 0 ≤ i) :
    ev (pm q W k) (.slc a b .absent) e S = some (.ref S2.length, S2 ++ [.lst (xs.drop i.toNat)]) := by
  have ha : isAbs C.absent = true := rfl
  simp only [ev, h1, Option.bind_some, part, ha, if_true, hb, Bool.false_eq_true, if_false, h2, slcop, hn, Option.map_some, new, cut_from xs hi]
theorem er_izipL {q : Pr} {W k : Nat} {e : Env'} {S S1 S2 : Store} {a b : C} {n : Nat} {xs : List D} {z : Str} (h1 : ev (pm q W k) a e S = some (.ref n, S1)) (h2 : ev (pm q W k) b e S1 = some (.str z, S2)) (hn : listAt S2 n = some xs) :
    ev (pm q W k) (.izip a b) e S = some (itD (zipF xs (z.cps.toList.map fun c => D.str ⟨#[c]⟩)) [.tup [.ref n, .tup xs]], S2) := by
  simp only [ev, h1, h2, Option.bind_some, hn, Option.map_some]
theorem itv_str {q : Pr} {W k : Nat} {a : C} {e : Env'} {S S1 : Store} {z : Str} (h : ev (pm q W k) a e S = some (.str z, S1)) : ev (pm q W k) (.itv a) e S = some (itD (charsD z) [], S1) := er_itv h rfl
theorem mem_chars {z : Str} {d : D} (h : d ∈ charsD z) : ∃ c, c ∈ tl z ∧ d = .str ⟨#[c]⟩ := by
  simp only [charsD, List.mem_map] at h
  obtain ⟨c, h1, h2⟩ := h
  exact ⟨c, h1, h2.symm⟩
theorem chars_len {z : Str} : (charsD z).length = (tl z).length := by simp [charsD]

/-! ## joining and splitting -/
theorem joinL_app {s : List Nat} : ∀ {a b : List (List Nat)}, a ≠ [] → b ≠ [] → joinL s (a ++ b) = joinL s a ++ (s ++ joinL s b)
  | [], _, h, _ => (h rfl).elim
  | [x], [], _, h => (h rfl).elim
  | [x], y :: b, _, _ => rfl
  | x :: y :: a, b, _, h => by
    have ih := joinL_app (s := s) (a := y :: a) (b := b) (by simp) h
    show x ++ (s ++ joinL s (y :: a ++ b)) = x ++ (s ++ joinL s (y :: a)) ++ (s ++ joinL s b)
    rw [ih]; simp
theorem joinL_one {s x : List Nat} : joinL s [x] = x := rfl
theorem joinL_cons2 {s x y : List Nat} {r : List (List Nat)} : joinL s (x :: y :: r) = x ++ (s ++ joinL s (y :: r)) := rfl
theorem tl_jn (y : Str) (ws : List Str) : tl (Txt.join y ws) = joinL (tl y) (ws.map tl) := by rw [join_eq, tl_join]
theorem b_join {S : Store} {n : Nat} {y : Str} {ws : List Str} (h : listAt S n = some (ws.map D.str)) (hl : (ws.map (·.length)).sum + ws.length * y.length ≤ 16777216) : mtop .join (.str y) [.ref n] S = some (.str (Txt.join y ws), S) := by
  have e : ∀ ws : List Str, strsD (ws.map D.str) = some ws := fun ws => by
    induction ws with
    | nil => rfl
    | cons w ws ih => simp only [List.map_cons, strsD, ih, Option.map_some]
  show ((listAt S n).bind fun xs => (strsD xs).bind fun ys => okI (decide ((ys.map (·.length)).sum + ys.length * y.length ≤ 16777216)) (.str (Txt.join y ys)) S) = _
  rw [h]
  show ((strsD (ws.map D.str)).bind fun ys => okI (decide ((ys.map (·.length)).sum + ys.length * y.length ≤ 16777216)) (.str (Txt.join y ys)) S) = _
  rw [e]
  show okI (decide ((ws.map (·.length)).sum + ws.length * y.length ≤ 16777216)) (.str (Txt.join y ws)) S = _
  rw [decide_eq_true hl]; rfl
theorem b_split {S : Store} {x y : Str} {ws : List Str} (hy : (y.length == 0) = false) (hl : (tl x).length ≤ 1000000) (h : Txt.split x y = ws) : mtop .split (.str x) [.str y] S = some (.ref S.length, S ++ [.lst (ws.map D.str)]) := by
  show (if (y.length == 0) = false ∧ x.length + 2 ≤ sizeLine then some (new S ((Txt.split x y).map D.str)) else none) = _
  rw [if_pos ⟨hy, by rw [len_tl, sizeLine_eq]; omega⟩, h]; rfl
theorem o_addS {S : Store} {x y : Str} (h : (tl x).length + (tl y).length ≤ 1000000) : binop .add (.str x) (.str y) S = some (.str (x ++ y), S) := by
  show okI (decide (x.length + y.length ≤ sizeLine)) (.str (x ++ y)) S = _
  rw [decide_eq_true (by rw [len_tl, len_tl, sizeLine_eq]; omega)]; rfl
theorem b_strI {S : Store} {n : Nat} (h : n < 100000) : biop .str [.int n] S = some (.str (numS n), S) := by
  show okI (decide (((n : Int)).natAbs.log2 < 1920)) (.str (toString (n : Int))) S = _
  have : ((n : Int)).natAbs.log2 < 1920 := by
    by_cases q : n = 0
    · subst q; decide
    · have h0 : ((n : Int)).natAbs ≠ 0 := by omega
      exact (Nat.log2_lt h0).2 (Nat.lt_of_lt_of_le (show ((n : Int)).natAbs < 2 ^ 17 by omega) (Nat.pow_le_pow_right (by decide) (by decide)))
  rw [decide_eq_true this]; rfl
theorem b_strS {S : Store} {x : Str} : biop .str [.str x] S = some (.str x, S) := rfl
theorem b_intS {S : Store} {n : Nat} (h : n < 100000) : biop .int [.str (numS n)] S = some (.int n, S) := by
  have hl : (numL n).length ≤ 5 := numL_len (by decide) h
  have et := tl_numS n
  have e1 : PySem.intText? (numS n) = some (n : Int) := int_num (by omega)
  have e2 := len_tl (numS n)
  rw [et] at e2
  show (match PySem.intText? (numS n) with | some m => okI (decide ((numS n).length ≤ 640)) (.int m) S | none => none) = _
  rw [e1]
  show okI (decide ((numS n).length ≤ 640)) (.int n) S = _
  rw [decide_eq_true (by omega)]; rfl
/-- " || " -/
def bars : List Nat := [32, 124, 124, 32]
theorem pre_bars_f {c : Nat} {r : List Nat} (h : ∀ d t, r = d :: t → d ≠ 124) : pre bars (c :: r) = false := by
  unfold pre bars
  cases r with
  | nil => simp
  | cons d t =>
    have := h d t rfl
    simp only [List.length_cons, List.take_succ_cons, List.length_nil]
    rw [beq_eq_false_iff_ne]
    intro e
    injection e with _ e
    injection e with e _
    exact this e
theorem spl_step {y cur : List Nat} {c : Nat} {r : List Nat} : spl y 0 cur (c :: r) = if pre y (c :: r) = true then cur :: spl y (y.length - 1) [] r else spl y 0 (cur ++ [c]) r := by
  rw [spl]
theorem spl_skip {y cur : List Nat} {n c : Nat} {r : List Nat} : spl y (n + 1) cur (c :: r) = spl y n cur r := by rw [spl]
theorem spl_end {y cur : List Nat} {n : Nat} : spl y n cur [] = [cur] := by rw [spl]
theorem spl_part {t : List Nat} (ht : ∀ d r, t = d :: r → d ≠ 124) : ∀ (p cur : List Nat), (∀ c ∈ p, c ≠ 124) → spl bars 0 cur (p ++ t) = spl bars 0 (cur ++ p) t
  | [], cur, _ => by simp
  | c :: p, cur, h => by
    have hn : pre bars (c :: (p ++ t)) = false := pre_bars_f fun d r e => by
      cases p with
      | nil => exact ht d r e
      | cons d' p' =>
        injection e with e1 _
        subst e1
        exact h _ (by simp)
    rw [List.cons_append, spl_step, hn, if_neg (by decide), spl_part ht p (cur ++ [c]) fun d hd => h d (List.mem_cons_of_mem _ hd)]
    simp
theorem spl_bars : ∀ (ps : List (List Nat)) (p cur : List Nat), (∀ x ∈ p :: ps, ∀ c ∈ x, c ≠ 124) → spl bars 0 cur (joinL bars (p :: ps)) = (cur ++ p) :: ps
  | [], p, cur, h => by
    have := spl_part (t := []) (fun _ _ e => by cases e) p cur (h p (by simp))
    rw [List.append_nil] at this
    show spl bars 0 cur p = _
    rw [this, spl_end]
  | q :: ps, p, cur, h => by
    rw [joinL_cons2, spl_part (t := bars ++ joinL bars (q :: ps)) (fun d r e => by injection e with e _; subst e; decide) p cur (h p (by simp))]
    show spl bars 0 (cur ++ p) (32 :: 124 :: 124 :: 32 :: joinL bars (q :: ps)) = _
    have hp : pre bars (32 :: 124 :: 124 :: 32 :: joinL bars (q :: ps)) = true := by
      unfold pre bars; simp
    rw [spl_step, if_pos hp]
    show (cur ++ p) :: spl bars 3 [] (124 :: 124 :: 32 :: joinL bars (q :: ps)) = _
    rw [spl_skip, spl_skip, spl_skip, spl_bars ps q [] fun x hx => h x (List.mem_cons_of_mem _ hx)]
    rfl
theorem split_bars {ps : List Str} (hne : ps ≠ []) (h : ∀ x ∈ ps, ∀ c ∈ tl x, c ≠ 124) : Txt.split (Txt.join " || " ps) " || " = ps := by
  apply map_tl_inj
  rw [split_spl _ _ (by decide +kernel) (kind_ok (by decide +kernel)), tl_jn]
  show spl bars 0 [] (joinL bars (ps.map tl)) = _
  cases ps with
  | nil => exact (hne rfl).elim
  | cons p ps =>
    rw [List.map_cons, spl_bars _ _ _ fun x hx => ?_]
    · rfl
    · rw [← List.map_cons, List.mem_map] at hx
      obtain ⟨z, hz, rfl⟩ := hx
      exact h z hz
theorem split_blank {ps : List Str} (hne : ps ≠ []) (h : ∀ x ∈ ps, ∀ c ∈ tl x, c ≠ 32) : Txt.split (Txt.join " " ps) " " = ps :=
  split_join (s := 32) (S := []) (by decide +kernel) (by decide +kernel) hne fun p hp hc => h p hp 32 hc rfl
end Tm

set_option Elab.async false
set_option linter.all false
set_option maxRecDepth 100000
namespace Tm
open PySem L2
def b_888 : St := (.seq (.ret (.mt .join (.lit (.str " ")) (.cons (.lc (.itv (.var 0)) (.nm 1) (.lit (.bl true)) (.bi .str (.cons (.var 1) .nil)) [1]) .nil)))
  .skip)
def b_889 : St := (.seq (.ret (.ife (.cmp .gt (.bi .len (.cons (.var 0) .nil)) (.lit (.int 0))) (.bin .add (.bin .add (.lit (.str "{ ")) (.call 891 [0] (.cons (.var 0) .nil) .nil)) (.lit (.str " }"))) (.lit (.str "{ }"))))
  .skip)
def b_890 : St := (.seq (.ifs (.cmp .eq (.idx (.var 0) (.lit (.int 0))) (.lit (.str "if"))) (.seq (.ret (.bin .add (.bin .add (.bin .add (.bin .add (.call 888 [0] (.cons (.slc (.var 0) .absent (.lit (.int 2))) .nil) .nil) (.lit (.str " "))) (.call 889 [0] (.cons (.idx (.var 0) (.lit (.int 2))) .nil) .nil)) (.lit (.str " "))) (.call 889 [0] (.cons (.idx (.var 0) (.lit (.int 3))) .nil) .nil)))
  .skip) .skip)
  (.seq (.ifs (.cmp .eq (.idx (.var 0) (.lit (.int 0))) (.lit (.str "again"))) (.seq (.ret (.bin .add (.bin .add (.call 888 [0] (.cons (.slc (.var 0) .absent (.lit (.int 2))) .nil) .nil) (.lit (.str " "))) (.call 889 [0] (.cons (.idx (.var 0) (.lit (.int 2))) .nil) .nil)))
  .skip) .skip)
  (.seq (.ret (.call 888 [0] (.cons (.var 0) .nil) .nil))
  .skip)))
def b_891 : St := (.seq (.ret (.mt .join (.lit (.str " ; ")) (.cons (.lc (.itv (.var 0)) (.nm 1) (.lit (.bl true)) (.call 890 [0] (.cons (.var 1) .nil) .nil) [1]) .nil)))
  .skip)
def b_892 : St := (.seq (.ret (.mt .join (.lit (.str " || ")) (.cons (.lc (.itv (.var 0)) (.nm 1) (.lit (.bl true)) (.ife (.cmp .gt (.bi .len (.cons (.var 1) .nil)) (.lit (.int 0))) (.call 891 [0] (.cons (.var 1) .nil) .nil) (.lit (.str "-"))) [1]) .nil)))
  .skip)
def b_15 : St := (.seq (.ret (.and_ (.isty (.var 0) .int) (.not_ (.isty (.var 0) .bool))))
  .skip)
def b_16 : St := (.seq (.ret (.and_ (.call 15 [0] (.cons (.var 0) .nil) .nil) (.chain .le .le (.var 1) (.var 0) (.var 2))))
  .skip)
def b_17 : St := (.seq (.ret (.call 16 [0, 1, 2] (.cons (.var 0) (.cons (.lit (.int 0)) (.cons (.lit (.int 65535)) .nil))) .nil))
  .skip)
def b_129 : St := (.seq (.ret (.and_ (.isty (.var 0) .str) (.cmp .in_ (.var 0) (.var 1))))
  .skip)
def b_40 : St := (.seq (.ifs (.isty (.var 0) .list) (.seq (.ret (.lc (.itv (.var 0)) (.nm 1) (.lit (.bl true)) (.call 40 [0] (.cons (.var 1) .nil) .nil) [1]))
  .skip) .skip)
  (.seq (.ifs (.isty (.var 0) .tuple) (.seq (.ret (.bi .tuple (.cons (.lc (.itv (.var 0)) (.nm 1) (.lit (.bl true)) (.call 40 [0] (.cons (.var 1) .nil) .nil) [1]) .nil)))
  .skip) .skip)
  (.seq (.ret (.var 0))
  .skip)))
def b_893 : St := (.seq (.ifs (.or_ (.not_ (.chain .le .le (.lit (.int 1)) (.bi .len (.cons (.var 0) .nil)) (.var 1))) (.not_ (.bi .all (.cons (.lc (.itv (.var 0)) (.nm 2) (.lit (.bl true)) (.cmp .in_ (.var 2) (.glob 2)) [2]) .nil)))) (.seq (.ret (.lit (.bl false)))
  .skip) .skip)
  (.seq (.ret (.or_ (.cmp .eq (.var 0) (.lit (.str "0"))) (.cmp .ne (.idx (.var 0) (.lit (.int 0))) (.lit (.str "0")))))
  .skip))
def b_894 : St := (.seq (.ifs (.cmp .eq (.var 1) (.lit (.str "m"))) (.seq (.ret (.call 129 [0, 1] (.cons (.var 2) (.cons (.kget 7 (.var 0)) .nil)) .nil))
  .skip) .skip)
  (.seq (.ret (.ife (.cmp .eq (.var 1) (.lit (.str "v"))) (.call 16 [0, 1, 2] (.cons (.var 2) (.cons (.lit (.int 0)) (.cons (.lit (.int 5)) .nil))) .nil) (.call 17 [0] (.cons (.var 2) .nil) .nil)))
  .skip))
def b_895 : St := (.seq (.ifs (.or_ (.kin 6 true (.idx (.var 0) (.lit (.int 0)))) (.cmp .ne (.bi .len (.cons (.var 0) .nil)) (.bin .add (.bi .len (.cons (.kget 6 (.idx (.var 0) (.lit (.int 0)))) .nil)) (.lit (.int 1))))) (.seq (.ret (.lit (.bl false)))
  .skip) .skip)
  (.seq (.ret (.bi .all (.cons (.lc (.izip (.kget 6 (.idx (.var 0) (.lit (.int 0)))) (.slc (.var 0) (.lit (.int 1)) .absent)) (.tp 2 (.cons (.nm 1) (.cons (.nm 2) .nil))) (.lit (.bl true)) (.call 894 [0, 1, 2] (.cons (.idx (.var 0) (.lit (.int 0))) (.cons (.var 1) (.cons (.var 2) .nil))) .nil) [1, 2]) .nil)))
  .skip))
def b_896 : St := (.seq (.ifs (.or_ (.not_ (.isty (.var 0) .tuple)) (.or_ (.cmp .eq (.bi .len (.cons (.var 0) .nil)) (.lit (.int 0))) (.or_ (.not_ (.isty (.idx (.var 0) (.lit (.int 0))) .str)) (.cmp .gt (.var 1) (.lit (.int 4)))))) (.seq (.ret (.lit (.int 100)))
  .skip) .skip)
  (.seq (.ifs (.cmp .eq (.idx (.var 0) (.lit (.int 0))) (.lit (.str "if"))) (.seq (.ifs (.or_ (.cmp .ne (.bi .len (.cons (.var 0) .nil)) (.lit (.int 4))) (.not_ (.call 16 [0, 1, 2] (.cons (.idx (.var 0) (.lit (.int 1))) (.cons (.lit (.int 0)) (.cons (.lit (.int 5)) .nil))) .nil))) (.seq (.ret (.lit (.int 100)))
  .skip) .skip)
  (.seq (.ret (.bin .add (.bin .add (.lit (.int 1)) (.call 897 [0, 1] (.cons (.idx (.var 0) (.lit (.int 2))) (.cons (.bin .add (.var 1) (.lit (.int 1))) .nil)) .nil)) (.call 897 [0, 1] (.cons (.idx (.var 0) (.lit (.int 3))) (.cons (.bin .add (.var 1) (.lit (.int 1))) .nil)) .nil)))
  .skip)) .skip)
  (.seq (.ifs (.cmp .eq (.idx (.var 0) (.lit (.int 0))) (.lit (.str "again"))) (.seq (.ifs (.or_ (.cmp .ne (.bi .len (.cons (.var 0) .nil)) (.lit (.int 3))) (.not_ (.call 16 [0, 1, 2] (.cons (.idx (.var 0) (.lit (.int 1))) (.cons (.lit (.int 0)) (.cons (.lit (.int 8)) .nil))) .nil))) (.seq (.ret (.lit (.int 100)))
  .skip) .skip)
  (.seq (.ret (.bin .add (.lit (.int 1)) (.call 897 [0, 1] (.cons (.idx (.var 0) (.lit (.int 2))) (.cons (.bin .add (.var 1) (.lit (.int 1))) .nil)) .nil)))
  .skip)) .skip)
  (.seq (.ret (.ife (.call 895 [0] (.cons (.var 0) .nil) .nil) (.lit (.int 1)) (.lit (.int 100))))
  .skip))))
def b_897 : St := (.seq (.ifs (.or_ (.not_ (.isty (.var 0) .tuple)) (.cmp .gt (.bi .len (.cons (.var 0) .nil)) (.lit (.int 24)))) (.seq (.ret (.lit (.int 100)))
  .skip) .skip)
  (.seq (.ret (.bi .sum (.cons (.lc (.itv (.var 0)) (.nm 2) (.lit (.bl true)) (.call 896 [0, 1] (.cons (.var 2) (.cons (.var 1) .nil)) .nil) [2]) .nil)))
  .skip))
def b_898 : St := (.seq (.ret (.cmp .le (.call 897 [0, 1] (.cons (.var 0) (.cons (.lit (.int 1)) .nil)) .nil) (.lit (.int 24))))
  .skip)
def b_899 : St := (.seq (.ret (.and_ (.isty (.var 0) .tuple) (.and_ (.chain .le .le (.lit (.int 1)) (.bi .len (.cons (.var 0) .nil)) (.lit (.int 4))) (.bi .all (.cons (.lc (.itv (.var 0)) (.nm 1) (.lit (.bl true)) (.call 898 [0] (.cons (.var 1) .nil) .nil) [1]) .nil)))))
  .skip)
def b_900 : St := (.seq (.ret (.ife (.cmp .lt (.fld (.var 0) "at" ["Reader"]) (.bi .len (.cons (.fld (.var 0) "words" ["Reader"]) .nil))) (.idx (.fld (.var 0) "words" ["Reader"]) (.fld (.var 0) "at" ["Reader"])) (.lit (.str ""))))
  .skip)
def b_901 : St := (.seq (.asg (.nm 1) (.call 900 [0] (.cons (.var 0) .nil) .nil))
  (.seq (.augf (.var 0) "at" ["Reader"] .add (.lit (.int 1)))
  (.seq (.ret (.var 1))
  .skip)))
def b_902 : St := (.seq (.ifs (.cmp .ne (.call 901 [0] (.cons (.var 0) .nil) .nil) (.var 1)) (.seq .bad
  .skip) .skip)
  .skip)
def b_903 : St := (.seq (.asg (.nm 2) (.call 901 [0] (.cons (.var 0) .nil) .nil))
  (.seq (.ifs (.not_ (.call 893 [0, 1] (.cons (.var 2) (.cons (.var 1) .nil)) .nil)) (.seq .bad
  .skip) .skip)
  (.seq (.ret (.bi .int (.cons (.var 2) .nil)))
  .skip)))
def b_904 : St := (.seq (.ret (.bi .tuple (.cons (.lc (.itv (.mt .split (.var 0) (.cons (.lit (.str " || ")) .nil))) (.nm 1) (.lit (.bl true)) (.call 905 [0, 1] (.cons (.var 0) (.cons (.var 1) .nil)) .nil) [1]) .nil)))
  .skip)
def b_905 : St := (.seq (.ret (.ife (.cmp .eq (.var 1) (.lit (.str "-"))) (.tup .nil) (.call 906 [0, 1] (.cons (.mk "Reader" 929 (.cons (.var 0) (.cons (.mt .split (.var 1) (.cons (.lit (.str " ")) .nil)) .nil))) (.cons (.lit (.int 0)) .nil)) .nil)))
  .skip)
def b_906 : St := (.seq (.asg (.nm 2) (.lst (.cons (.call 907 [0, 1] (.cons (.var 0) (.cons (.var 1) .nil)) .nil) .nil)))
  (.seq (.whl (.cmp .eq (.call 900 [0] (.cons (.var 0) .nil) .nil) (.lit (.str ";"))) (.seq (.drop (.call 902 [0, 1] (.cons (.var 0) (.cons (.lit (.str ";")) .nil)) .nil))
  (.seq (.drop (.app (.var 2) (.call 907 [0, 1] (.cons (.var 0) (.cons (.var 1) .nil)) .nil)))
  .skip)))
  (.seq (.ret (.bi .tuple (.cons (.var 2) .nil)))
  .skip)))
def b_907 : St := (.seq (.asg (.nm 2) (.call 901 [0] (.cons (.var 0) .nil) .nil))
  (.seq (.ifs (.cmp .eq (.var 2) (.lit (.str "if"))) (.seq (.ret (.tup (.cons (.var 2) (.cons (.call 903 [0, 1] (.cons (.var 0) (.cons (.lit (.int 31)) .nil)) .nil) (.cons (.call 908 [0, 1] (.cons (.var 0) (.cons (.bin .add (.var 1) (.lit (.int 1))) .nil)) .nil) (.cons (.call 908 [0, 1] (.cons (.var 0) (.cons (.bin .add (.var 1) (.lit (.int 1))) .nil)) .nil) .nil))))))
  .skip) .skip)
  (.seq (.ifs (.cmp .eq (.var 2) (.lit (.str "again"))) (.seq (.ret (.tup (.cons (.var 2) (.cons (.call 903 [0, 1] (.cons (.var 0) (.cons (.lit (.int 31)) .nil)) .nil) (.cons (.call 908 [0, 1] (.cons (.var 0) (.cons (.bin .add (.var 1) (.lit (.int 1))) .nil)) .nil) .nil)))))
  .skip) .skip)
  (.seq (.ifs (.kin 6 true (.var 2)) (.seq .bad
  .skip) .skip)
  (.seq (.asg (.nm 3) (.lc (.itv (.kget 6 (.var 2))) (.nm 4) (.lit (.bl true)) (.ife (.cmp .eq (.var 4) (.lit (.str "m"))) (.call 901 [0] (.cons (.var 0) .nil) .nil) (.call 903 [0, 1] (.cons (.var 0) (.cons (.lit (.int 31)) .nil)) .nil)) [4]))
  (.seq (.ret (.bin .add (.tup (.cons (.var 2) .nil)) (.bi .tuple (.cons (.var 3) .nil))))
  .skip))))))
def b_908 : St := (.seq (.drop (.call 902 [0, 1] (.cons (.var 0) (.cons (.lit (.str "{")) .nil)) .nil))
  (.seq (.ifs (.cmp .gt (.var 1) (.lit (.int 4))) (.seq .bad
  .skip) .skip)
  (.seq (.asg (.nm 2) (.ife (.cmp .eq (.call 900 [0] (.cons (.var 0) .nil) .nil) (.lit (.str "}"))) (.tup .nil) (.call 906 [0, 1] (.cons (.var 0) (.cons (.var 1) .nil)) .nil)))
  (.seq (.drop (.call 902 [0, 1] (.cons (.var 0) (.cons (.lit (.str "}")) .nil)) .nil))
  (.seq (.ret (.var 2))
  .skip)))))
def b_909 : St := (.seq (.ifs (.not_ (.isty (.var 0) .str)) (.seq .bad
  .skip) .skip)
  .skip)
def b_910 : St := (.seq (.ifs (.cmp .ne (.var 1) (.var 0)) (.seq .bad
  .skip) .skip)
  .skip)
def b_911 : St := (.seq (.drop (.call 909 [0] (.cons (.var 0) .nil) .nil))
  (.seq (.asg (.nm 1) (.call 904 [0] (.cons (.var 0) .nil) .nil))
  (.seq (.ifs (.not_ (.call 899 [0] (.cons (.var 1) .nil) .nil)) (.seq .bad
  .skip) .skip)
  (.seq (.drop (.call 910 [0, 1] (.cons (.var 0) (.cons (.call 892 [0] (.cons (.var 1) .nil) .nil) .nil)) .nil))
  (.seq (.ret (.var 1))
  .skip)))))
def b_912 : St := (.seq (.asg (.tp 2 (.cons (.nm 2) (.cons (.nm 3) .nil))) (.tup (.cons (.bin .add (.bin .mul (.lit (.int 29)) (.var 1)) (.lit (.int 11))) (.cons (.bin .add (.bin .mul (.lit (.int 7)) (.var 1)) (.lit (.int 3))) .nil))))
  (.seq (.ifs (.cmp .lt (.var 1) (.bi .len (.cons (.var 0) .nil))) (.seq (.asg (.nm 2) (.bi .int (.cons (.idx (.var 0) (.var 1)) .nil)))
  .skip) .skip)
  (.seq (.for_ (.ienum (.var 0)) (.tp 2 (.cons (.nm 4) (.cons (.nm 5) .nil))) (.seq (.asg (.nm 3) (.bin .mod (.bi .int (.cons (.bin .add (.bin .mul (.var 3) (.lit (.int 69621))) (.bin .mul (.bin .add (.var 4) (.lit (.int 2))) (.bin .mod (.bi .int (.cons (.var 5) .nil)) (.bin .add (.bin .pow (.lit (.int 10)) (.lit (.int 24))) (.lit (.int 7)))))) .nil)) (.bin .add (.bin .pow (.lit (.int 10)) (.lit (.int 30))) (.lit (.int 57)))))
  .skip))
  (.seq (.ret (.lst (.cons (.bi .max (.cons (.lit (.int 0)) (.cons (.bin .sub (.var 2) (.bin .pow (.lit (.int 10)) (.lit (.int 18)))) .nil))) (.cons (.bin .mod (.bi .int (.cons (.bin .add (.bin .mul (.bi .abs (.cons (.var 2) .nil)) (.lit (.int 40503))) (.var 3)) .nil)) (.bin .add (.bin .pow (.lit (.int 10)) (.lit (.int 29))) (.lit (.int 319)))) (.cons (.lit (.int 0)) .nil)))))
  .skip))))
def b_913 : St := (.seq (.ifs (.cmp .gt (.idx (.var 0) (.lit (.int 0))) (.lit (.int 0))) (.seq (.asg (.nm 2) (.bin .mod (.bi .int (.cons (.idx (.var 0) (.lit (.int 0))) .nil)) (.var 1)))
  (.seq (.seti (.bin .fdiv (.idx (.var 0) (.lit (.int 0))) (.var 1)) (.var 0) (.lit (.int 0)))
  (.seq (.ret (.var 2))
  .skip))) .skip)
  (.seq (.seti (.bin .add (.idx (.var 0) (.lit (.int 2))) (.lit (.int 1))) (.var 0) (.lit (.int 2)))
  (.seq (.asg (.nm 3) (.bin .mod (.bi .int (.cons (.bin .add (.bin .pow (.bin .add (.idx (.var 0) (.lit (.int 1))) (.bin .mul (.lit (.int 104729)) (.idx (.var 0) (.lit (.int 2))))) (.lit (.int 3))) (.bin .mul (.lit (.int 611953)) (.idx (.var 0) (.lit (.int 2))))) .nil)) (.bin .add (.bin .pow (.lit (.int 10)) (.lit (.int 31))) (.lit (.int 33)))))
  (.seq (.ret (.bin .mod (.bin .fdiv (.bin .mod (.bi .int (.cons (.bin .mul (.var 3) (.bin .add (.var 3) (.lit (.int 5381)))) .nil)) (.bin .add (.bin .pow (.lit (.int 10)) (.lit (.int 30))) (.lit (.int 57)))) (.lit (.int 9973))) (.var 1)))
  .skip))))
def b_914 : St := (.seq (.ret (.idx (.var 1) (.call 913 [0, 1] (.cons (.var 0) (.cons (.bi .len (.cons (.var 1) .nil)) .nil)) .nil)))
  .skip)
def b_915 : St := (.seq (.ret (.call 914 [0, 1] (.cons (.var 0) (.cons (.lst (.cons (.call 913 [0, 1] (.cons (.var 0) (.cons (.lit (.int 4)) .nil)) .nil) (.cons (.call 913 [0, 1] (.cons (.var 0) (.cons (.lit (.int 12)) .nil)) .nil) (.cons (.bin .sub (.lit (.int 65535)) (.call 913 [0, 1] (.cons (.var 0) (.cons (.lit (.int 3)) .nil)) .nil)) (.cons (.call 913 [0, 1] (.cons (.var 0) (.cons (.lit (.int 65536)) .nil)) .nil) .nil))))) .nil)) .nil))
  .skip)
def b_916 : St := (.seq (.asg (.nm 1) (.lst (.cons (.lit (.str "set")) (.cons (.lit (.str "add")) (.cons (.lit (.str "sub")) (.cons (.lit (.str "and")) (.cons (.lit (.str "xor")) (.cons (.lit (.str "below")) (.cons (.lit (.str "get")) (.cons (.lit (.str "put")) (.cons (.lit (.str "swap")) (.cons (.lit (.str "addto")) (.cons (.lit (.str "await")) (.cons (.lit (.str "whole")) (.cons (.lit (.str "get")) (.cons (.lit (.str "put")) .nil))))))))))))))))
  (.seq (.asg (.tp 4 (.cons (.nm 2) (.cons (.nm 3) (.cons (.nm 4) (.cons (.nm 5) .nil))))) (.tup (.cons (.call 914 [0, 1] (.cons (.var 0) (.cons (.var 1) .nil)) .nil) (.cons (.call 913 [0, 1] (.cons (.var 0) (.cons (.lit (.int 6)) .nil)) .nil) (.cons (.call 913 [0, 1] (.cons (.var 0) (.cons (.lit (.int 6)) .nil)) .nil) (.cons (.call 913 [0, 1] (.cons (.var 0) (.cons (.lit (.int 6)) .nil)) .nil) .nil))))))
  (.seq (.asg (.tp 2 (.cons (.nm 6) (.cons (.nm 7) .nil))) (.tup (.cons (.call 915 [0] (.cons (.var 0) .nil) .nil) (.cons (.call 913 [0, 1] (.cons (.var 0) (.cons (.lit (.int 4)) .nil)) .nil) .nil))))
  (.seq (.ifs (.cmp .eq (.var 2) (.lit (.str "set"))) (.seq (.ret (.tup (.cons (.var 2) (.cons (.var 3) (.cons (.var 6) .nil)))))
  .skip) .skip)
  (.seq (.ifs (.cmp .in_ (.var 2) (.lst (.cons (.lit (.str "get")) (.cons (.lit (.str "await")) .nil)))) (.seq (.ret (.tup (.cons (.var 2) (.cons (.var 3) (.cons (.var 4) (.cons (.var 6) (.cons (.idx (.lst (.cons (.lit (.str "loose")) (.cons (.lit (.str "take")) .nil))) (.bin .mod (.bi .int (.cons (.var 7) .nil)) (.lit (.int 2)))) .nil)))))))
  .skip) .skip)
  (.seq (.ifs (.cmp .eq (.var 2) (.lit (.str "put"))) (.seq (.ret (.tup (.cons (.var 2) (.cons (.var 3) (.cons (.var 4) (.cons (.var 6) (.cons (.idx (.lst (.cons (.lit (.str "loose")) (.cons (.lit (.str "give")) .nil))) (.bin .mod (.bi .int (.cons (.var 7) .nil)) (.lit (.int 2)))) .nil)))))))
  .skip) .skip)
  (.seq (.ifs (.cmp .in_ (.var 2) (.lst (.cons (.lit (.str "swap")) (.cons (.lit (.str "addto")) .nil)))) (.seq (.ret (.tup (.cons (.var 2) (.cons (.var 3) (.cons (.var 5) (.cons (.var 4) (.cons (.var 6) (.cons (.idx (.lst (.cons (.lit (.str "loose")) (.cons (.lit (.str "take")) (.cons (.lit (.str "give")) (.cons (.lit (.str "both")) .nil))))) (.var 7)) .nil))))))))
  .skip) .skip)
  (.seq (.ret (.ife (.cmp .eq (.var 2) (.lit (.str "whole"))) (.tup (.cons (.var 2) .nil)) (.tup (.cons (.var 2) (.cons (.var 3) (.cons (.var 4) (.cons (.var 5) .nil)))))))
  .skip))))))))
def b_917 : St := (.seq (.asg (.tp 3 (.cons (.nm 3) (.cons (.nm 4) (.cons (.nm 5) .nil)))) (.tup (.cons (.call 913 [0, 1] (.cons (.var 0) (.cons (.lit (.int 6)) .nil)) .nil) (.cons (.tup (.cons (.tup .nil) (.cons (.lit (.int 0)) .nil))) (.cons (.tup (.cons (.tup .nil) (.cons (.lit (.int 0)) .nil))) .nil)))))
  (.seq (.ifs (.cmp .eq (.var 3) (.lit (.int 0))) (.seq (.ifs (.cmp .lt (.var 1) (.lit (.int 4))) (.seq (.asg (.nm 4) (.call 918 [0, 1, 2] (.cons (.var 0) (.cons (.bin .add (.var 1) (.lit (.int 1))) (.cons (.bin .sub (.var 2) (.lit (.int 1))) .nil))) .nil))
  (.seq (.asg (.nm 5) (.call 918 [0, 1, 2] (.cons (.var 0) (.cons (.bin .add (.var 1) (.lit (.int 1))) (.cons (.bin .sub (.bin .sub (.var 2) (.lit (.int 1))) (.idx (.var 4) (.lit (.int 1)))) .nil))) .nil))
  .skip)) .skip)
  (.seq (.ret (.tup (.cons (.tup (.cons (.lit (.str "if")) (.cons (.call 913 [0, 1] (.cons (.var 0) (.cons (.lit (.int 6)) .nil)) .nil) (.cons (.idx (.var 4) (.lit (.int 0))) (.cons (.idx (.var 5) (.lit (.int 0))) .nil))))) (.cons (.bin .add (.bin .add (.lit (.int 1)) (.idx (.var 4) (.lit (.int 1)))) (.idx (.var 5) (.lit (.int 1)))) .nil))))
  .skip)) .skip)
  (.seq (.ifs (.cmp .eq (.var 3) (.lit (.int 1))) (.seq (.ifs (.cmp .lt (.var 1) (.lit (.int 4))) (.seq (.asg (.nm 4) (.call 918 [0, 1, 2] (.cons (.var 0) (.cons (.bin .add (.var 1) (.lit (.int 1))) (.cons (.bin .sub (.var 2) (.lit (.int 1))) .nil))) .nil))
  .skip) .skip)
  (.seq (.ret (.tup (.cons (.tup (.cons (.lit (.str "again")) (.cons (.call 914 [0, 1] (.cons (.var 0) (.cons (.lst (.cons (.lit (.int 0)) (.cons (.lit (.int 1)) (.cons (.lit (.int 2)) (.cons (.lit (.int 3)) (.cons (.call 913 [0, 1] (.cons (.var 0) (.cons (.lit (.int 9)) .nil)) .nil) .nil)))))) .nil)) .nil) (.cons (.idx (.var 4) (.lit (.int 0))) .nil)))) (.cons (.bin .add (.lit (.int 1)) (.idx (.var 4) (.lit (.int 1)))) .nil))))
  .skip)) .skip)
  (.seq (.ret (.tup (.cons (.call 916 [0] (.cons (.var 0) .nil) .nil) (.cons (.lit (.int 1)) .nil))))
  .skip))))
def b_918 : St := (.seq (.asg (.tp 2 (.cons (.nm 3) (.cons (.nm 4) .nil))) (.tup (.cons (.lst .nil) (.cons (.lit (.int 0)) .nil))))
  (.seq (.for_ (.irng (.cons (.call 913 [0, 1] (.cons (.var 0) (.cons (.call 914 [0, 1] (.cons (.var 0) (.cons (.lst (.cons (.lit (.int 2)) (.cons (.lit (.int 4)) (.cons (.lit (.int 7)) (.cons (.lit (.int 25)) .nil))))) .nil)) .nil) .nil)) .nil) .nil)) (.nm 5) (.seq (.ifs (.cmp .lt (.var 4) (.var 2)) (.seq (.asg (.tp 2 (.cons (.nm 6) (.cons (.nm 7) .nil))) (.call 917 [0, 1, 2] (.cons (.var 0) (.cons (.var 1) (.cons (.bin .sub (.var 2) (.var 4)) .nil))) .nil))
  (.seq (.drop (.app (.var 3) (.var 6)))
  (.seq (.asg (.nm 4) (.bin .add (.var 4) (.var 7)))
  .skip))) .skip)
  .skip))
  (.seq (.ret (.tup (.cons (.bi .tuple (.cons (.var 3) .nil)) (.cons (.var 4) .nil))))
  .skip)))
def b_919 : St := (.seq (.asg (.nm 1) (.tup (.cons (.call 916 [0] (.cons (.var 0) .nil) .nil) .nil)))
  (.seq (.for_ (.irng (.cons (.lit (.int 3)) .nil)) (.nm 2) (.seq (.ifs (.cmp .eq (.call 913 [0, 1] (.cons (.var 0) (.cons (.lit (.int 2)) .nil)) .nil) (.lit (.int 0))) (.seq (.asg (.nm 1) (.tup (.cons (.tup (.cons (.lit (.str "again")) (.cons (.call 914 [0, 1] (.cons (.var 0) (.cons (.lst (.cons (.lit (.int 1)) (.cons (.lit (.int 2)) (.cons (.call 913 [0, 1] (.cons (.var 0) (.cons (.lit (.int 9)) .nil)) .nil) .nil)))) .nil)) .nil) (.cons (.var 1) .nil)))) .nil)))
  .skip) (.seq (.asg (.nm 1) (.ife (.cmp .eq (.call 913 [0, 1] (.cons (.var 0) (.cons (.lit (.int 2)) .nil)) .nil) (.lit (.int 0))) (.tup (.cons (.tup (.cons (.lit (.str "if")) (.cons (.call 913 [0, 1] (.cons (.var 0) (.cons (.lit (.int 6)) .nil)) .nil) (.cons (.var 1) (.cons (.tup .nil) .nil))))) .nil)) (.tup (.cons (.tup (.cons (.lit (.str "if")) (.cons (.lit (.int 0)) (.cons (.tup .nil) (.cons (.var 1) .nil))))) .nil))))
  .skip))
  .skip))
  (.seq (.ret (.var 1))
  .skip)))
def b_920 : St := (.seq (.asg (.nm 1) (.call 913 [0, 1] (.cons (.var 0) (.cons (.lit (.int 8)) .nil)) .nil))
  (.seq (.ifs (.cmp .eq (.var 1) (.lit (.int 0))) (.seq (.ret (.tup .nil))
  .skip) .skip)
  (.seq (.ifs (.cmp .eq (.var 1) (.lit (.int 1))) (.seq (.ret (.bi .tuple (.cons (.lc (.irng (.cons (.lit (.int 24)) .nil)) (.nm 2) (.lit (.bl true)) (.call 916 [0] (.cons (.var 0) .nil) .nil) [2]) .nil)))
  .skip) .skip)
  (.seq (.ret (.ife (.cmp .eq (.var 1) (.lit (.int 2))) (.call 919 [0] (.cons (.var 0) .nil) .nil) (.idx (.call 918 [0, 1, 2] (.cons (.var 0) (.cons (.lit (.int 1)) (.cons (.lit (.int 24)) .nil))) .nil) (.lit (.int 0)))))
  .skip))))
def b_921 : St := (.seq (.ret (.bi .tuple (.cons (.lc (.irng (.cons (.bin .add (.lit (.int 1)) (.call 913 [0, 1] (.cons (.var 0) (.cons (.lit (.int 4)) .nil)) .nil)) .nil)) (.nm 1) (.lit (.bl true)) (.call 920 [0] (.cons (.var 0) .nil) .nil) [1]) .nil)))
  .skip)
def b_922 : St := (.seq (.ifs (.cmp .eq (.var 0) (.tup .nil)) (.seq (.ret (.lit (.str "{ }")))
  .skip) .skip)
  (.seq (.ret (.bin .add (.bin .add (.lit (.str "{ ")) (.mt .join (.lit (.str " ; ")) (.cons (.lc (.itv (.var 0)) (.nm 1) (.lit (.bl true)) (.call 923 [0] (.cons (.var 1) .nil) .nil) [1]) .nil))) (.lit (.str " }"))))
  .skip))
def b_923 : St := (.seq (.ifs (.cmp .eq (.idx (.var 0) (.lit (.int 0))) (.lit (.str "if"))) (.seq (.ret (.bin .add (.bin .add (.bin .add (.bin .add (.bin .add (.lit (.str "if ")) (.bi .str (.cons (.idx (.var 0) (.lit (.int 1))) .nil))) (.lit (.str " "))) (.call 922 [0] (.cons (.idx (.var 0) (.lit (.int 2))) .nil) .nil)) (.lit (.str " "))) (.call 922 [0] (.cons (.idx (.var 0) (.lit (.int 3))) .nil) .nil)))
  .skip) .skip)
  (.seq (.ifs (.cmp .eq (.idx (.var 0) (.lit (.int 0))) (.lit (.str "again"))) (.seq (.ret (.bin .add (.bin .add (.bin .add (.lit (.str "again ")) (.bi .str (.cons (.idx (.var 0) (.lit (.int 1))) .nil))) (.lit (.str " "))) (.call 922 [0] (.cons (.idx (.var 0) (.lit (.int 2))) .nil) .nil)))
  .skip) .skip)
  (.seq (.ret (.mt .join (.lit (.str " ")) (.cons (.lc (.itv (.var 0)) (.nm 1) (.lit (.bl true)) (.bi .str (.cons (.var 1) .nil)) [1]) .nil)))
  .skip)))
def b_924 : St := (.seq (.ret (.mt .join (.lit (.str " || ")) (.cons (.lc (.itv (.var 0)) (.nm 1) (.lit (.bl true)) (.ife (.cmp .ne (.var 1) (.tup .nil)) (.mt .join (.lit (.str " ; ")) (.cons (.lc (.itv (.var 1)) (.nm 2) (.lit (.bl true)) (.call 923 [0] (.cons (.var 2) .nil) .nil) [2]) .nil)) (.lit (.str "-"))) [1]) .nil)))
  .skip)
def b_925 : St := (.seq (.asg (.tp 2 (.cons (.nm 1) (.cons (.nm 2) .nil))) (.tup (.cons (.lit (.int 0)) (.cons (.lit (.int 1)) .nil))))
  (.seq (.for_ (.itv (.var 0)) (.nm 3) (.seq (.asg (.tp 2 (.cons (.nm 4) (.cons (.nm 5) .nil))) (.tup (.cons (.lit (.int 1)) (.cons (.lit (.int 1)) .nil))))
  (.seq (.ifs (.cmp .eq (.idx (.var 3) (.lit (.int 0))) (.lit (.str "if"))) (.seq (.asg (.tp 2 (.cons (.nm 6) (.cons (.nm 7) .nil))) (.tup (.cons (.call 925 [0] (.cons (.idx (.var 3) (.lit (.int 2))) .nil) .nil) (.cons (.call 925 [0] (.cons (.idx (.var 3) (.lit (.int 3))) .nil) .nil) .nil))))
  (.seq (.asg (.tp 2 (.cons (.nm 4) (.cons (.nm 5) .nil))) (.tup (.cons (.bin .add (.lit (.int 1)) (.bi .max (.cons (.idx (.var 6) (.lit (.int 0))) (.cons (.idx (.var 7) (.lit (.int 0))) .nil)))) (.cons (.bin .add (.idx (.var 6) (.lit (.int 1))) (.idx (.var 7) (.lit (.int 1)))) .nil))))
  .skip)) .skip)
  (.seq (.ifs (.cmp .eq (.idx (.var 3) (.lit (.int 0))) (.lit (.str "again"))) (.seq (.asg (.nm 8) (.call 925 [0] (.cons (.idx (.var 3) (.lit (.int 2))) .nil) .nil))
  (.seq (.asg (.tp 2 (.cons (.nm 4) (.cons (.nm 5) .nil))) (.tup (.cons (.bin .mul (.idx (.var 3) (.lit (.int 1))) (.idx (.var 8) (.lit (.int 0)))) (.cons (.lit (.int 1)) .nil))))
  (.seq (.for_ (.irng (.cons (.idx (.var 3) (.lit (.int 1))) .nil)) (.nm 9) (.seq (.asg (.nm 5) (.bi .min (.cons (.lit (.int 100000)) (.cons (.bin .mul (.var 5) (.idx (.var 8) (.lit (.int 1)))) .nil))))
  .skip))
  .skip))) .skip)
  (.seq (.asg (.tp 2 (.cons (.nm 1) (.cons (.nm 2) .nil))) (.tup (.cons (.bi .min (.cons (.lit (.int 100000)) (.cons (.bin .add (.var 1) (.var 4)) .nil))) (.cons (.bi .min (.cons (.lit (.int 100000)) (.cons (.bin .mul (.var 2) (.var 5)) .nil))) .nil))))
  .skip)))))
  (.seq (.ret (.tup (.cons (.var 1) (.cons (.var 2) .nil))))
  .skip)))
def b_926 : St := (.seq (.asg (.nm 1) (.lit (.int 1)))
  (.seq (.for_ (.itv (.var 0)) (.nm 2) (.seq (.asg (.tp 2 (.cons (.nm 3) (.cons (.nm 4) .nil))) (.call 925 [0] (.cons (.var 2) .nil) .nil))
  (.seq (.asg (.nm 1) (.bi .min (.cons (.lit (.int 100000)) (.cons (.bin .mul (.var 1) (.var 4)) .nil))))
  (.seq (.ifs (.cmp .gt (.var 3) (.lit (.int 40))) (.seq (.ret (.lit (.bl false)))
  .skip) .skip)
  .skip))))
  (.seq (.ret (.cmp .le (.var 1) (.lit (.int 64))))
  .skip)))
def b_927 : St := (.seq (.asg (.nm 3) (.bi .repr (.cons (.var 0) .nil)))
  (.seq (.asg (.nm 4) (.ife (.var 2) (.call 911 [0] .nil (.cons (.var 1) .nil)) (.call 911 [0] (.cons (.var 1) .nil) .nil)))
  (.seq (.ifs (.cmp .ne (.bi .repr (.cons (.var 4) .nil)) (.var 3)) (.seq (.ret (.lit (.bl false)))
  .skip) .skip)
  (.seq (.ifs (.not_ (.call 926 [0] (.cons (.var 0) .nil) .nil)) (.seq (.ret (.lit (.bl true)))
  .skip) .skip)
  (.seq (.asg (.nm 5) (.ife (.var 2) (.call 892 [0] .nil (.cons (.var 0) .nil)) (.call 892 [0] (.cons (.var 0) .nil) .nil)))
  (.seq (.ifs (.or_ (.not_ (.isty (.var 5) .str)) (.or_ (.cmp .ne (.var 5) (.var 1)) (.cmp .ne (.bi .repr (.cons (.var 0) .nil)) (.var 3)))) (.seq (.ret (.lit (.bl false)))
  .skip) .skip)
  (.seq (.ret (.and_ (.cmp .eq (.bi .repr (.cons (.call 911 [0] (.cons (.var 5) .nil) .nil) .nil)) (.var 3)) (.cmp .eq (.call 892 [0] (.cons (.var 4) .nil) .nil) (.var 1))))
  .skip)))))))
def b_928 : St := (.seq (.asg (.nm 1) (.lst (.cons (.tup (.cons (.tup (.cons (.tup .nil) .nil)) (.cons (.lit (.str "-")) (.cons (.lit (.bl false)) .nil)))) (.cons (.tup (.cons (.tup (.cons (.tup .nil) (.cons (.tup .nil) (.cons (.tup (.cons (.tup (.cons (.lit (.str "whole")) .nil)) .nil)) (.cons (.tup .nil) .nil))))) (.cons (.lit (.str "- || - || whole || -")) (.cons (.lit (.bl true)) .nil)))) .nil))))
  (.seq (.for_ (.irng (.cons (.bi .max (.cons (.lit (.int 1)) (.cons (.bi .min (.cons (.lit (.int 4)) (.cons (.bi .len (.cons (.var 0) .nil)) .nil))) .nil))) .nil)) (.nm 2) (.seq (.asg (.nm 3) (.call 912 [0, 1] (.cons (.var 0) (.cons (.var 2) .nil)) .nil))
  (.seq (.asg (.nm 4) (.call 921 [0] (.cons (.var 3) .nil) .nil))
  (.seq (.drop (.app (.var 1) (.tup (.cons (.var 4) (.cons (.call 924 [0] (.cons (.var 4) .nil) .nil) (.cons (.cmp .eq (.call 913 [0, 1] (.cons (.var 3) (.cons (.lit (.int 2)) .nil)) .nil) (.lit (.int 0))) .nil))))))
  .skip))))
  (.seq (.for_ (.itv (.bin .add (.var 1) (.revl (.var 1)))) (.tp 3 (.cons (.nm 4) (.cons (.nm 5) (.cons (.nm 6) .nil)))) (.seq (.ifs (.not_ (.call 927 [0, 1, 2] (.cons (.var 4) (.cons (.var 5) (.cons (.var 6) .nil))) .nil)) (.seq (.ret (.lit (.bl false)))
  .skip) .skip)
  .skip))
  (.seq (.ret (.lit (.bl true)))
  .skip))))
def b_929 : St := (.seq (.setf (.var 1) (.var 0) "text" ["Reader"])
  (.seq (.setf (.var 2) (.var 0) "words" ["Reader"])
  (.seq (.setf (.lit (.int 0)) (.var 0) "at" ["Reader"])
  .skip)))
def fsK71 : Nat → Option (Nat × Nat × St)
  | 888 => some (1, 2, b_888)
  | 889 => some (1, 1, b_889)
  | 890 => some (1, 1, b_890)
  | 891 => some (1, 2, b_891)
  | 892 => some (1, 2, b_892)
  | 15 => some (1, 1, b_15)
  | 16 => some (3, 3, b_16)
  | 17 => some (1, 1, b_17)
  | 129 => some (2, 2, b_129)
  | 40 => some (1, 2, b_40)
  | 893 => some (2, 3, b_893)
  | 894 => some (3, 3, b_894)
  | 895 => some (1, 3, b_895)
  | 896 => some (2, 2, b_896)
  | 897 => some (2, 3, b_897)
  | 898 => some (1, 1, b_898)
  | 899 => some (1, 2, b_899)
  | 900 => some (1, 1, b_900)
  | 901 => some (1, 2, b_901)
  | 902 => some (2, 2, b_902)
  | 903 => some (2, 3, b_903)
  | 904 => some (1, 2, b_904)
  | 905 => some (2, 2, b_905)
  | 906 => some (2, 3, b_906)
  | 907 => some (2, 5, b_907)
  | 908 => some (2, 3, b_908)
  | 909 => some (1, 1, b_909)
  | 910 => some (2, 2, b_910)
  | 911 => some (1, 2, b_911)
  | 912 => some (2, 6, b_912)
  | 913 => some (2, 4, b_913)
  | 914 => some (2, 2, b_914)
  | 915 => some (1, 1, b_915)
  | 916 => some (1, 8, b_916)
  | 917 => some (3, 6, b_917)
  | 918 => some (3, 8, b_918)
  | 919 => some (1, 3, b_919)
  | 920 => some (1, 3, b_920)
  | 921 => some (1, 2, b_921)
  | 922 => some (1, 2, b_922)
  | 923 => some (1, 2, b_923)
  | 924 => some (1, 3, b_924)
  | 925 => some (1, 10, b_925)
  | 926 => some (1, 5, b_926)
  | 927 => some (3, 6, b_927)
  | 928 => some (1, 7, b_928)
  | 929 => some (3, 3, b_929)
  | _ => none
def glK71 : Nat → D
  | 2 => (.str "0123456789")
  | _ => .non
def kdK71 : Nat → List (Str × D)
  | 6 => [("set", (.str "vw")), ("add", (.str "vvv")), ("sub", (.str "vvv")), ("and", (.str "vvv")), ("xor", (.str "vvv")), ("below", (.str "vvv")), ("get", (.str "vvwm")), ("put", (.str "vvwm")), ("swap", (.str "vvvwm")), ("addto", (.str "vvvwm")), ("await", (.str "vvwm")), ("whole", (.str ""))]
  | 7 => [("get", (.tup [(.str "loose"), (.str "take")])), ("put", (.tup [(.str "loose"), (.str "give")])), ("swap", (.tup [(.str "loose"), (.str "take"), (.str "give"), (.str "both")])), ("addto", (.tup [(.str "loose"), (.str "take"), (.str "give"), (.str "both")])), ("await", (.tup [(.str "loose"), (.str "take")]))]
  | _ => []
def fxK71 : Str → Option Nat := fun x => List.lookup x []
def prK71 : Pr := ⟨fsK71, glK71, kdK71, fxK71⟩
end Tm

set_option Elab.async false
set_option linter.all false
set_option maxRecDepth 100000
set_option maxHeartbeats 8000000
namespace Tm
open PySem L2 TL
/-- the defs of the readers and of their law, as the program has them -/
structure HK (q : Pr) : Prop where
  f888 : q.fs 888 = some (1, 2, b_888)
  f889 : q.fs 889 = some (1, 1, b_889)
  f890 : q.fs 890 = some (1, 1, b_890)
  f891 : q.fs 891 = some (1, 2, b_891)
  f892 : q.fs 892 = some (1, 2, b_892)
  f15 : q.fs 15 = some (1, 1, b_15)
  f16 : q.fs 16 = some (3, 3, b_16)
  f17 : q.fs 17 = some (1, 1, b_17)
  f129 : q.fs 129 = some (2, 2, b_129)
  f40 : q.fs 40 = some (1, 2, b_40)
  f893 : q.fs 893 = some (2, 3, b_893)
  f894 : q.fs 894 = some (3, 3, b_894)
  f895 : q.fs 895 = some (1, 3, b_895)
  f896 : q.fs 896 = some (2, 2, b_896)
  f897 : q.fs 897 = some (2, 3, b_897)
  f898 : q.fs 898 = some (1, 1, b_898)
  f899 : q.fs 899 = some (1, 2, b_899)
  f900 : q.fs 900 = some (1, 1, b_900)
  f901 : q.fs 901 = some (1, 2, b_901)
  f902 : q.fs 902 = some (2, 2, b_902)
  f903 : q.fs 903 = some (2, 3, b_903)
  f904 : q.fs 904 = some (1, 2, b_904)
  f905 : q.fs 905 = some (2, 2, b_905)
  f906 : q.fs 906 = some (2, 3, b_906)
  f907 : q.fs 907 = some (2, 5, b_907)
  f908 : q.fs 908 = some (2, 3, b_908)
  f909 : q.fs 909 = some (1, 1, b_909)
  f910 : q.fs 910 = some (2, 2, b_910)
  f911 : q.fs 911 = some (1, 2, b_911)
  f912 : q.fs 912 = some (2, 6, b_912)
  f913 : q.fs 913 = some (2, 4, b_913)
  f914 : q.fs 914 = some (2, 2, b_914)
  f915 : q.fs 915 = some (1, 1, b_915)
  f916 : q.fs 916 = some (1, 8, b_916)
  f917 : q.fs 917 = some (3, 6, b_917)
  f918 : q.fs 918 = some (3, 8, b_918)
  f919 : q.fs 919 = some (1, 3, b_919)
  f920 : q.fs 920 = some (1, 3, b_920)
  f921 : q.fs 921 = some (1, 2, b_921)
  f922 : q.fs 922 = some (1, 2, b_922)
  f923 : q.fs 923 = some (1, 2, b_923)
  f924 : q.fs 924 = some (1, 3, b_924)
  f925 : q.fs 925 = some (1, 10, b_925)
  f926 : q.fs 926 = some (1, 5, b_926)
  f927 : q.fs 927 = some (3, 6, b_927)
  f928 : q.fs 928 = some (1, 7, b_928)
  f929 : q.fs 929 = some (3, 3, b_929)
  g2 : q.gl 2 = (.str "0123456789")
  k6 : q.kd 6 = kdK71 6
  k7 : q.kd 7 = kdK71 7
/-! ## statements -/
abbrev kO : Str := "{"
abbrev kC : Str := "}"
abbrev kS : Str := ";"
abbrev kI : Str := "if"
abbrev kA : Str := "again"
abbrev kD : Str := "-"
abbrev kB : Str := " "
inductive Arg where
  | num (n : Nat) | md (x : Str)
inductive Stm where
  | pl (nm : Str) (as : List Arg)
  | ife (v : Nat) (a b : List Stm)
  | agn (v : Nat) (a : List Stm)
def encA : Arg → D
  | .num n => .int n
  | .md x => .str x
def wA : Arg → Str
  | .num n => numS n
  | .md x => x
mutual
def encS : Stm → D
  | .pl nm as => .tup (.str nm :: as.map encA)
  | .ife v a b => .tup [.str "if", .int v, .tup (encL a), .tup (encL b)]
  | .agn v a => .tup [.str "again", .int v, .tup (encL a)]
def encL : List Stm → List D
  | [] => []
  | s :: r => encS s :: encL r
end
theorem encntL_map : ∀ l : List Stm, encL l = l.map encS
  | [] => rfl
  | s :: r => by rw [encL, encntL_map r]; rfl
mutual
def wdS : Stm → List Str
  | .pl nm as => nm :: as.map wA
  | .ife v a b => kI :: numS v :: (wdB a ++ wdB b)
  | .agn v a => kA :: numS v :: wdB a
def wdB : List Stm → List Str
  | [] => [kO, kC]
  | s :: r => kO :: (wdS s ++ (wdR r ++ [kC]))
def wdR : List Stm → List Str
  | [] => []
  | s :: r => kS :: (wdS s ++ wdR r)
end
mutual
def cntS : Stm → Nat
  | .pl _ _ => 1
  | .ife _ a b => 1 + cntL a + cntL b
  | .agn _ a => 1 + cntL a
def cntL : List Stm → Nat
  | [] => 0
  | s :: r => cntS s + cntL r
end
def jn (ws : List Str) : Str := Txt.join kB ws
def txS (s : Stm) : Str := jn (wdS s)
def txB (l : List Stm) : Str := jn (wdB l)
/-- a hand's words -/
def wdH : List Stm → List Str
  | [] => [kD]
  | s :: r => wdS s ++ wdR r
def txH (l : List Stm) : Str := jn (wdH l)
def txP (p : List (List Stm)) : Str := Txt.join " || " (p.map txH)
def dL (l : List Stm) : D := .tup (l.map encS)
def dP (p : List (List Stm)) : D := .tup (p.map dL)
theorem enc_ife (v : Nat) (a b : List Stm) : encS (.ife v a b) = .tup [.str "if", .int v, dL a, dL b] := by
  rw [encS, encntL_map, encntL_map]; rfl
theorem enc_agn (v : Nat) (a : List Stm) : encS (.agn v a) = .tup [.str "again", .int v, dL a] := by
  rw [encS, encntL_map]; rfl
theorem enc_pl (nm : Str) (as : List Arg) : encS (.pl nm as) = .tup (.str nm :: as.map encA) := by rw [encS]
theorem wd_ife (v : Nat) (a b : List Stm) : wdS (.ife v a b) = kI :: numS v :: (wdB a ++ wdB b) := by rw [wdS]
theorem wd_agn (v : Nat) (a : List Stm) : wdS (.agn v a) = kA :: numS v :: wdB a := by rw [wdS]
theorem wd_pl (nm : Str) (as : List Arg) : wdS (.pl nm as) = nm :: as.map wA := by rw [wdS]
theorem wdB_nil : wdB [] = [kO, kC] := by rw [wdB]
theorem wdB_cons (s : Stm) (r : List Stm) : wdB (s :: r) = kO :: (wdH (s :: r) ++ [kC]) := by rw [wdB, wdH, List.append_assoc]
theorem wdR_cons (s : Stm) (r : List Stm) : wdR (s :: r) = kS :: wdH (s :: r) := by rw [wdR, wdH]
theorem wdR_nil : wdR [] = [] := by rw [wdR]
theorem wd_ne (s : Stm) : wdS s ≠ [] := by cases s <;> simp [wdS]
theorem wdB_ne (l : List Stm) : wdB l ≠ [] := by cases l <;> simp [wdB]
theorem wdH_ne (l : List Stm) : wdH l ≠ [] := by cases l <;> simp [wdH, wd_ne]
theorem cntS_ife (v : Nat) (a b : List Stm) : cntS (.ife v a b) = 1 + cntL a + cntL b := by rw [cntS]
theorem cntS_agn (v : Nat) (a : List Stm) : cntS (.agn v a) = 1 + cntL a := by rw [cntS]
theorem cntS_pl (nm : Str) (as : List Arg) : cntS (.pl nm as) = 1 := by rw [cntS]
theorem cntL_cons (s : Stm) (r : List Stm) : cntL (s :: r) = cntS s + cntL r := by rw [cntL]
theorem cntL_nil : cntL [] = 0 := by rw [cntL]
theorem cntS_pos (s : Stm) : 1 ≤ cntS s := by cases s <;> simp [cntS] <;> omega
theorem cntL_len : ∀ l : List Stm, l.length ≤ cntL l
  | [] => by simp
  | s :: r => by
    have := cntL_len r
    have := cntS_pos s
    rw [cntL_cons, List.length_cons]; omega
theorem cntL_mem : ∀ {l : List Stm} {s : Stm}, s ∈ l → cntS s ≤ cntL l
  | s' :: r, s, h => by
    rw [cntL_cons]
    rcases List.mem_cons.mp h with rfl | h
    · omega
    · have := cntL_mem h; omega
theorem cntL_app : ∀ a b : List Stm, cntL (a ++ b) = cntL a + cntL b
  | [], b => by rw [List.nil_append, cntL_nil]; omega
  | s :: r, b => by rw [List.cons_append, cntL_cons, cntL_cons, cntL_app r b]; omega
/-! ### what is a plain statement -/
def formList : List (Str × List Nat) := [("set", [118, 119]), ("add", [118, 118, 118]), ("sub", [118, 118, 118]), ("and", [118, 118, 118]), ("xor", [118, 118, 118]), ("below", [118, 118, 118]), ("get", [118, 118, 119, 109]), ("put", [118, 118, 119, 109]),
  ("swap", [118, 118, 118, 119, 109]), ("addto", [118, 118, 118, 119, 109]), ("await", [118, 118, 119, 109]), ("whole", [])]
def modeList : List (Str × Str) := [("get", "loose"), ("get", "take"), ("put", "loose"), ("put", "give"), ("swap", "loose"), ("swap", "take"), ("swap", "give"), ("swap", "both"), ("addto", "loose"), ("addto", "take"), ("addto", "give"), ("addto", "both"), ("await", "loose"), ("await", "take")]
inductive Fit (nm : Str) : Nat → Arg → Prop
  | v (n : Nat) (h : n ≤ 5) : Fit nm 118 (.num n)
  | w (n : Nat) (h : n ≤ 65535) : Fit nm 119 (.num n)
  | m (x : Str) (h : (nm, x) ∈ modeList) : Fit nm 109 (.md x)
inductive Fits (nm : Str) : List Nat → List Arg → Prop
  | nil : Fits nm [] []
  | cons {c : Nat} {a : Arg} {cs : List Nat} {as : List Arg} (h : Fit nm c a) (r : Fits nm cs as) : Fits nm (c :: cs) (a :: as)
def Pl (nm : Str) (as : List Arg) : Prop := ∃ ks, (nm, ks) ∈ formList ∧ Fits nm ks as
theorem Fits.len {nm : Str} {cs : List Nat} {as : List Arg} (h : Fits nm cs as) : cs.length = as.length := by
  induction h with
  | nil => rfl
  | cons _ _ ih => simp [ih]
/-- a statement with so many levels left -/
def okS : Nat → Stm → Prop
  | 0, _ => False
  | _ + 1, .pl nm as => Pl nm as
  | m + 1, .ife v a b => v ≤ 5 ∧ (∀ s ∈ a, okS m s) ∧ ∀ s ∈ b, okS m s
  | m + 1, .agn v a => v ≤ 8 ∧ ∀ s ∈ a, okS m s
def okL (m : Nat) (l : List Stm) : Prop := ∀ s ∈ l, okS m s
theorem okL0 {l : List Stm} (h : okL 0 l) : l = [] := by
  cases l with
  | nil => rfl
  | cons s r => exact (h s List.mem_cons_self).elim
theorem okS.more {m : Nat} : ∀ {s : Stm}, okS m s → okS (m + 1) s := by
  induction m with
  | zero => intro s h; exact h.elim
  | succ m ih =>
    intro s h
    cases s with
    | pl nm as => exact h
    | ife v a b => exact ⟨h.1, fun s hs => ih (h.2.1 s hs), fun s hs => ih (h.2.2 s hs)⟩
    | agn v a => exact ⟨h.1, fun s hs => ih (h.2 s hs)⟩
/-! ### words -/
def okW (x : Str) : Bool := (tl x).all fun c => !(c == 32) && !(c == 124)
def okN (x : Str) : Bool := okW x && decide ((tl x).length ≤ 5) && !decide (x = "if") && !decide (x = "again") && !decide (x = "}") && !decide (x = ";") && (match tl x with | [] => false | c :: _ => !(c == 45))
theorem forms_ok : (formList.all fun p => okN p.1 && decide (p.2.length ≤ 5)) = true := by decide +kernel
theorem modes_ok : (modeList.all fun p => okW p.2 && decide ((tl p.2).length ≤ 5)) = true := by decide +kernel
theorem form_at {nm : Str} {ks : List Nat} (h : (nm, ks) ∈ formList) : okW nm = true ∧ (tl nm).length ≤ 5 ∧ nm ≠ "if" ∧ nm ≠ "again" ∧ nm ≠ "}" ∧ nm ≠ ";" ∧ (∃ c r, tl nm = c :: r ∧ c ≠ 45) ∧ ks.length ≤ 5 := by
  have := List.all_eq_true.mp forms_ok _ h
  simp only [okN, Bool.and_eq_true, Bool.not_eq_true', decide_eq_true_eq, decide_eq_false_iff_not] at this
  obtain ⟨⟨⟨⟨⟨⟨⟨h1, h2⟩, h3⟩, h4⟩, h5⟩, h6⟩, h7⟩, h8⟩ := this
  refine ⟨h1, h2, h3, h4, h5, h6, ?_, h8⟩
  split at h7
  · cases h7
  · rename_i c r e; exact ⟨c, r, e, by simpa using h7⟩
theorem mode_at {nm x : Str} (h : (nm, x) ∈ modeList) : okW x = true ∧ (tl x).length ≤ 5 := by
  have := List.all_eq_true.mp modes_ok _ h
  simpa only [Bool.and_eq_true, decide_eq_true_eq] using this
theorem okW_num (n : Nat) : okW (numS n) = true := by
  unfold okW
  rw [List.all_eq_true]
  intro c hc
  rw [tl_numS] at hc
  have := num_dg hc
  unfold isDg at this
  simp; omega
theorem len_num {n : Nat} (h : n < 100000) : (tl (numS n)).length ≤ 5 := by rw [tl_numS]; exact numL_len (by decide) h
theorem fit_w {nm : Str} {c : Nat} {a : Arg} (h : Fit nm c a) : okW (wA a) = true ∧ (tl (wA a)).length ≤ 5 := by
  cases h with
  | v n h => exact ⟨okW_num n, len_num (by omega)⟩
  | w n h => exact ⟨okW_num n, len_num (by omega)⟩
  | m x h => exact mode_at h
theorem fits_w {nm : Str} {cs : List Nat} {as : List Arg} (h : Fits nm cs as) : ∀ a ∈ as, okW (wA a) = true ∧ (tl (wA a)).length ≤ 5 := by
  induction h with
  | nil => intro a h; cases h
  | cons h _ ih =>
    intro a ha
    rcases List.mem_cons.mp ha with rfl | ha
    · exact fit_w h
    · exact ih a ha
theorem okW_wdR {l : List Stm} (h : ∀ s ∈ l, ∀ w ∈ wdS s, okW w = true) : ∀ w ∈ wdR l, okW w = true := by
  induction l with
  | nil => rw [wdR_nil]; intro w hw; cases hw
  | cons s r ih =>
    intro w hw
    rw [wdR, List.mem_cons, List.mem_append] at hw
    rcases hw with rfl | hw | hw
    · decide +kernel
    · exact h s List.mem_cons_self w hw
    · exact ih (fun s' hs => h s' (List.mem_cons_of_mem _ hs)) w hw
theorem okW_wdH {l : List Stm} (h : ∀ s ∈ l, ∀ w ∈ wdS s, okW w = true) : ∀ w ∈ wdH l, okW w = true := by
  cases l with
  | nil => intro w hw; rw [wdH, List.mem_singleton] at hw; subst hw; decide +kernel
  | cons s r =>
    intro w hw
    rw [wdH, List.mem_append] at hw
    rcases hw with hw | hw
    · exact h s List.mem_cons_self w hw
    · exact okW_wdR (fun s' hs => h s' (List.mem_cons_of_mem _ hs)) w hw
theorem okW_wdB {l : List Stm} (h : ∀ s ∈ l, ∀ w ∈ wdS s, okW w = true) : ∀ w ∈ wdB l, okW w = true := by
  cases l with
  | nil => intro w hw; rw [wdB_nil] at hw; simp only [List.mem_cons, List.not_mem_nil, or_false] at hw; rcases hw with rfl | rfl <;> decide +kernel
  | cons s r =>
    intro w hw
    rw [wdB_cons, List.mem_cons, List.mem_append, List.mem_singleton] at hw
    rcases hw with rfl | hw | rfl
    · decide +kernel
    · exact okW_wdH h w hw
    · decide +kernel
theorem okW_S : ∀ (m : Nat) (s : Stm), okS m s → ∀ w ∈ wdS s, okW w = true := by
  intro m
  induction m with
  | zero => intro s h; exact h.elim
  | succ m ih =>
    intro s h w hw
    cases s with
    | pl nm as =>
      obtain ⟨ks, h1, h2⟩ := h
      rw [wd_pl, List.mem_cons, List.mem_map] at hw
      rcases hw with rfl | ⟨a, ha, rfl⟩
      · exact (form_at h1).1
      · exact (fits_w h2 a ha).1
    | ife v a b =>
      rw [wd_ife, List.mem_cons, List.mem_cons, List.mem_append] at hw
      rcases hw with rfl | rfl | hw | hw
      · decide +kernel
      · exact okW_num v
      · exact okW_wdB (fun s hs => ih s (h.2.1 s hs)) w hw
      · exact okW_wdB (fun s hs => ih s (h.2.2 s hs)) w hw
    | agn v a =>
      rw [wd_agn, List.mem_cons, List.mem_cons] at hw
      rcases hw with rfl | rfl | hw
      · decide +kernel
      · exact okW_num v
      · exact okW_wdB (fun s hs => ih s (h.2 s hs)) w hw
theorem okW_H {m : Nat} {l : List Stm} (h : okL m l) : ∀ w ∈ wdH l, okW w = true := okW_wdH fun s hs => okW_S m s (h s hs)
/-- what the words of a statement begin with -/
theorem wd_head {m : Nat} {s : Stm} (h : okS m s) : ∃ w r, wdS s = w :: r ∧ w ≠ "}" ∧ w ≠ ";" ∧ (∃ c t, tl w = c :: t ∧ c ≠ 45) := by
  cases m with
  | zero => exact h.elim
  | succ m =>
    cases s with
    | pl nm as =>
      obtain ⟨ks, h1, h2⟩ := h
      obtain ⟨_, _, _, _, a, b, c, _⟩ := form_at h1
      exact ⟨nm, _, wd_pl nm as, a, b, c⟩
    | ife v a b => exact ⟨kI, _, wd_ife v a b, by decide, by decide, 105, [102], by decide +kernel, by decide⟩
    | agn v a => exact ⟨kA, _, wd_agn v a, by decide, by decide, 97, [103, 97, 105, 110], by decide +kernel, by decide⟩
/-! ### texts of lists of words -/
theorem tl_jn1 (ws : List Str) : tl (jn ws) = joinL [32] (ws.map tl) := by
  unfold jn; rw [tl_jn]; rfl
theorem jn_app {a b : List Str} (ha : a ≠ []) (hb : b ≠ []) : jn (a ++ b) = jn a ++ kB ++ jn b := by
  apply ext_tl
  rw [tl_append, tl_append, tl_jn1, tl_jn1, tl_jn1, List.map_append, joinL_app (by simpa using ha) (by simpa using hb)]
  have e : tl (" " : Str) = [32] := by decide +kernel
  rw [e]; simp
theorem jn_one (w : Str) : jn [w] = w := by apply ext_tl; rw [tl_jn1]; rfl
theorem str_assoc (x y z : Str) : x ++ y ++ z = x ++ (y ++ z) := by apply ext_tl; simp only [tl_append, List.append_assoc]
theorem txS_ife (v : Nat) (a b : List Stm) : txS (.ife v a b) = jn [kI, numS v] ++ kB ++ txB a ++ kB ++ txB b := by
  have e : wdS (.ife v a b) = [kI, numS v] ++ wdB a ++ wdB b := by rw [wd_ife]; simp
  unfold txS txB
  rw [e, jn_app (by simp) (wdB_ne b), jn_app (by simp) (wdB_ne a)]
theorem txS_agn (v : Nat) (a : List Stm) : txS (.agn v a) = jn [kA, numS v] ++ kB ++ txB a := by
  have e : wdS (.agn v a) = [kA, numS v] ++ wdB a := by rw [wd_agn]; simp
  unfold txS txB
  rw [e, jn_app (by simp) (wdB_ne a)]
theorem txB_nil : txB [] = "{ }" := by unfold txB; rw [wdB_nil]; decide +kernel
theorem txB_cons (s : Stm) (r : List Stm) : txB (s :: r) = "{ " ++ txH (s :: r) ++ " }" := by
  have e : wdB (s :: r) = [kO] ++ wdH (s :: r) ++ [kC] := by rw [wdB_cons]; simp
  unfold txB txH
  rw [e, jn_app (by simp) (by simp), jn_app (by simp) (wdH_ne _), jn_one, jn_one]
  have e1 : ("{ " : Str) = kO ++ kB := by decide +kernel
  have e2 : (" }" : Str) = kB ++ kC := by decide +kernel
  rw [e1, e2, str_assoc _ kB kC]
theorem join_cons2 (y a b : Str) (r : List Str) : Txt.join y (a :: b :: r) = a ++ y ++ Txt.join y (b :: r) := by
  apply ext_tl
  rw [tl_jn, tl_append, tl_append, tl_jn, List.map_cons, List.map_cons, joinL_cons2]; simp
theorem txH_cons : ∀ (r : List Stm) (s : Stm), txH (s :: r) = Txt.join " ; " ((s :: r).map txS)
  | [], s => by
    unfold txH
    rw [wdH, wdR_nil, List.append_nil]
    apply ext_tl
    rw [tl_jn]; rfl
  | s' :: r, s => by
    unfold txH
    rw [wdH, wdR_cons, jn_app (wd_ne s) (by simp), List.map_cons, List.map_cons, join_cons2, ← List.map_cons, ← txH_cons r s']
    have e : kS :: wdH (s' :: r) = [kS] ++ wdH (s' :: r) := rfl
    rw [e, jn_app (by simp) (wdH_ne _), jn_one]
    have e1 : (" ; " : Str) = kB ++ kS ++ kB := by decide +kernel
    unfold txS txH
    rw [e1]
    simp only [str_assoc]
/-! ### lengths -/
def wl (ws : List Str) : Nat := (ws.map fun w => (tl w).length + 1).sum
theorem wl_app (a b : List Str) : wl (a ++ b) = wl a + wl b := by unfold wl; simp
theorem wl_cons (w : Str) (r : List Str) : wl (w :: r) = (tl w).length + 1 + wl r := by unfold wl; simp
theorem jn_len : ∀ ws : List Str, (tl (jn ws)).length ≤ wl ws
  | [] => by rw [tl_jn1]; simp [joinL]
  | [w] => by rw [jn_one, wl_cons]; omega
  | w :: w' :: r => by
    have := jn_len (w' :: r)
    rw [tl_jn1] at this ⊢
    rw [List.map_cons, List.map_cons, joinL_cons2, wl_cons]
    simp only [List.length_append, List.length_cons, List.length_nil]
    rw [List.map_cons] at this
    omega
theorem wlR : ∀ {l : List Stm}, (∀ s ∈ l, wl (wdS s) + 2 ≤ 60 * cntS s) → wl (wdR l) ≤ 60 * cntL l
  | [], _ => by rw [wdR_nil]; simp [wl]
  | s :: r, h => by
    have := wlR fun s' hs => h s' (List.mem_cons_of_mem _ hs)
    have := h s List.mem_cons_self
    have e : (tl (";" : Str)).length = 1 := by decide +kernel
    rw [wdR, wl_cons, wl_app, cntL_cons, e]; omega
theorem wlH {l : List Stm} (h : ∀ s ∈ l, wl (wdS s) + 2 ≤ 60 * cntS s) : wl (wdH l) ≤ 60 * cntL l + 2 := by
  cases l with
  | nil => have e : (tl ("-" : Str)).length = 1 := by decide +kernel
           rw [wdH, wl_cons, e]; simp [wl]
  | cons s r =>
    have := wlR fun s' hs => h s' (List.mem_cons_of_mem _ hs)
    have := h s List.mem_cons_self
    rw [wdH, wl_app, cntL_cons]; omega
theorem wlB {l : List Stm} (h : ∀ s ∈ l, wl (wdS s) + 2 ≤ 60 * cntS s) : wl (wdB l) ≤ 60 * cntL l + 6 := by
  have e1 : (tl ("{" : Str)).length = 1 := by decide +kernel
  have e2 : (tl ("}" : Str)).length = 1 := by decide +kernel
  cases l with
  | nil => rw [wdB_nil, wl_cons, wl_cons, e1, e2]; simp [wl]
  | cons s r =>
    have := wlH h
    rw [wdB_cons, wl_cons, wl_app, wl_cons, e1, e2]
    simp only [wl, List.map_nil, List.sum_nil] at *; omega
theorem wl_as {as : List Arg} (h : ∀ a ∈ as, (tl (wA a)).length ≤ 5) : wl (as.map wA) ≤ 6 * as.length := by
  induction as with
  | nil => simp [wl]
  | cons a r ih =>
    have := ih fun b hb => h b (List.mem_cons_of_mem _ hb)
    have := h a List.mem_cons_self
    rw [List.map_cons, wl_cons, List.length_cons]; omega
theorem wl_S : ∀ (m : Nat) (s : Stm), okS m s → wl (wdS s) + 2 ≤ 60 * cntS s := by
  intro m
  induction m with
  | zero => intro s h; exact h.elim
  | succ m ih =>
    intro s h
    cases s with
    | pl nm as =>
      obtain ⟨ks, h1, h2⟩ := h
      have := wl_as fun a ha => (fits_w h2 a ha).2
      obtain ⟨_, a1, _, _, _, _, _, a2⟩ := form_at h1
      have := h2.len
      rw [wd_pl, wl_cons, cntS_pl]; omega
    | ife v a b =>
      have h1 := wlB fun s hs => ih s (h.2.1 s hs)
      have h2 := wlB fun s hs => ih s (h.2.2 s hs)
      have h3 := len_num (n := v) (by have := h.1; omega)
      have e : (tl ("if" : Str)).length = 2 := by decide +kernel
      rw [wd_ife, wl_cons, wl_cons, wl_app, cntS_ife, e]; omega
    | agn v a =>
      have h1 := wlB fun s hs => ih s (h.2 s hs)
      have h3 := len_num (n := v) (by have := h.1; omega)
      have e : (tl ("again" : Str)).length = 5 := by decide +kernel
      rw [wd_agn, wl_cons, wl_cons, cntS_agn, e]; omega
theorem txS_len {m : Nat} {s : Stm} (h : okS m s) : (tl (txS s)).length + 2 ≤ 60 * cntS s := by
  have := wl_S m s h
  have := jn_len (wdS s)
  unfold txS; omega
theorem txB_len {m : Nat} {l : List Stm} (h : okL m l) : (tl (txB l)).length ≤ 60 * cntL l + 6 := by
  have := wlB fun s hs => wl_S m s (h s hs)
  have := jn_len (wdB l)
  unfold txB; omega
theorem txH_len {m : Nat} {l : List Stm} (h : okL m l) : (tl (txH l)).length ≤ 60 * cntL l + 2 := by
  have := wlH fun s hs => wl_S m s (h s hs)
  have := jn_len (wdH l)
  unfold txH; omega
theorem txS_sum {m : Nat} : ∀ {l : List Stm}, okL m l → ((l.map txS).map (·.length)).sum ≤ 60 * cntL l
  | [], _ => by simp
  | s :: r, h => by
    have := txS_sum (l := r) fun s' hs => h s' (List.mem_cons_of_mem _ hs)
    have := txS_len (h s List.mem_cons_self)
    simp only [List.map_cons, List.sum_cons]
    rw [cntL_cons, len_tl]; omega
/-! ### nested data -/
theorem names_sok : (formList.all fun p => PyData.strOk p.1) = true := by decide +kernel
theorem modes_sok : (modeList.all fun p => PyData.strOk p.2) = true := by decide +kernel
theorem nw_arg {nm : Str} {c : Nat} {a : Arg} (h : Fit nm c a) : NW 0 50 (encA a) := by
  cases h with
  | v n h => exact NW.int (by omega)
  | w n h => exact NW.int (by omega)
  | m x h =>
    have h1 := List.all_eq_true.mp modes_sok _ h
    have h2 := (mode_at h).2
    exact NW.str h1 (by have : x.cps.size = (tl x).length := rfl; omega)
theorem nw_args {nm : Str} {cs : List Nat} {as : List Arg} (h : Fits nm cs as) : NWs 0 (51 * as.length) (as.map encA) := by
  induction h with
  | nil => exact NWs.nil
  | cons h _ ih =>
    have := NWs.cons (nw_arg h) ih
    rw [List.map_cons, List.length_cons]
    exact this.mono (by omega)
theorem nw_L {m : Nat} : ∀ {l : List Stm}, (∀ s ∈ l, NW (2 * m) (400 * cntS s - 1) (encS s)) → NWs (2 * m) (400 * cntL l) (l.map encS)
  | [], _ => NWs.nil
  | s :: r, h => by
    have h1 := NWs.cons (h s List.mem_cons_self) (nw_L fun s' hs => h s' (List.mem_cons_of_mem _ hs))
    have := cntS_pos s
    rw [List.map_cons, cntL_cons]
    exact h1.mono (by omega)
theorem nw_S : ∀ (m : Nat) (s : Stm), okS m s → NW (2 * m) (400 * cntS s - 1) (encS s) := by
  intro m
  induction m with
  | zero => intro s h; exact h.elim
  | succ m ih =>
    intro s h
    cases s with
    | pl nm as =>
      obtain ⟨ks, h1, h2⟩ := h
      obtain ⟨_, a1, _, _, _, _, _, a2⟩ := form_at h1
      have := h2.len
      have n1 := NW.str (z := nm) (List.all_eq_true.mp names_sok _ h1) (by have : nm.cps.size = (tl nm).length := rfl; omega)
      rw [enc_pl, cntS_pl]
      exact (NWs.cons n1 (nw_args h2)).tup.mono (by omega) (by omega)
    | ife v a b =>
      have ha := (nw_L (m := m) fun s hs => ih s (h.2.1 s hs)).tup
      have hb := (nw_L (m := m) fun s hs => ih s (h.2.2 s hs)).tup
      have n1 : NW (2 * m + 1) 50 (.str "if") := (NW.str (by decide +kernel) (by decide +kernel)).mono (Nat.zero_le _) (Nat.le_refl _)
      have n2 : NW (2 * m + 1) 50 (.int v) := (NW.int (by have := h.1; omega)).mono (Nat.zero_le _) (Nat.le_refl _)
      rw [enc_ife, cntS_ife]
      exact (NWs.cons n1 (NWs.cons n2 (NWs.cons ha (NWs.cons hb NWs.nil)))).tup.mono (by omega) (by omega)
    | agn v a =>
      have ha := (nw_L (m := m) fun s hs => ih s (h.2 s hs)).tup
      have n1 : NW (2 * m + 1) 50 (.str "again") := (NW.str (by decide +kernel) (by decide +kernel)).mono (Nat.zero_le _) (Nat.le_refl _)
      have n2 : NW (2 * m + 1) 50 (.int v) := (NW.int (by have := h.1; omega)).mono (Nat.zero_le _) (Nat.le_refl _)
      rw [enc_agn, cntS_agn]
      exact (NWs.cons n1 (NWs.cons n2 (NWs.cons ha NWs.nil))).tup.mono (by omega) (by omega)
theorem nwL {m : Nat} {l : List Stm} (h : okL m l) : NWs (2 * m) (400 * cntL l) (l.map encS) := nw_L fun s hs => nw_S m s (h s hs)
end Tm

set_option Elab.async false
set_option linter.all false
set_option maxRecDepth 100000
set_option maxHeartbeats 8000000
namespace Tm
open PySem L2 TL
theorem sum_wl (ws : List Str) : (ws.map (·.length)).sum + ws.length = wl ws := by
  induction ws with
  | nil => rfl
  | cons w r ih => rw [List.map_cons, List.sum_cons, List.length_cons, wl_cons, ← ih, len_tl]; omega
def okA : Arg → Prop
  | .num n => n < 100000
  | .md _ => True
theorem str_arg {a : Arg} (h : okA a) (S : Store) : biop .str [encA a] S = some (.str (wA a), S) := by
  cases a with
  | num n => exact b_strI h
  | md x => rfl
theorem fit_A {nm : Str} {c : Nat} {a : Arg} (h : Fit nm c a) : okA a := by
  cases h with
  | v n h => show n < 100000; omega
  | w n h => show n < 100000; omega
  | m x h => exact True.intro
theorem fits_A {nm : Str} {cs : List Nat} {as : List Arg} (h : Fits nm cs as) : ∀ a ∈ as, okA a := by
  induction h with
  | nil => intro a h; cases h
  | cons h _ ih =>
    intro a ha
    rcases List.mem_cons.mp ha with rfl | ha
    · exact fit_A h
    · exact ih a ha
theorem pl_A {nm : Str} {as : List Arg} (h : Pl nm as) : ∀ a ∈ Arg.md nm :: as, okA a := by
  obtain ⟨ks, _, h2⟩ := h
  intro a ha
  rcases List.mem_cons.mp ha with rfl | ha
  · exact True.intro
  · exact fits_A h2 a ha
theorem pl_wl {nm : Str} {as : List Arg} (h : Pl nm as) : wl ((Arg.md nm :: as).map wA) ≤ 60 := by
  have := wl_S 1 (.pl nm as) h
  rw [wd_pl, cntS_pl] at this
  show wl (nm :: as.map wA) ≤ 60
  omega
theorem wl_two {x : Str} {v : Nat} (hx : (tl x).length ≤ 5) (hv : v < 100000) : wl ([Arg.md x, .num v].map wA) ≤ 60 := by
  have := len_num hv
  show wl [x, numS v] ≤ 60
  rw [wl_cons, wl_cons]
  simp only [wl, List.map_nil, List.sum_nil]; omega
theorem kI_len : (tl kI).length = 2 := by decide +kernel
theorem kA_len : (tl kA).length = 5 := by decide +kernel
section
variable {q : Pr} (Q : HK q) {W : Nat}
include Q
/-- the words of a list of numbers and texts, with blanks -/
theorem lc_words (k : Nat) (S : Store) {i : Nat} {e : Env'} {as : List Arg} (h : ∀ a ∈ as, okA a) (hl : wl (as.map wA) ≤ 100000) (he : e[0]? = some (some (.tup (as.map encA)))) (hw : ∀ d, ∃ e1, bindT (.nm 1) d S (wipeE e [1]) = some e1 ∧ e1[1]? = some (some d)) (hb : ∀ d S S', bindT (.nm 1) d S (wipeE e [1]) = bindT (.nm 1) d S' (wipeE e [1])) :
    ∃ S', ev (pm q W k) (.mt .join (.lit (.str " ")) (.cons (.lc (.itv (.var 0)) (.nm 1) (.lit (.bl true)) (.bi .str (.cons (.var 1) .nil)) [1]) .nil)) e S = some (.str (jn (as.map wA)), S') ∧ Kp [] S S' := by
  have hs := sum_wl (as.map wA)
  obtain ⟨S', c1, c2, c3⟩ := er_lcG (q := q) (W := W) (k := k) (i := .itv (.var 0)) (a := .bi .str (.cons (.var 1) .nil)) (t := .nm 1) (own := [1]) (e := e) (S := S) encA (fun a => .str (wA a))
    (itv_tup (er_var he)) (fun _ _ => rfl) (by rw [sizeLine_eq]; simp at hs; omega) (fun a ha S1 hS => by
      obtain ⟨e1, g1, g2⟩ := hw (encA a)
      exact ⟨e1, S1, by rw [hb _ S1 S]; exact g1, er_bi (er_cons (er_var g2) er_nil) (str_arg (h a ha) S1), Kp.refl _ _⟩)
  refine ⟨S', er_mt (er_lit rfl) (er_cons c1 er_nil) rfl (b_join (ws := as.map wA) (l_lst (by rw [c3, List.map_map]; rfl)) ?_), c2⟩
  have e1 : (" " : Str).length = 1 := by decide +kernel
  rw [e1]; omega
theorem spaced_p (k : Nat) (S : Store) {as : List Arg} (h : ∀ a ∈ as, okA a) (hl : wl (as.map wA) ≤ 100000) : ∃ S', run q W (k + 1) 888 [.tup (as.map encA)] S = some (.str (jn (as.map wA)), S') ∧ Kp [] S S' := by
  obtain ⟨S', c1, c2⟩ := lc_words Q (W := W) k S (e := [some (.tup (as.map encA)), none]) (i := 0) h hl rfl (fun d => ⟨_, rfl, rfl⟩) (fun _ _ _ => rfl)
  refine ⟨S', ?_, c2⟩
  refine' run_rt (e0 := [some _, none]) Q.f888 rfl rfl ?h
  case h =>
    unfold b_888
    exact es_rt (es_ret c1)
theorem first2 {S : Store} {k : Nat} {e : Env'} {x y : D} {r : List D} (he : e[0]? = some (some (.tup (x :: y :: r)))) : ev (pm q W k) (.slc (.var 0) .absent (.lit (.int 2))) e S = some (.tup [x, y], S) :=
  er_slc_to (er_var he) rfl (er_lit rfl) (by decide)
/-- a def that shows lists by a def that shows each -/
theorem lc_join {f : Nat} (k : Nat) (S : Store) {e : Env'} {y : Str} {α : Type} (enc : α → D) (tx : α → Str) {l : List α} {j : Nat} (he : e[j]? = some (some (.tup (l.map enc)))) {n : Nat} (hw : ∀ d, ∃ e1, (∀ S, bindT (.nm n) d S (wipeE e [n]) = some e1) ∧ e1[n]? = some (some d))
    (hs : ∀ s ∈ l, ∀ S, ∃ S', run q W k f [enc s] S = some (.str (tx s), S') ∧ Kp [] S S') (hl : l.length ≤ 100000) (hj : ((l.map tx).map (·.length)).sum + l.length * y.length ≤ 16777216) :
    ∃ S', ev (pm q W k) (.mt .join (.lit (.str y)) (.cons (.lc (.itv (.var j)) (.nm n) (.lit (.bl true)) (.call f [0] (.cons (.var n) .nil) .nil) [n]) .nil)) e S = some (.str (Txt.join y (l.map tx)), S') ∧ Kp [] S S' := by
  obtain ⟨S', c1, c2, c3⟩ := er_lcG (q := q) (W := W) (k := k) (i := .itv (.var j)) (a := .call f [0] (.cons (.var n) .nil) .nil) (t := .nm n) (own := [n]) (e := e) (S := S) enc (fun a => .str (tx a))
    (itv_tup (er_var he)) (fun _ _ => rfl) (by rw [sizeLine_eq]; omega) (fun a ha S1 hS => by
      obtain ⟨e1, g1, g2⟩ := hw (enc a)
      obtain ⟨S2, r1, r2⟩ := hs a ha S1
      exact ⟨e1, S2, g1 S1, er_call (er_cons (er_var g2) er_nil) er_nil rfl r1, r2⟩)
  refine ⟨S', er_mt (er_lit rfl) (er_cons c1 er_nil) rfl (b_join (ws := l.map tx) (l_lst (by rw [c3, List.map_map]; rfl)) ?_), c2⟩
  rw [List.length_map]; exact hj
theorem show_p : ∀ (m : Nat) (s : Stm), okS m s → cntS s ≤ 24 → ∀ (k : Nat) (S : Store), ∃ S', run q W (k + 3 * m) 890 [encS s] S = some (.str (txS s), S') ∧ Kp [] S S' := by
  intro m
  induction m with
  | zero => intro s h; exact h.elim
  | succ m ih =>
    have sts : ∀ (l : List Stm), okL m l → l ≠ [] → cntL l ≤ 24 → ∀ (k : Nat) (S : Store), ∃ S', run q W (k + 3 * m + 1) 891 [dL l] S = some (.str (txH l), S') ∧ Kp [] S S' := by
      intro l hl hne hc k S
      have hlen := cntL_len l
      have e1 : (" ; " : Str).length = 3 := by decide +kernel
      obtain ⟨S', c1, c2⟩ := lc_join Q (W := W) (f := 890) (k + 3 * m) S (e := [some (dL l), none]) (y := " ; ") encS txS (l := l) (j := 0) rfl (n := 1) (fun d => ⟨_, fun _ => rfl, rfl⟩)
        (fun s hs S => ih s (hl s hs) (by have := cntL_mem hs; omega) k S) (by omega) (by have := txS_sum hl; rw [e1]; omega)
      refine ⟨S', ?_, c2⟩
      refine' run_rt (e0 := [some _, none]) Q.f891 rfl rfl ?h
      case h =>
        unfold b_891
        have : txH l = Txt.join " ; " (l.map txS) := by
          cases l with
          | nil => exact (hne rfl).elim
          | cons s r => exact txH_cons r s
        rw [this]
        exact es_rt (es_ret c1)
    have blk : ∀ (l : List Stm), okL m l → cntL l ≤ 24 → ∀ (k : Nat) (S : Store), ∃ S', run q W (k + 3 * m + 2) 889 [dL l] S = some (.str (txB l), S') ∧ Kp [] S S' := by
      intro l hl hc k S
      cases l with
      | nil =>
        refine ⟨S, ?_, Kp.refl _ _⟩
        refine' run_rt (e0 := [some _]) Q.f889 rfl rfl ?h
        case h =>
          unfold b_889
          rw [txB_nil]
          exact es_rt (es_ret (er_ife_f (er_cmp (er_bi (er_cons (er_var rfl) er_nil) b_lenT) (er_lit rfl) (c_gt_f (by decide))) (er_lit rfl)))
      | cons s r =>
        obtain ⟨S', a1, a2⟩ := sts (s :: r) hl (by simp) hc k S
        refine ⟨S', ?_, a2⟩
        have hlen := txH_len hl
        have e1 : (tl ("{ " : Str)).length = 2 := by decide +kernel
        have e2 : (tl (" }" : Str)).length = 2 := by decide +kernel
        refine' run_rt (e0 := [some _]) Q.f889 rfl rfl ?h
        case h =>
          unfold b_889
          rw [txB_cons]
          refine es_rt (es_ret (er_ife_t (er_cmp (er_bi (er_cons (er_var rfl) er_nil) b_lenT) (er_lit rfl) (c_gt_t (by rw [List.length_map, List.length_cons]; omega))) ?_))
          exact er_bin (er_bin (er_lit rfl) (er_call (er_cons (er_var rfl) er_nil) er_nil rfl a1) (o_addS (by omega))) (er_lit rfl) (o_addS (by rw [tl_append, List.length_append]; omega))
    intro s h hc k S
    have hF : k + 3 * (m + 1) = k + 3 * m + 2 + 1 := by omega
    rw [hF]
    cases s with
    | pl nm as =>
      have hp : Pl nm as := h
      obtain ⟨S', a1, a2⟩ := spaced_p Q (W := W) (k + 3 * m + 1) S (as := .md nm :: as) (pl_A hp) (by have := pl_wl hp; omega)
      obtain ⟨ks, h1, _⟩ := hp
      obtain ⟨_, _, n1, n2, _⟩ := form_at h1
      refine ⟨S', ?_, a2⟩
      have e0 : encS (.pl nm as) = .tup ((Arg.md nm :: as).map encA) := enc_pl nm as
      have e1 : txS (.pl nm as) = jn ((Arg.md nm :: as).map wA) := by unfold txS; rw [wd_pl]; rfl
      rw [e0, e1]
      refine' run_rt (e0 := [some _]) Q.f890 rfl rfl ?h
      case h =>
        unfold b_890
        have i0 : ev (pm q W (k + 3 * m + 2)) (.idx (.var 0) (.lit (.int 0))) [some (.tup ((Arg.md nm :: as).map encA))] S = some (.str nm, S) := er_idx (er_var rfl) (er_lit rfl) (i_tup (atN (n := 0) rfl))
        refine es_nx (es_if_f (er_cmp i0 (er_lit rfl) (c_str_f n1)) es_skip) (es_nx (es_if_f (er_cmp i0 (er_lit rfl) (c_str_f n2)) es_skip) ?_)
        exact es_rt (es_ret (er_call (er_cons (er_var rfl) er_nil) er_nil rfl a1))
    | ife v a b =>
      obtain ⟨hv, ha, hb⟩ := h
      rw [cntS_ife] at hc
      obtain ⟨S1, a1, k1⟩ := spaced_p Q (W := W) (k + 3 * m + 1) S (as := [.md kI, .num v]) (by intro x hx; simp only [List.mem_cons, List.not_mem_nil, or_false] at hx; rcases hx with rfl | rfl; exact True.intro; show v < 100000; omega) (by have := wl_two (x := kI) (v := v) (by rw [kI_len]; omega) (by omega); omega)
      obtain ⟨S2, a2, k2⟩ := blk a ha (by omega) k S1
      obtain ⟨S3, a3, k3⟩ := blk b hb (by omega) k S2
      refine ⟨S3, ?_, (k1.trans k2).trans k3⟩
      have hA := txB_len ha
      have hB := txB_len hb
      have hJ : (tl (jn ([Arg.md kI, .num v].map wA))).length ≤ 60 := Nat.le_trans (jn_len _) (wl_two (by rw [kI_len]; omega) (by omega))
      have e1 : (tl (" " : Str)).length = 1 := by decide +kernel
      rw [enc_ife, txS_ife]
      refine' run_rt (e0 := [some _]) Q.f890 rfl rfl ?h
      case h =>
        unfold b_890
        have i0 : ev (pm q W (k + 3 * m + 2)) (.idx (.var 0) (.lit (.int 0))) [some (.tup [.str "if", .int v, dL a, dL b])] S = some (.str "if", S) := er_idx (er_var rfl) (er_lit rfl) (i_tup (atN (n := 0) rfl))
        refine es_rt (es_if_t (er_cmp i0 (er_lit rfl) (c_str_t rfl)) (es_rt (es_ret ?_)))
        refine er_bin (er_bin (er_bin (er_bin (er_call (er_cons (first2 Q rfl) er_nil) er_nil rfl a1) (er_lit rfl) (o_addS (x := jn ([Arg.md kI, .num v].map wA)) (by omega))) (er_call (er_cons (er_idx (er_var rfl) (er_lit rfl) (i_tup (atN (n := 2) rfl))) er_nil) er_nil rfl a2) (o_addS ?_)) (er_lit rfl) (o_addS ?_)) (er_call (er_cons (er_idx (er_var rfl) (er_lit rfl) (i_tup (atN (n := 3) rfl))) er_nil) er_nil rfl a3) (o_addS ?_)
        all_goals ((try simp only [tl_append, List.length_append]); omega)
    | agn v a =>
      obtain ⟨hv, ha⟩ := h
      rw [cntS_agn] at hc
      obtain ⟨S1, a1, k1⟩ := spaced_p Q (W := W) (k + 3 * m + 1) S (as := [.md kA, .num v]) (by intro x hx; simp only [List.mem_cons, List.not_mem_nil, or_false] at hx; rcases hx with rfl | rfl; exact True.intro; show v < 100000; omega) (by have := wl_two (x := kA) (v := v) (by rw [kA_len]; omega) (by omega); omega)
      obtain ⟨S2, a2, k2⟩ := blk a ha (by omega) k S1
      refine ⟨S2, ?_, k1.trans k2⟩
      have hA := txB_len ha
      have hJ : (tl (jn ([Arg.md kA, .num v].map wA))).length ≤ 60 := Nat.le_trans (jn_len _) (wl_two (by rw [kA_len]; omega) (by omega))
      have e1 : (tl (" " : Str)).length = 1 := by decide +kernel
      rw [enc_agn, txS_agn]
      refine' run_rt (e0 := [some _]) Q.f890 rfl rfl ?h
      case h =>
        unfold b_890
        have i0 : ev (pm q W (k + 3 * m + 2)) (.idx (.var 0) (.lit (.int 0))) [some (.tup [.str "again", .int v, dL a])] S = some (.str "again", S) := er_idx (er_var rfl) (er_lit rfl) (i_tup (atN (n := 0) rfl))
        refine es_nx (es_if_f (er_cmp i0 (er_lit rfl) (c_str_f (by decide))) es_skip) (es_rt (es_if_t (er_cmp i0 (er_lit rfl) (c_str_t rfl)) (es_rt (es_ret ?_))))
        refine er_bin (er_bin (er_call (er_cons (first2 Q rfl) er_nil) er_nil rfl a1) (er_lit rfl) (o_addS (x := jn ([Arg.md kA, .num v].map wA)) (by omega))) (er_call (er_cons (er_idx (er_var rfl) (er_lit rfl) (i_tup (atN (n := 2) rfl))) er_nil) er_nil rfl a2) (o_addS ?_)
        simp only [tl_append, List.length_append]; omega
theorem showL_p {m : Nat} {l : List Stm} (hl : okL m l) (hne : l ≠ []) (hc : cntL l ≤ 24) (k : Nat) (S : Store) : ∃ S', run q W (k + 3 * m + 1) 891 [dL l] S = some (.str (txH l), S') ∧ Kp [] S S' := by
  have hlen := cntL_len l
  have e1 : (" ; " : Str).length = 3 := by decide +kernel
  obtain ⟨S', c1, c2⟩ := lc_join Q (W := W) (f := 890) (k + 3 * m) S (e := [some (dL l), none]) (y := " ; ") encS txS (l := l) (j := 0) rfl (n := 1) (fun d => ⟨_, fun _ => rfl, rfl⟩)
    (fun s hs S => show_p Q (W := W) m s (hl s hs) (by have := cntL_mem hs; omega) k S) (by omega) (by have := txS_sum hl; rw [e1]; omega)
  refine ⟨S', ?_, c2⟩
  refine' run_rt (e0 := [some _, none]) Q.f891 rfl rfl ?h
  case h =>
    unfold b_891
    have : txH l = Txt.join " ; " (l.map txS) := by
      cases l with
      | nil => exact (hne rfl).elim
      | cons s r => exact txH_cons r s
    rw [this]
    exact es_rt (es_ret c1)
/-- a program: its hands -/
structure OkP (p : List (List Stm)) : Prop where
  l0 : 1 ≤ p.length
  l1 : p.length ≤ 4
  ok : ∀ h ∈ p, okL 4 h
  cn : ∀ h ∈ p, cntL h ≤ 24
omit Q in
theorem txH_sum {p : List (List Stm)} (ok : ∀ h ∈ p, okL 4 h) (cn : ∀ h ∈ p, cntL h ≤ 24) : ((p.map txH).map (·.length)).sum ≤ 1500 * p.length := by
  induction p with
  | nil => simp
  | cons h r ih =>
    have := ih (fun x hx => ok x (List.mem_cons_of_mem _ hx)) (fun x hx => cn x (List.mem_cons_of_mem _ hx))
    have := txH_len (ok h List.mem_cons_self)
    have := cn h List.mem_cons_self
    simp only [List.map_cons, List.sum_cons, List.length_cons]
    rw [len_tl]; omega
omit Q in
theorem txH_nil : txH [] = "-" := by unfold txH; rw [wdH, jn_one]
theorem showP_p {p : List (List Stm)} (hp : OkP p) (k : Nat) (S : Store) : ∃ S', run q W (k + 14) 892 [dP p] S = some (.str (txP p), S') ∧ Kp [] S S' := by
  have l1 := hp.l1
  obtain ⟨S', c1, c2, c3⟩ := er_lcG (q := q) (W := W) (k := k + 13) (i := .itv (.var 0)) (a := .ife (.cmp .gt (.bi .len (.cons (.var 1) .nil)) (.lit (.int 0))) (.call 891 [0] (.cons (.var 1) .nil) .nil) (.lit (.str "-"))) (t := .nm 1) (own := [1]) (e := [some (dP p), none]) (S := S) dL (fun h => .str (txH h))
    (itv_tup (er_var rfl)) (fun _ _ => rfl) (by rw [sizeLine_eq]; omega) (fun h hh S1 hS => by
      by_cases q0 : h = []
      · subst q0
        refine ⟨[some (dP p), some (dL [])], S1, rfl, ?_, Kp.refl _ _⟩
        rw [txH_nil]
        exact er_ife_f (er_cmp (er_bi (er_cons (er_var rfl) er_nil) b_lenT) (er_lit rfl) (c_gt_f (by decide))) (er_lit rfl)
      · obtain ⟨S2, r1, r2⟩ := showL_p Q (W := W) (hp.ok h hh) q0 (hp.cn h hh) k S1
        refine ⟨[some (dP p), some (dL h)], S2, rfl, er_ife_t (er_cmp (er_bi (er_cons (er_var rfl) er_nil) b_lenT) (er_lit rfl) (c_gt_t ?_)) (er_call (er_cons (er_var rfl) er_nil) er_nil rfl r1), r2⟩
        have : 1 ≤ h.length := by cases h with
          | nil => exact (q0 rfl).elim
          | cons s r => simp
        rw [List.length_map]; omega)
  refine ⟨S', ?_, c2⟩
  have hs := txH_sum hp.ok hp.cn
  have e1 : (" || " : Str).length = 4 := by decide +kernel
  refine' run_rt (e0 := [some _, none]) Q.f892 rfl rfl ?h
  case h =>
    unfold b_892
    exact es_rt (es_ret (er_mt (er_lit rfl) (er_cons c1 er_nil) rfl (b_join (ws := p.map txH) (l_lst (by rw [c3, List.map_map]; rfl)) (by rw [List.length_map, e1]; omega))))
/-! ### the law's own texts -/
theorem line_p : ∀ (m : Nat), m ≤ 20 → ∀ (s : Stm), okS m s → cntS s ≤ 24 → ∀ (k : Nat) (S : Store), ∃ S', run q W (k + 2 * m) 923 [encS s] S = some (.str (txS s), S') ∧ Kp [] S S' := by
  intro m
  induction m with
  | zero => intro _ s h; exact h.elim
  | succ m ih =>
    intro hm20'
    have hm20 : m ≤ 20 := by omega
    have ih := ih hm20
    have blk : ∀ (l : List Stm), okL m l → cntL l ≤ 24 → ∀ (k : Nat) (S : Store), ∃ S', run q W (k + 2 * m + 1) 922 [dL l] S = some (.str (txB l), S') ∧ Kp [] S S' := by
      intro l hl hc k S
      have hlen := cntL_len l
      cases l with
      | nil =>
        refine ⟨S, ?_, Kp.refl _ _⟩
        refine' run_rt (e0 := [some _, none]) Q.f922 rfl rfl ?h
        case h =>
          unfold b_922
          rw [txB_nil]
          exact es_rt (es_if_t (er_cmp (er_var rfl) (er_tup er_nil (Nat.zero_le _)) rfl) (es_rt (es_ret (er_lit rfl))))
      | cons s r =>
        have e1 : (" ; " : Str).length = 3 := by decide +kernel
        have hlen2 := txH_len hl
        have e2 : (tl ("{ " : Str)).length = 2 := by decide +kernel
        have e3 : (tl (" }" : Str)).length = 2 := by decide +kernel
        obtain ⟨S', c1, c2⟩ := lc_join Q (W := W) (f := 923) (k + 2 * m) S (e := [some (dL (s :: r)), none]) (y := " ; ") encS txS (l := s :: r) (j := 0) rfl (n := 1) (fun d => ⟨_, fun _ => rfl, rfl⟩)
          (fun s hs S => ih s (hl s hs) (by have := cntL_mem hs; omega) k S) (by omega) (by have := txS_sum hl; rw [e1]; omega)
        refine ⟨S', ?_, c2⟩
        have hm : m ≤ 20 := hm20
        have z : cmpop .eq (dL (s :: r)) (.tup []) S = some false := eq_tnil (nwL hl) (by omega)
        refine' run_rt (e0 := [some _, none]) Q.f922 rfl rfl ?h
        case h =>
          unfold b_922
          rw [txB_cons, txH_cons]
          rw [txH_cons] at hlen2
          refine es_nx (es_if_f (er_cmp (er_var rfl) (er_tup er_nil (Nat.zero_le _)) z) es_skip) (es_rt (es_ret ?_))
          exact er_bin (er_bin (er_lit rfl) c1 (o_addS (by omega))) (er_lit rfl) (o_addS (by rw [tl_append, List.length_append]; omega))
    intro s h hc k S
    have hF : k + 2 * (m + 1) = k + 2 * m + 1 + 1 := by omega
    rw [hF]
    cases s with
    | pl nm as =>
      have hp : Pl nm as := h
      have hw := pl_wl hp
      obtain ⟨S', c1, c2⟩ := lc_words Q (W := W) (k + 2 * m + 1) S (e := [some (.tup ((Arg.md nm :: as).map encA)), none]) (i := 0) (as := .md nm :: as) (pl_A hp) (by omega) rfl (fun d => ⟨_, rfl, rfl⟩) (fun _ _ _ => rfl)
      obtain ⟨ks, h1, _⟩ := hp
      obtain ⟨_, _, n1, n2, _⟩ := form_at h1
      refine ⟨S', ?_, c2⟩
      have e0 : encS (.pl nm as) = .tup ((Arg.md nm :: as).map encA) := enc_pl nm as
      have e1 : txS (.pl nm as) = jn ((Arg.md nm :: as).map wA) := by unfold txS; rw [wd_pl]; rfl
      rw [e0, e1]
      refine' run_rt (e0 := [some _, none]) Q.f923 rfl rfl ?h
      case h =>
        unfold b_923
        have i0 : ev (pm q W (k + 2 * m + 1)) (.idx (.var 0) (.lit (.int 0))) [some (.tup ((Arg.md nm :: as).map encA)), none] S = some (.str nm, S) := er_idx (er_var rfl) (er_lit rfl) (i_tup (atN (n := 0) rfl))
        refine es_nx (es_if_f (er_cmp i0 (er_lit rfl) (c_str_f n1)) es_skip) (es_nx (es_if_f (er_cmp i0 (er_lit rfl) (c_str_f n2)) es_skip) ?_)
        exact es_rt (es_ret c1)
    | ife v a b =>
      obtain ⟨hv, ha, hb⟩ := h
      rw [cntS_ife] at hc
      obtain ⟨S2, a2, k2⟩ := blk a ha (by omega) k S
      obtain ⟨S3, a3, k3⟩ := blk b hb (by omega) k S2
      refine ⟨S3, ?_, k2.trans k3⟩
      have hA := txB_len ha
      have hB := txB_len hb
      have hN := len_num (n := v) (by omega)
      have e1 : (tl (" " : Str)).length = 1 := by decide +kernel
      have e2 : (tl ("if " : Str)).length = 3 := by decide +kernel
      have eJ : jn [kI, numS v] = "if " ++ numS v := by
        have : [kI, numS v] = [kI] ++ [numS v] := rfl
        rw [this, jn_app (by simp) (by simp), jn_one, jn_one]
        have e : ("if " : Str) = kI ++ kB := by decide +kernel
        rw [e]
      rw [enc_ife, txS_ife, eJ]
      refine' run_rt (e0 := [some _, none]) Q.f923 rfl rfl ?h
      case h =>
        unfold b_923
        have i0 : ev (pm q W (k + 2 * m + 1)) (.idx (.var 0) (.lit (.int 0))) [some (.tup [.str "if", .int v, dL a, dL b]), none] S = some (.str "if", S) := er_idx (er_var rfl) (er_lit rfl) (i_tup (atN (n := 0) rfl))
        refine es_rt (es_if_t (er_cmp i0 (er_lit rfl) (c_str_t rfl)) (es_rt (es_ret ?_)))
        refine er_bin (er_bin (er_bin (er_bin (er_bin (er_lit rfl) (er_bi (er_cons (er_idx (er_var rfl) (er_lit rfl) (i_tup (atN (n := 1) rfl))) er_nil) (b_strI (by omega))) (o_addS ?_)) (er_lit rfl) (o_addS ?_)) (er_call (er_cons (er_idx (er_var rfl) (er_lit rfl) (i_tup (atN (n := 2) rfl))) er_nil) er_nil rfl a2) (o_addS ?_)) (er_lit rfl) (o_addS ?_)) (er_call (er_cons (er_idx (er_var rfl) (er_lit rfl) (i_tup (atN (n := 3) rfl))) er_nil) er_nil rfl a3) (o_addS ?_)
        all_goals ((try simp only [tl_append, List.length_append]); omega)
    | agn v a =>
      obtain ⟨hv, ha⟩ := h
      rw [cntS_agn] at hc
      obtain ⟨S2, a2, k2⟩ := blk a ha (by omega) k S
      refine ⟨S2, ?_, k2⟩
      have hA := txB_len ha
      have hN := len_num (n := v) (by omega)
      have e1 : (tl (" " : Str)).length = 1 := by decide +kernel
      have e2 : (tl ("again " : Str)).length = 6 := by decide +kernel
      have eJ : jn [kA, numS v] = "again " ++ numS v := by
        have : [kA, numS v] = [kA] ++ [numS v] := rfl
        rw [this, jn_app (by simp) (by simp), jn_one, jn_one]
        have e : ("again " : Str) = kA ++ kB := by decide +kernel
        rw [e]
      rw [enc_agn, txS_agn, eJ]
      refine' run_rt (e0 := [some _, none]) Q.f923 rfl rfl ?h
      case h =>
        unfold b_923
        have i0 : ev (pm q W (k + 2 * m + 1)) (.idx (.var 0) (.lit (.int 0))) [some (.tup [.str "again", .int v, dL a]), none] S = some (.str "again", S) := er_idx (er_var rfl) (er_lit rfl) (i_tup (atN (n := 0) rfl))
        refine es_nx (es_if_f (er_cmp i0 (er_lit rfl) (c_str_f (by decide))) es_skip) (es_rt (es_if_t (er_cmp i0 (er_lit rfl) (c_str_t rfl)) (es_rt (es_ret ?_))))
        refine er_bin (er_bin (er_bin (er_lit rfl) (er_bi (er_cons (er_idx (er_var rfl) (er_lit rfl) (i_tup (atN (n := 1) rfl))) er_nil) (b_strI (by omega))) (o_addS ?_)) (er_lit rfl) (o_addS ?_)) (er_call (er_cons (er_idx (er_var rfl) (er_lit rfl) (i_tup (atN (n := 2) rfl))) er_nil) er_nil rfl a2) (o_addS ?_)
        all_goals ((try simp only [tl_append, List.length_append]); omega)
end
end Tm

set_option Elab.async false
set_option linter.all false
set_option maxRecDepth 100000
set_option maxHeartbeats 8000000
namespace Tm
open PySem L2 TL
theorem er_izipST {q : Pr} {W k : Nat} {e : Env'} {S S1 S2 : Store} {a b : C} {xs : List D} {z : Str} (h1 : ev (pm q W k) a e S = some (.str z, S1)) (h2 : ev (pm q W k) b e S1 = some (.tup xs, S2)) :
    ev (pm q W k) (.izip a b) e S = some (itD (zipF (z.cps.toList.map fun c => D.str ⟨#[c]⟩) xs) [], S2) := by
  simp only [ev, h1, h2, Option.bind_some]
theorem b_sum {n : Nat} {S : Store} {is : List Int} (h : listAt S n = some (is.map D.int)) : biop .sum [.ref n] S = some (.int is.sum, S) := by
  have e : ∀ is : List Int, intsD (is.map D.int) = some is := fun is => by
    induction is with
    | nil => rfl
    | cons i r ih => simp only [List.map_cons, intsD, ih, Option.map_some]
  show ((listAt S n).bind fun xs => (intsD xs).map fun is => (D.int is.sum, S)) = _
  rw [h]
  show ((intsD (is.map D.int)).map fun is => (D.int is.sum, S)) = _
  rw [e]; rfl
theorem ty_fin {d : D} {S : Store} {t : Ty} {b : Bool} (h : tyop d t S = some b) {q : Pr} {W k : Nat} {e : Env'} {a : C} (h1 : ev (pm q W k) a e S = some (d, S)) : ev (pm q W k) (.isty a t) e S = some (.bl b, S) := er_isty h1 h
/-- what the tables hold -/
theorem kd6_ok : (formList.all fun p => match lookK (kdK71 6) p.1 with | some (.str z) => decide (tl z = p.2) | _ => false) = true := by decide +kernel
theorem kd7_ok : (modeList.all fun p => match lookK (kdK71 7) p.1 with | some (.tup ms) => ms.all isScal && ms.any (fun y => scEq y (.str p.2)) | _ => false) = true := by decide +kernel
theorem form_look {nm : Str} {ks : List Nat} (h : (nm, ks) ∈ formList) : ∃ z, lookK (kdK71 6) nm = some (.str z) ∧ tl z = ks := by
  have := List.all_eq_true.mp kd6_ok _ h
  simp only at this
  split at this
  · rename_i z e; exact ⟨z, e, of_decide_eq_true this⟩
  · cases this
theorem mode_look {nm x : Str} (h : (nm, x) ∈ modeList) : ∃ ms, lookK (kdK71 7) nm = some (.tup ms) ∧ ms.all isScal = true ∧ (ms.any fun y => scEq y (.str x)) = true := by
  have := List.all_eq_true.mp kd7_ok _ h
  simp only at this
  split at this
  · rename_i ms e; rw [Bool.and_eq_true] at this; exact ⟨ms, e, this.1, this.2⟩
  · cases this
section
variable {q : Pr} (Q : HK q) {W : Nat}
include Q
theorem text_p {p : List (List Stm)} (hp : OkP p) (k : Nat) (S : Store) : ∃ S', run q W (k + 10) 924 [dP p] S = some (.str (txP p), S') ∧ Kp [] S S' := by
  have l1 := hp.l1
  obtain ⟨S', c1, c2, c3⟩ := er_lcG (q := q) (W := W) (k := k + 9) (i := .itv (.var 0)) (a := .ife (.cmp .ne (.var 1) (.tup .nil)) (.mt .join (.lit (.str " ; ")) (.cons (.lc (.itv (.var 1)) (.nm 2) (.lit (.bl true)) (.call 923 [0] (.cons (.var 2) .nil) .nil) [2]) .nil)) (.lit (.str "-"))) (t := .nm 1) (own := [1])
    (e := [some (dP p), none, none]) (S := S) dL (fun h => .str (txH h))
    (itv_tup (er_var rfl)) (fun _ _ => rfl) (by rw [sizeLine_eq]; omega) (fun h hh S1 hS => by
      have ok := hp.ok h hh
      have cn := hp.cn h hh
      have hlen := cntL_len h
      have z : ∀ S, cmpop .ne (dL h) (.tup []) S = some (!h.isEmpty) := fun S => by
        have := ne_tnil (S := S) (nwL ok) (by omega)
        rw [List.isEmpty_map] at this; exact this
      cases h with
      | nil =>
        refine ⟨[some (dP p), some (dL []), none], S1, rfl, ?_, Kp.refl _ _⟩
        rw [txH_nil]
        exact er_ife_f (er_cmp (er_var rfl) (er_tup er_nil (Nat.zero_le _)) (z S1)) (er_lit rfl)
      | cons s r =>
        have e1 : (" ; " : Str).length = 3 := by decide +kernel
        obtain ⟨S2, c1, c2⟩ := lc_join Q (W := W) (f := 923) (k + 9) S1 (e := [some (dP p), some (dL (s :: r)), none]) (y := " ; ") encS txS (l := s :: r) (j := 1) rfl (n := 2) (fun d => ⟨_, fun _ => rfl, rfl⟩)
          (fun s' hs S => line_p Q (W := W) 4 (by decide) s' (ok s' hs) (by have := cntL_mem hs; omega) (k + 1) S) (by omega) (by have := txS_sum ok; rw [e1]; omega)
        refine ⟨_, S2, rfl, ?_, c2⟩
        rw [txH_cons]
        exact er_ife_t (er_cmp (er_var rfl) (er_tup er_nil (Nat.zero_le _)) (z S1)) c1)
  refine ⟨S', ?_, c2⟩
  have hs := txH_sum hp.ok hp.cn
  have e1 : (" || " : Str).length = 4 := by decide +kernel
  refine' run_rt (e0 := [some _, none, none]) Q.f924 rfl rfl ?h
  case h =>
    unfold b_924
    exact es_rt (es_ret (er_mt (er_lit rfl) (er_cons c1 er_nil) rfl (b_join (ws := p.map txH) (l_lst (by rw [c3, List.map_map]; rfl)) (by rw [List.length_map, e1]; omega))))
/-! ### what is a program -/
theorem isint_p (k : Nat) (S : Store) (n : Int) : run q W (k + 1) 15 [.int n] S = some (.bl true, S) := by
  refine' run_rt (e0 := [some _]) Q.f15 rfl rfl ?h
  case h =>
    unfold b_15
    exact es_rt (es_ret (er_and_t (er_isty (er_var rfl) rfl) (er_not_t (er_isty (er_var rfl) rfl))))
theorem betw_p (k : Nat) (S : Store) {v lo hi : Int} (h1 : lo ≤ v) (h2 : v ≤ hi) : run q W (k + 2) 16 [.int v, .int lo, .int hi] S = some (.bl true, S) := by
  have a1 := isint_p Q (W := W) k S v
  refine' run_rt (e0 := [some _, some _, some _]) Q.f16 rfl rfl ?h
  case h =>
    unfold b_16
    exact es_rt (es_ret (er_and_t (er_call (er_cons (er_var rfl) er_nil) er_nil rfl a1) (er_chain_t (er_var rfl) (er_var rfl) (c_le_t h1) (er_var rfl) (c_le_t h2))))
theorem word_p (k : Nat) (S : Store) {v : Nat} (h : v ≤ 65535) : run q W (k + 3) 17 [.int v] S = some (.bl true, S) := by
  have a1 := betw_p Q (W := W) k S (v := v) (lo := 0) (hi := 65535) (by omega) (by omega)
  refine' run_rt (e0 := [some _]) Q.f17 rfl rfl ?h
  case h =>
    unfold b_17
    exact es_rt (es_ret (er_call (er_cons (er_var rfl) (er_cons (er_lit rfl) (er_cons (er_lit rfl) er_nil))) er_nil rfl a1))
theorem oneof_p (k : Nat) (S : Store) {x : Str} {ms : List D} (h : ms.all isScal = true) (h2 : (ms.any fun y => scEq y (.str x)) = true) : run q W (k + 1) 129 [.str x, .tup ms] S = some (.bl true, S) := by
  refine' run_rt (e0 := [some _, some _]) Q.f129 rfl rfl ?h
  case h =>
    unfold b_129
    exact es_rt (es_ret (er_and_t (er_isty (er_var rfl) rfl) (er_cmp (er_var rfl) (er_var rfl) (c_inT rfl h h2))))
theorem part_p (k : Nat) (S : Store) {nm : Str} {c : Nat} {a : Arg} (h : Fit nm c a) : run q W (k + 4) 894 [.str nm, .str ⟨#[c]⟩, encA a] S = some (.bl true, S) := by
  cases h with
  | v n h =>
    have a1 := betw_p Q (W := W) (k + 1) S (v := n) (lo := 0) (hi := 5) (by omega) (by omega)
    refine' run_rt (e0 := [some _, some _, some (.int n)]) Q.f894 rfl rfl ?h
    case h =>
      unfold b_894
      exact es_nx (es_if_f (er_cmp (er_var rfl) (er_lit rfl) (c_str_f (by decide +kernel))) es_skip) (es_rt (es_ret (er_ife_t (er_cmp (er_var rfl) (er_lit rfl) (c_str_t (by decide +kernel))) (er_call (er_cons (er_var rfl) (er_cons (er_lit rfl) (er_cons (er_lit rfl) er_nil))) er_nil rfl a1))))
  | w n h =>
    have a1 := word_p Q (W := W) k S (v := n) h
    refine' run_rt (e0 := [some _, some _, some (.int n)]) Q.f894 rfl rfl ?h
    case h =>
      unfold b_894
      exact es_nx (es_if_f (er_cmp (er_var rfl) (er_lit rfl) (c_str_f (by decide +kernel))) es_skip) (es_rt (es_ret (er_ife_f (er_cmp (er_var rfl) (er_lit rfl) (c_str_f (by decide +kernel))) (er_call (er_cons (er_var rfl) er_nil) er_nil rfl a1))))
  | m x h =>
    obtain ⟨ms, m1, m2, m3⟩ := mode_look h
    have a1 := oneof_p Q (W := W) (k + 2) S m2 m3
    refine' run_rt (e0 := [some _, some _, some (.str x)]) Q.f894 rfl rfl ?h
    case h =>
      unfold b_894
      exact es_rt (es_if_t (er_cmp (er_var rfl) (er_lit rfl) (c_str_t (by decide +kernel))) (es_rt (es_ret (er_call (er_cons (er_var rfl) (er_cons (er_kget (er_var rfl) (by rw [Q.k7]; exact m1)) er_nil)) er_nil rfl a1))))
theorem plain_p (k : Nat) (S : Store) {nm : Str} {as : List Arg} (h : Pl nm as) : ∃ S', run q W (k + 5) 895 [encS (.pl nm as)] S = some (.bl true, S') ∧ Kp [] S S' := by
  obtain ⟨ks, h1, h2⟩ := h
  obtain ⟨z, z1, z2⟩ := form_look h1
  have hl := h2.len
  obtain ⟨_, _, _, _, _, _, _, hk⟩ := form_at h1
  have hz : (tl z).length = as.length := by rw [z2, hl]
  have i0 : ∀ (e : Env') (S : Store), e[0]? = some (some (encS (.pl nm as))) → ev (pm q W (k + 4)) (.idx (.var 0) (.lit (.int 0))) e S = some (.str nm, S) := fun e S he => er_idx (er_var he) (er_lit rfl) (by rw [enc_pl]; exact i_tup (atN (n := 0) rfl))
  have fz : zipF (z.cps.toList.map fun c => D.str ⟨#[c]⟩) (as.map encA) = (ks.zip as).map fun p => D.tup [.str ⟨#[p.1]⟩, encA p.2] := by
    rw [zipF_map, show z.cps.toList = ks from z2]
  obtain ⟨S', c1, c2, c3⟩ := er_lcG (q := q) (W := W) (k := k + 4) (i := .izip (.kget 6 (.idx (.var 0) (.lit (.int 0)))) (.slc (.var 0) (.lit (.int 1)) .absent)) (a := .call 894 [0, 1, 2] (.cons (.idx (.var 0) (.lit (.int 0))) (.cons (.var 1) (.cons (.var 2) .nil))) .nil) (t := .tp 2 (.cons (.nm 1) (.cons (.nm 2) .nil))) (own := [1, 2])
    (e := [some (encS (.pl nm as)), none, none]) (S := S) (ds := ks.zip as) (S1 := S) (cks := []) (fun p => D.tup [.str ⟨#[p.1]⟩, encA p.2]) (fun _ => .bl true)
    (by
      rw [← fz]
      refine er_izipST (er_kget (i0 _ S rfl) (by rw [Q.k6]; exact z1)) ?_
      have := er_slc_from (q := q) (W := W) (k := k + 4) (e := [some (encS (.pl nm as)), none, none]) (S := S) (S1 := S) (S2 := S) (a := .var 0) (b := .lit (.int 1)) (xs := .str nm :: as.map encA) (i := 1) (er_var (by rw [enc_pl]; rfl)) rfl (er_lit rfl) (by decide)
      exact this)
    (fun _ _ => rfl) (by rw [sizeLine_eq, List.length_zip]; omega) (fun p hp S1 hS => by
      have hf : Fit nm p.1 p.2 := by
        clear fz z1 z2 hz hl hk h1 hS i0
        induction h2 with
        | nil => cases hp
        | cons h _ ih =>
          rw [List.zip_cons_cons, List.mem_cons] at hp
          rcases hp with rfl | hp
          · exact h
          · exact ih hp
      refine ⟨[some (encS (.pl nm as)), some (.str ⟨#[p.1]⟩), some (encA p.2)], S1, rfl, ?_, Kp.refl _ _⟩
      exact er_call (er_cons (i0 _ S1 rfl) (er_cons (er_var rfl) (er_cons (er_var rfl) er_nil))) er_nil rfl (part_p Q (W := W) k S1 hf))
  have c4 := b_all (l_lst c3) (fun d hd => by obtain ⟨_, _, rfl⟩ := List.mem_map.mp hd; rfl)
  refine ⟨S', ?_, c2⟩
  refine' run_rt (e0 := [some _, none, none]) Q.f895 rfl rfl ?h
  case h =>
    unfold b_895
    refine es_nx (es_if_f (er_or_f (er_kin (i0 _ S rfl) (t := false) (by rw [Q.k6, z1]; rfl)) (er_cmp (S2 := S) (x := .int (as.length + 1)) (y := .int (as.length + 1)) (er_bi (er_cons (er_var rfl) er_nil) (by rw [enc_pl, b_lenT]; simp)) (er_bin (er_bi (er_cons (er_kget (i0 _ S rfl) (by rw [Q.k6]; exact z1)) er_nil) (b_lenS (by omega))) (er_lit rfl) (by rw [o_add, hz])) (c_ne_f rfl))) es_skip) ?_
    exact es_rt (es_ret (er_bi (er_cons c1 er_nil) c4))
end
end Tm

set_option Elab.async false
set_option linter.all false
set_option maxRecDepth 100000
set_option maxHeartbeats 8000000
namespace Tm
open PySem L2 TL
theorem sum_cnt : ∀ l : List Stm, (l.map fun s => ((cntS s : Nat) : Int)).sum = (cntL l : Int)
  | [] => by rw [cntL_nil]; rfl
  | s :: r => by rw [List.map_cons, List.sum_cons, sum_cnt r, cntL_cons]; omega
theorem c_neN {S : Store} {i j : Int} (h : i = j) : cmpop .ne (.int i) (.int j) S = some false := c_ne_f h
section
variable {q : Pr} (Q : HK q) {W : Nat}
include Q
theorem head_p (k : Nat) (S : Store) {x : Str} {r : List D} {lv : Nat} (h : lv ≤ 4) :
    ev (pm q W k) (.or_ (.not_ (.isty (.var 0) .tuple)) (.or_ (.cmp .eq (.bi .len (.cons (.var 0) .nil)) (.lit (.int 0))) (.or_ (.not_ (.isty (.idx (.var 0) (.lit (.int 0))) .str)) (.cmp .gt (.var 1) (.lit (.int 4)))))) [some (.tup (.str x :: r)), some (.int lv)] S = some (.bl false, S) :=
  er_or_f (er_not_f (er_isty (er_var rfl) rfl)) (er_or_f (er_cmp (er_bi (er_cons (er_var rfl) er_nil) b_lenT) (er_lit rfl) (c_eq_f (by rw [List.length_cons]; omega)))
    (er_or_f (er_not_f (er_isty (er_idx (er_var rfl) (er_lit rfl) (i_tup (atN (n := 0) rfl))) rfl)) (er_cmp (er_var rfl) (er_lit rfl) (c_gt_f (by omega)))))
theorem cnt_p : ∀ (m : Nat) (s : Stm), okS m s → cntS s ≤ 24 → ∀ (lv : Nat), lv + m = 5 → ∀ (k : Nat) (S : Store), ∃ S', run q W (k + 2 * m + 5) 896 [encS s, .int lv] S = some (.int (cntS s), S') ∧ Kp [] S S' := by
  intro m
  induction m with
  | zero => intro s h; exact h.elim
  | succ m ih =>
    have lst : ∀ (l : List Stm), okL m l → cntL l ≤ 24 → ∀ (lv : Nat), lv + m = 5 → ∀ (k : Nat) (S : Store), ∃ S', run q W (k + 2 * m + 6) 897 [dL l, .int lv] S = some (.int (cntL l), S') ∧ Kp [] S S' := by
      intro l hl hc lv hv k S
      have hlen := cntL_len l
      obtain ⟨S', c1, c2, c3⟩ := er_lcG (q := q) (W := W) (k := k + 2 * m + 5) (i := .itv (.var 0)) (a := .call 896 [0, 1] (.cons (.var 2) (.cons (.var 1) .nil)) .nil) (t := .nm 2) (own := [2]) (e := [some (dL l), some (.int lv), none]) (S := S) encS (fun s => .int (cntS s))
        (itv_tup (er_var rfl)) (fun _ _ => rfl) (by rw [sizeLine_eq]; omega) (fun s hs S1 hS => by
          obtain ⟨S2, r1, r2⟩ := ih s (hl s hs) (by have := cntL_mem hs; omega) lv hv k S1
          exact ⟨[some (dL l), some (.int lv), some (encS s)], S2, rfl, er_call (er_cons (er_var rfl) (er_cons (er_var rfl) er_nil)) er_nil rfl r1, r2⟩)
      refine ⟨S', ?_, c2⟩
      have c4 : listAt S' S.length = some ((l.map fun s => ((cntS s : Nat) : Int)).map D.int) := l_lst (by rw [c3, List.map_map]; rfl)
      refine' run_rt (e0 := [some _, some _, none]) Q.f897 rfl rfl ?h
      case h =>
        unfold b_897
        refine' es_nx (es_if_f (er_or_f (er_not_f (er_isty (er_var rfl) rfl)) (er_cmp (er_bi (er_cons (er_var rfl) er_nil) b_lenT) (er_lit rfl) (c_gt_f (by rw [List.length_map]; omega)))) es_skip) ?_
        exact es_rt (es_ret (er_bi (er_cons c1 er_nil) (by rw [b_sum c4, sum_cnt])))
    intro s h hc lv hv k S
    have hF : k + 2 * (m + 1) + 5 = k + 2 * m + 6 + 1 := by omega
    rw [hF]
    cases s with
    | pl nm as =>
      have hp : Pl nm as := h
      obtain ⟨S', a1, a2⟩ := plain_p Q (W := W) (k + 2 * m + 1) S hp
      obtain ⟨ks, h1, _⟩ := hp
      obtain ⟨_, _, n1, n2, _⟩ := form_at h1
      refine ⟨S', ?_, a2⟩
      rw [enc_pl] at a1 ⊢
      rw [cntS_pl]
      have i0 : ev (pm q W (k + 2 * m + 6)) (.idx (.var 0) (.lit (.int 0))) [some (.tup (.str nm :: as.map encA)), some (.int lv)] S = some (.str nm, S) := er_idx (er_var rfl) (er_lit rfl) (i_tup (atN (n := 0) rfl))
      refine' run_rt (e0 := [some _, some _]) Q.f896 rfl rfl ?h
      case h =>
        unfold b_896
        refine' es_nx (es_if_f (head_p Q _ _ (by omega)) es_skip) ?_
        refine' es_nx (es_if_f (er_cmp i0 (er_lit rfl) (c_str_f n1)) es_skip) (es_nx (es_if_f (er_cmp i0 (er_lit rfl) (c_str_f n2)) es_skip) ?_)
        exact es_rt (es_ret (er_ife_t (er_call (er_cons (er_var rfl) er_nil) er_nil rfl a1) (er_lit rfl)))
    | ife v a b =>
      obtain ⟨hv1, ha, hb⟩ := h
      rw [cntS_ife] at hc ⊢
      have a0 := betw_p Q (W := W) (k + 2 * m + 4) S (v := v) (lo := 0) (hi := 5) (by omega) (by omega)
      obtain ⟨S1, a1, k1⟩ := lst a ha (by omega) (lv + 1) (by omega) k S
      obtain ⟨S2, a2, k2⟩ := lst b hb (by omega) (lv + 1) (by omega) k S1
      refine ⟨S2, ?_, k1.trans k2⟩
      rw [enc_ife]
      have i0 : ev (pm q W (k + 2 * m + 6)) (.idx (.var 0) (.lit (.int 0))) [some (.tup [.str "if", .int v, dL a, dL b]), some (.int lv)] S = some (.str "if", S) := er_idx (er_var rfl) (er_lit rfl) (i_tup (atN (n := 0) rfl))
      have i1 : ev (pm q W (k + 2 * m + 6)) (.idx (.var 0) (.lit (.int 1))) [some (.tup [.str "if", .int v, dL a, dL b]), some (.int lv)] S = some (.int v, S) := er_idx (er_var rfl) (er_lit rfl) (i_tup (atN (n := 1) rfl))
      have n0 : ev (pm q W (k + 2 * m + 6)) (.cmp .ne (.bi .len (.cons (.var 0) .nil)) (.lit (.int 4))) [some (.tup [.str "if", .int v, dL a, dL b]), some (.int lv)] S = some (.bl false, S) := er_cmp (er_bi (er_cons (er_var rfl) er_nil) b_lenT) (er_lit rfl) (c_ne_f rfl)
      have b0 : ev (pm q W (k + 2 * m + 6)) (.call 16 [0, 1, 2] (.cons (.idx (.var 0) (.lit (.int 1))) (.cons (.lit (.int 0)) (.cons (.lit (.int 5)) .nil))) .nil) [some (.tup [.str "if", .int v, dL a, dL b]), some (.int lv)] S = some (.bl true, S) :=
        er_call (er_cons i1 (er_cons (er_lit rfl) (er_cons (er_lit rfl) er_nil))) er_nil rfl a0
      have e1 : ((1 : Int) + (cntL a : Int) + (cntL b : Int)) = ((1 + cntL a + cntL b : Nat) : Int) := by omega
      have e2 : ((lv + 1 : Nat) : Int) = (lv : Int) + 1 := by omega
      rw [e2] at a1 a2
      refine' run_rt (e0 := [some _, some _]) Q.f896 rfl rfl ?h
      case h =>
        unfold b_896
        refine' es_nx (es_if_f (head_p Q _ _ (by omega)) es_skip) ?_
        refine' es_rt (es_if_t (er_cmp i0 (er_lit rfl) (c_str_t rfl)) ?g)
        case g =>
          refine' es_nx (es_if_f (er_or_f n0 (er_not_f b0)) es_skip) ?_
          rw [← e1]
          exact es_rt (es_ret (er_bin (er_bin (er_lit rfl) (er_call (er_cons (er_idx (er_var rfl) (er_lit rfl) (i_tup (atN (n := 2) rfl))) (er_cons (er_bin (er_var rfl) (er_lit rfl) o_add) er_nil)) er_nil rfl a1) o_add) (er_call (er_cons (er_idx (er_var rfl) (er_lit rfl) (i_tup (atN (n := 3) rfl))) (er_cons (er_bin (er_var rfl) (er_lit rfl) o_add) er_nil)) er_nil rfl a2) o_add))
    | agn v a =>
      obtain ⟨hv1, ha⟩ := h
      rw [cntS_agn] at hc ⊢
      have a0 := betw_p Q (W := W) (k + 2 * m + 4) S (v := v) (lo := 0) (hi := 8) (by omega) (by omega)
      obtain ⟨S1, a1, k1⟩ := lst a ha (by omega) (lv + 1) (by omega) k S
      refine ⟨S1, ?_, k1⟩
      rw [enc_agn]
      have i0 : ev (pm q W (k + 2 * m + 6)) (.idx (.var 0) (.lit (.int 0))) [some (.tup [.str "again", .int v, dL a]), some (.int lv)] S = some (.str "again", S) := er_idx (er_var rfl) (er_lit rfl) (i_tup (atN (n := 0) rfl))
      have i1 : ev (pm q W (k + 2 * m + 6)) (.idx (.var 0) (.lit (.int 1))) [some (.tup [.str "again", .int v, dL a]), some (.int lv)] S = some (.int v, S) := er_idx (er_var rfl) (er_lit rfl) (i_tup (atN (n := 1) rfl))
      have n0 : ev (pm q W (k + 2 * m + 6)) (.cmp .ne (.bi .len (.cons (.var 0) .nil)) (.lit (.int 3))) [some (.tup [.str "again", .int v, dL a]), some (.int lv)] S = some (.bl false, S) := er_cmp (er_bi (er_cons (er_var rfl) er_nil) b_lenT) (er_lit rfl) (c_ne_f rfl)
      have b0 : ev (pm q W (k + 2 * m + 6)) (.call 16 [0, 1, 2] (.cons (.idx (.var 0) (.lit (.int 1))) (.cons (.lit (.int 0)) (.cons (.lit (.int 8)) .nil))) .nil) [some (.tup [.str "again", .int v, dL a]), some (.int lv)] S = some (.bl true, S) :=
        er_call (er_cons i1 (er_cons (er_lit rfl) (er_cons (er_lit rfl) er_nil))) er_nil rfl a0
      have e1 : ((1 : Int) + (cntL a : Int)) = ((1 + cntL a : Nat) : Int) := by omega
      have e2 : ((lv + 1 : Nat) : Int) = (lv : Int) + 1 := by omega
      rw [e2] at a1
      refine' run_rt (e0 := [some _, some _]) Q.f896 rfl rfl ?h
      case h =>
        unfold b_896
        refine' es_nx (es_if_f (head_p Q _ _ (by omega)) es_skip) ?_
        refine' es_nx (es_if_f (er_cmp i0 (er_lit rfl) (c_str_f (by decide))) es_skip) ?_
        refine' es_rt (es_if_t (er_cmp i0 (er_lit rfl) (c_str_t rfl)) ?g)
        case g =>
          refine' es_nx (es_if_f (er_or_f n0 (er_not_f b0)) es_skip) ?_
          rw [← e1]
          exact es_rt (es_ret (er_bin (er_lit rfl) (er_call (er_cons (er_idx (er_var rfl) (er_lit rfl) (i_tup (atN (n := 2) rfl))) (er_cons (er_bin (er_var rfl) (er_lit rfl) o_add) er_nil)) er_nil rfl a1) o_add))
theorem hand_p {l : List Stm} (hl : okL 4 l) (hc : cntL l ≤ 24) (k : Nat) (S : Store) : ∃ S', run q W (k + 15) 898 [dL l] S = some (.bl true, S') ∧ Kp [] S S' := by
  have hlen := cntL_len l
  obtain ⟨S', c1, c2, c3⟩ := er_lcG (q := q) (W := W) (k := k + 13) (i := .itv (.var 0)) (a := .call 896 [0, 1] (.cons (.var 2) (.cons (.var 1) .nil)) .nil) (t := .nm 2) (own := [2]) (e := [some (dL l), some (.int 1), none]) (S := S) encS (fun s => .int (cntS s))
    (itv_tup (er_var rfl)) (fun _ _ => rfl) (by rw [sizeLine_eq]; omega) (fun s hs S1 hS => by
      obtain ⟨S2, r1, r2⟩ := cnt_p Q (W := W) 4 s (hl s hs) (by have := cntL_mem hs; omega) 1 (by decide) k S1
      exact ⟨[some (dL l), some (.int 1), some (encS s)], S2, rfl, er_call (er_cons (er_var rfl) (er_cons (er_var rfl) er_nil)) er_nil rfl r1, r2⟩)
  have c4 : listAt S' S.length = some ((l.map fun s => ((cntS s : Nat) : Int)).map D.int) := l_lst (by rw [c3, List.map_map]; rfl)
  have a1 : run q W (k + 14) 897 [dL l, .int 1] S = some (.int (cntL l), S') := by
    refine' run_rt (e0 := [some _, some _, none]) Q.f897 rfl rfl ?h
    case h =>
      unfold b_897
      refine' es_nx (es_if_f (er_or_f (er_not_f (er_isty (er_var rfl) rfl)) (er_cmp (er_bi (er_cons (er_var rfl) er_nil) b_lenT) (er_lit rfl) (c_gt_f (by rw [List.length_map]; omega)))) es_skip) ?_
      exact es_rt (es_ret (er_bi (er_cons c1 er_nil) (by rw [b_sum c4, sum_cnt])))
  refine ⟨S', ?_, c2⟩
  refine' run_rt (e0 := [some _]) Q.f898 rfl rfl ?h
  case h =>
    unfold b_898
    exact es_rt (es_ret (er_cmp (er_call (er_cons (er_var rfl) (er_cons (er_lit rfl) er_nil)) er_nil rfl a1) (er_lit rfl) (c_le_t (by omega))))
theorem isprog_p {p : List (List Stm)} (hp : OkP p) (k : Nat) (S : Store) : ∃ S', run q W (k + 16) 899 [dP p] S = some (.bl true, S') ∧ Kp [] S S' := by
  have l0 := hp.l0
  have l1 := hp.l1
  obtain ⟨S', c1, c2, c3⟩ := er_lcG (q := q) (W := W) (k := k + 15) (i := .itv (.var 0)) (a := .call 898 [0] (.cons (.var 1) .nil) .nil) (t := .nm 1) (own := [1]) (e := [some (dP p), none]) (S := S) dL (fun _ => .bl true)
    (itv_tup (er_var rfl)) (fun _ _ => rfl) (by rw [sizeLine_eq]; omega) (fun h hh S1 hS => by
      obtain ⟨S2, r1, r2⟩ := hand_p Q (W := W) (hp.ok h hh) (hp.cn h hh) k S1
      exact ⟨[some (dP p), some (dL h)], S2, rfl, er_call (er_cons (er_var rfl) er_nil) er_nil rfl r1, r2⟩)
  have c4 := b_all (l_lst c3) (fun d hd => by obtain ⟨_, _, rfl⟩ := List.mem_map.mp hd; rfl)
  refine ⟨S', ?_, c2⟩
  refine' run_rt (e0 := [some _, none]) Q.f899 rfl rfl ?h
  case h =>
    unfold b_899
    exact es_rt (es_ret (er_and_t (er_isty (er_var rfl) rfl) (er_and_t (er_chain_t (er_lit rfl) (er_bi (er_cons (er_var rfl) er_nil) b_lenT) (c_le_t (by rw [List.length_map]; omega)) (er_lit rfl) (c_le_t (by rw [List.length_map]; omega))) (er_bi (er_cons c1 er_nil) c4))))
end
end Tm

set_option Elab.async false
set_option linter.all false
set_option maxRecDepth 100000
set_option maxHeartbeats 8000000
namespace Tm
open PySem L2 TL
/-! ## the reader -/
abbrev insR (T : Str) (w : Nat) (i : Nat) : O := .ins "Reader" [("text", .str T), ("words", .ref w), ("at", .int (i : Int))]
structure Rd (S : Store) (n w : Nat) (T : Str) (ws : List Str) (i : Nat) : Prop where
  hn : S[n]? = some (insR T w i)
  hw : S[w]? = some (.lst (ws.map D.str))
theorem Rd.ne {S : Store} {n w : Nat} {T : Str} {ws : List Str} {i : Nat} (h : Rd S n w T ws i) : w ≠ n := fun e => by
  have h1 := h.hn
  have h2 := h.hw
  rw [e, h1] at h2
  cases h2
theorem Rd.kp {S S' : Store} {n w : Nat} {T : Str} {ws : List Str} {i : Nat} (h : Rd S n w T ws i) (k : Kp [] S S') : Rd S' n w T ws i := ⟨k _ _ (by simp) h.hn, k _ _ (by simp) h.hw⟩
theorem Rd.set {S : Store} {n w : Nat} {T : Str} {ws : List Str} {i j : Nat} (h : Rd S n w T ws i) : Rd (S.set n (insR T w j)) n w T ws j :=
  ⟨set_get h.hn, by rw [List.getElem?_set_ne (Ne.symm h.ne)]; exact h.hw⟩
theorem Rd.lt {S : Store} {n w : Nat} {T : Str} {ws : List Str} {i : Nat} (h : Rd S n w T ws i) : n < S.length := (List.getElem?_eq_some_iff.mp h.hn).1
theorem fld_text {S : Store} {n w : Nat} {T : Str} {i : Nat} (h : S[n]? = some (insR T w i)) : fldS ["Reader"] "text" (.ref n) S = some (.str T) := by
  simp only [fldS, insAt, h]; rfl
theorem fld_words {S : Store} {n w : Nat} {T : Str} {i : Nat} (h : S[n]? = some (insR T w i)) : fldS ["Reader"] "words" (.ref n) S = some (.ref w) := by
  simp only [fldS, insAt, h]; rfl
theorem fld_at {S : Store} {n w : Nat} {T : Str} {i : Nat} (h : S[n]? = some (insR T w i)) : fldS ["Reader"] "at" (.ref n) S = some (.int i) := by
  simp only [fldS, insAt, h]; rfl
theorem put_at' {S : Store} {n w : Nat} {T : Str} {i : Nat} (h : S[n]? = some (insR T w i)) : putfS ["Reader"] "at" (.ref n) (.int ((i : Int) + 1)) S = some (S.set n (insR T w (i + 1))) := by
  simp only [putfS, insAt, h]; rfl
section
variable {q : Pr} (Q : HK q) {W : Nat}
include Q
theorem numeral_p (k : Nat) (S : Store) {n : Nat} (hn : n < 100000) : ∃ S', run q W (k + 1) 893 [.str (numS n), .int 31] S = some (.bl true, S') ∧ Kp [] S S' := by
  have hl : (numL n).length ≤ 5 := numL_len (by decide) hn
  have hp : 1 ≤ (numL n).length := by
    cases e : numL n with
    | nil => exact absurd e (numL_ne n)
    | cons _ _ => simp
  have et := tl_numS n
  have hT : (tl (numS n)).length = (numL n).length := by rw [et]
  obtain ⟨S', c1, c2, c3⟩ := er_lcM (q := q) (W := W) (k := k) (i := .itv (.var 0)) (a := .cmp .in_ (.var 2) (.glob 2)) (t := .nm 2) (own := [2]) (e := [some (.str (numS n)), some (.int 31), none]) (S := S) (fun _ => .bl true)
    (itv_str (er_var rfl)) (fun _ _ => rfl) (by rw [chars_len, sizeLine_eq]; omega) (fun d hd S hS => by
      obtain ⟨u, hu, rfl⟩ := mem_chars hd
      refine ⟨[some (.str (numS n)), some (.int 31), some (.str ⟨#[u]⟩)], S, rfl, ?_, Kp.refl _ _⟩
      have a1 : cmpop .in_ (.str ⟨#[u]⟩) (.str digs) S = some true := by
        rw [c_inS, decide_eq_true]
        exact dg_mem (num_dg (n := n) (by rw [← et]; exact hu))
      exact er_cmp (er_var rfl) (er_glob Q.g2) a1)
  have c4 := b_all (l_lst c3) (fun d hd => by obtain ⟨_, _, rfl⟩ := List.mem_map.mp hd; rfl)
  have z : ev (pm q W k) (.or_ (.cmp .eq (.var 0) (.lit (.str "0"))) (.cmp .ne (.idx (.var 0) (.lit (.int 0))) (.lit (.str "0")))) [some (.str (numS n)), some (.int 31), none] S' = some (.bl true, S') := by
    by_cases n0 : n = 0
    · subst n0
      exact er_or_t (er_cmp (er_var rfl) (er_lit rfl) (c_str_t (by decide +kernel)))
    · obtain ⟨c, r, g1, g2⟩ := num_head n (by omega)
      have t0 : tl ("0" : Str) = [48] := by decide +kernel
      have g3 : ¬ (numS n = "0") := fun e => by
        have := congrArg tl e
        rw [et, g1, t0] at this
        exact g2 (List.cons.inj this).1
      have g4 : ¬ ((⟨#[c]⟩ : Str) = "0") := fun e => by
        have := congrArg tl e
        rw [t0] at this
        exact g2 (List.cons.inj this).1
      exact er_or_f (er_cmp (er_var rfl) (er_lit rfl) (c_str_f g3)) (er_cmp (er_idx (er_var rfl) (er_lit rfl) (i_str0 (by rw [et]; exact g1) (by omega))) (er_lit rfl) (c_strn_t g4))
  refine ⟨S', ?_, c2⟩
  refine' run_rt (e0 := [some _, some _, none]) Q.f893 rfl rfl ?h
  case h =>
    unfold b_893
    exact es_nx (es_if_f (er_or_f (er_not_f (er_chain_t (er_lit rfl) (er_bi (er_cons (er_var rfl) er_nil) (b_lenS (by omega))) (c_le_t (by omega)) (er_var rfl) (c_le_t (by omega)))) (er_not_f (er_bi (er_cons c1 er_nil) c4))) es_skip)
      (es_rt (es_ret z))
variable {S : Store} {n w i : Nat} {T : Str} {ws : List Str}
theorem next_p (k : Nat) (h : Rd S n w T ws i) : run q W (k + 1) 900 [.ref n] S = some (.str (ws.getD i ""), S) := by
  have hA := fld_at h.hn
  have hB := fld_words h.hn
  have hL : listAt S w = some (ws.map D.str) := l_lst h.hw
  refine' run_rt (e0 := [some (.ref n)]) Q.f900 rfl rfl ?h
  case h =>
    unfold b_900
    by_cases q0 : i < ws.length
    · have hd : (ws.map D.str)[i]? = some (.str (ws.getD i "")) := by
        rw [List.getElem?_map, List.getD_eq_getElem?_getD, List.getElem?_eq_getElem q0]; rfl
      exact es_rt (es_ret (er_ife_t (er_cmp (er_fld (er_var rfl) hA) (er_bi (er_cons (er_fld (er_var rfl) hB) er_nil) (b_lenL hL)) (c_lt_t (by rw [List.length_map]; omega))) (er_idx (er_fld (er_var rfl) hB) (er_fld (er_var rfl) hA) (i_lst hL (atN hd)))))
    · have hd : ws.getD i "" = "" := by rw [List.getD_eq_getElem?_getD, List.getElem?_eq_none (by omega)]; rfl
      rw [hd]
      exact es_rt (es_ret (er_ife_f (er_cmp (er_fld (er_var rfl) hA) (er_bi (er_cons (er_fld (er_var rfl) hB) er_nil) (b_lenL hL)) (c_lt_f (by rw [List.length_map]; omega))) (er_lit rfl)))
theorem take_p (k : Nat) (h : Rd S n w T ws i) : run q W (k + 2) 901 [.ref n] S = some (.str (ws.getD i ""), S.set n (insR T w (i + 1))) := by
  have a1 := next_p Q (W := W) k h
  have hA := fld_at h.hn
  have hP := put_at' h.hn
  refine' run_rt (e0 := [some (.ref n), none]) Q.f901 rfl rfl ?h
  case h =>
    unfold b_901
    exact es_nx (es_asg (er_call (er_cons (er_var rfl) er_nil) er_nil rfl a1) rfl) (es_nx (es_augf (er_var rfl) hA (er_lit rfl) rfl rfl hP) (es_rt (es_ret (er_var rfl))))
/-- what is done with a reader that reads words on -/
theorem sign_p (k : Nat) {x : Str} (h : Rd S n w T ws i) (hx : ws.getD i "" = x) : run q W (k + 3) 902 [.ref n, .str x] S = some (.non, S.set n (insR T w (i + 1))) := by
  have a1 := take_p Q (W := W) k h
  rw [hx] at a1
  rw [run_at q W (k + 2) 902 _ S Q.f902 rfl]
  have : ex (pm q W (k + 2)) b_902 (env0 2 2 [.ref n, .str x]) S = some (.nx, [some (.ref n), some (.str x)], S.set n (insR T w (i + 1))) := by
    unfold b_902
    exact es_nx (es_if_f (er_cmp (er_call (er_cons (er_var rfl) er_nil) er_nil rfl a1) (er_var rfl) (c_strn_f rfl)) es_skip) es_skip
  rw [this]; rfl
theorem number_p (k : Nat) {v : Nat} (h : Rd S n w T ws i) (hx : ws.getD i "" = numS v) (hv : v < 100000) : ∃ S', run q W (k + 3) 903 [.ref n, .int 31] S = some (.int v, S') ∧ Rd S' n w T ws (i + 1) ∧ Kp [n] S S' := by
  have a1 := take_p Q (W := W) k h
  rw [hx] at a1
  obtain ⟨S', a2, a3⟩ := numeral_p Q (W := W) (k + 1) (S.set n (insR T w (i + 1))) hv
  refine ⟨S', ?_, h.set.kp a3, Kp.set.trans a3.nil⟩
  refine' run_rt (e0 := [some _, some _, none]) Q.f903 rfl rfl ?h
  case h =>
    unfold b_903
    exact es_nx (es_asg (er_call (er_cons (er_var rfl) er_nil) er_nil rfl a1) rfl) (es_nx (es_if_f (er_not_f (er_call (er_cons (er_var rfl) (er_cons (er_var rfl) er_nil)) er_nil rfl a2)) es_skip) (es_rt (es_ret (er_bi (er_cons (er_var rfl) er_nil) (b_intS hv)))))
/-- a new reader -/
theorem reader_p (k : Nat) (S : Store) (hw : S[w]? = some (.lst (ws.map D.str))) : ∃ S', run q W (k + 1) 929 [.ref S.length, .str T, .ref w] (S ++ [O.ins "Reader" []]) = some (.non, S') ∧ Rd S' S.length w T ws 0 ∧ Kp [] S S' := by
  have hlt := (List.getElem?_eq_some_iff.mp hw).1
  have g0 : (S ++ [O.ins "Reader" []])[S.length]? = some (O.ins "Reader" []) := g_last
  have p1 : putfS ["Reader"] "text" (.ref S.length) (.str T) (S ++ [O.ins "Reader" []]) = some ((S ++ [O.ins "Reader" []]).set S.length (O.ins "Reader" [("text", .str T)])) := by
    simp only [putfS, insAt, g0]; rfl
  have g1 := set_get (o' := .ins "Reader" [("text", .str T)]) g0
  have p2 : putfS ["Reader"] "words" (.ref S.length) (.ref w) ((S ++ [O.ins "Reader" []]).set S.length (O.ins "Reader" [("text", .str T)])) = some (((S ++ [O.ins "Reader" []]).set S.length (O.ins "Reader" [("text", .str T)])).set S.length (O.ins "Reader" [("text", .str T), ("words", .ref w)])) := by
    simp only [putfS, insAt, g1]; rfl
  have g2 := set_get (o' := .ins "Reader" [("text", .str T), ("words", .ref w)]) g1
  have p3 : putfS ["Reader"] "at" (.ref S.length) (.int 0) (((S ++ [O.ins "Reader" []]).set S.length (O.ins "Reader" [("text", .str T)])).set S.length (O.ins "Reader" [("text", .str T), ("words", .ref w)])) =
      some ((((S ++ [O.ins "Reader" []]).set S.length (O.ins "Reader" [("text", .str T)])).set S.length (O.ins "Reader" [("text", .str T), ("words", .ref w)])).set S.length (insR T w 0)) := by
    simp only [putfS, insAt, g2]; rfl
  have g3 := set_get (o' := insR T w 0) g2
  have kk : Kp [] S ((((S ++ [O.ins "Reader" []]).set S.length (O.ins "Reader" [("text", .str T)])).set S.length (O.ins "Reader" [("text", .str T), ("words", .ref w)])).set S.length (insR T w 0)) :=
    (((Kp.push (A := [S.length])).trans Kp.set).trans (Kp.set.trans Kp.set)).drop (Nat.le_refl _)
  refine ⟨_, ?_, ⟨g3, kk _ _ (by simp) hw⟩, kk⟩
  rw [run_at q W k 929 _ _ Q.f929 rfl]
  have : ex (pm q W k) b_929 (env0 3 3 [.ref S.length, .str T, .ref w]) (S ++ [O.ins "Reader" []]) = some (.nx, [some (.ref S.length), some (.str T), some (.ref w)], (((S ++ [O.ins "Reader" []]).set S.length (O.ins "Reader" [("text", .str T)])).set S.length (O.ins "Reader" [("text", .str T), ("words", .ref w)])).set S.length (insR T w 0)) := by
    unfold b_929
    exact es_nx (es_setf (er_var rfl) (er_var rfl) p1) (es_nx (es_setf (er_var rfl) (er_var rfl) p2) (es_nx (es_setf (er_lit rfl) (er_var rfl) p3) es_skip))
  rw [this]; rfl
end
end Tm

set_option Elab.async false
set_option linter.all false
set_option maxRecDepth 100000
set_option maxHeartbeats 8000000
namespace Tm
open PySem L2 TL
theorem drop_at {ws : List Str} {i : Nat} {x : Str} {r : List Str} (h : ws.drop i = x :: r) : ws.getD i "" = x ∧ ws.drop (i + 1) = r := by
  have h1 : ws[i]? = some x := by
    have : (ws.drop i)[0]? = some x := by rw [h]; rfl
    rw [List.getElem?_drop] at this; simpa using this
  refine ⟨by rw [List.getD_eq_getElem?_getD, h1]; rfl, ?_⟩
  have : (ws.drop i).drop 1 = r := by rw [h]; rfl
  rw [List.drop_drop] at this; exact this
theorem drop_app {ws a r : List Str} {i : Nat} (h : ws.drop i = a ++ r) : ws.drop (i + a.length) = r := by
  have : (ws.drop i).drop a.length = r := by rw [h]; simp
  rw [List.drop_drop] at this; exact this
theorem drop_out {ws : List Str} {i : Nat} (h : ws.drop i = []) : ws.getD i "" = "" := by
  have : ws.length ≤ i := List.drop_eq_nil_iff.mp h
  rw [List.getD_eq_getElem?_getD, List.getElem?_eq_none this]; rfl
theorem Kp.le1 {S S' : Store} {n : Nat} (h : Kp [n] S S') (hn : n < S'.length) : S.length ≤ S'.length := by
  by_cases e : S.length = 0
  · omega
  · by_cases g : S.length - 1 = n
    · omega
    · have := h.len (n := S.length - 1) (by simpa using g) (by omega)
      omega
theorem Kp.less {S S' : Store} {n a : Nat} (h : Kp [n, a] S S') (l : S.length ≤ a) : Kp [n] S S' := fun i o x e => by
  refine h i o ?_ e
  have := (List.getElem?_eq_some_iff.mp e).1
  simp only [List.mem_cons, List.not_mem_nil, or_false] at x ⊢; omega
theorem es_whl {q : Pr} {W k : Nat} {c : C} {s : St} {e : Env'} {S : Store} {w : Fl × Env' × Store} (h : whL (ev (pm q W k) c) (ex (pm q W k) s) W e S = some w) : ex (pm q W k) (.whl c s) e S = some w := h
theorem whL_f {cnd : Env' → Store → Option (D × Store)} {bod : Env' → Store → Option (Fl × Env' × Store)} {m : Nat} {e : Env'} {S S1 : Store} (h : cnd e S = some (.bl false, S1)) : whL cnd bod (m + 1) e S = some (.nx, e, S1) := by
  simp only [whL, h, Option.bind_some]
theorem whL_t {cnd : Env' → Store → Option (D × Store)} {bod : Env' → Store → Option (Fl × Env' × Store)} {m : Nat} {e e2 : Env'} {S S1 S2 : Store} {w : Fl × Env' × Store} (h : cnd e S = some (.bl true, S1)) (h2 : bod e S1 = some (.nx, e2, S2)) (h3 : whL cnd bod m e2 S2 = some w) : whL cnd bod (m + 1) e S = some w := by
  simp only [whL, h, h2, Option.bind_some]; exact h3
/-- the element of the parts -/
def b_el : C := .ife (.cmp .eq (.var 4) (.lit (.str "m"))) (.call 901 [0] (.cons (.var 0) .nil) .nil) (.call 903 [0, 1] (.cons (.var 0) (.cons (.lit (.int 31)) .nil)) .nil)
def b_lw : C := .cmp .eq (.call 900 [0] (.cons (.var 0) .nil) .nil) (.lit (.str ";"))
def b_lb : St := (.seq (.drop (.call 902 [0, 1] (.cons (.var 0) (.cons (.lit (.str ";")) .nil)) .nil))
  (.seq (.drop (.app (.var 2) (.call 907 [0, 1] (.cons (.var 0) (.cons (.var 1) .nil)) .nil)))
  .skip))
section
variable {q : Pr} (Q : HK q) {W : Nat}
include Q
theorem parts_p (k : Nat) {n w a d : Nat} {T nm : Str} {ws : List Str} {ks : List Nat} {as : List Arg} (hf : Fits nm ks as) : ∀ (S : Store) (i : Nat) (acc : List D) (rest : List Str), Rd S n w T ws i → S[a]? = some (.lst acc) → a ≠ n → w ≠ a → ws.drop i = as.map wA ++ rest → acc.length + as.length ≤ 100 →
    ∃ S', lcL (ev (pm q W (k + 3)) (.lit (.bl true))) (ev (pm q W (k + 3)) b_el) (.nm 4) [] [some (.ref n), some (.int d), some (.str nm), none, none] a (ks.map fun c => D.str ⟨#[c]⟩) S = some S' ∧ Rd S' n w T ws (i + as.length) ∧ S'[a]? = some (.lst (acc ++ as.map encA)) ∧ Kp [n, a] S S' := by
  induction hf with
  | nil =>
    intro S i acc rest h ha _ _ _ _
    exact ⟨S, by simp only [List.map_nil, lcL, chks, if_true], h, by simpa using ha, Kp.refl _ _⟩
  | cons hc hrs ih =>
    rename_i c ar cs as
    intro S i acc rest h ha hna hwa hd hl
    rw [List.map_cons, List.cons_append] at hd
    obtain ⟨d1, d2⟩ := drop_at hd
    simp only [List.length_cons] at hl
    have one : ∃ S2, ev (pm q W (k + 3)) b_el [some (.ref n), some (.int d), some (.str nm), none, some (.str ⟨#[c]⟩)] S = some (encA ar, S2) ∧ Rd S2 n w T ws (i + 1) ∧ Kp [n] S S2 := by
      cases hc with
      | v v hv =>
        obtain ⟨S2, r1, r2, r3⟩ := number_p Q (W := W) k h d1 (by omega)
        exact ⟨S2, er_ife_f (er_cmp (er_var rfl) (er_lit rfl) (c_str_f (by decide +kernel))) (er_call (er_cons (er_var rfl) (er_cons (er_lit rfl) er_nil)) er_nil rfl r1), r2, r3⟩
      | w v hv =>
        obtain ⟨S2, r1, r2, r3⟩ := number_p Q (W := W) k h d1 (by omega)
        exact ⟨S2, er_ife_f (er_cmp (er_var rfl) (er_lit rfl) (c_str_f (by decide +kernel))) (er_call (er_cons (er_var rfl) (er_cons (er_lit rfl) er_nil)) er_nil rfl r1), r2, r3⟩
      | m x hx =>
        have r1 := take_p Q (W := W) (k + 1) h
        rw [d1] at r1
        exact ⟨_, er_ife_t (er_cmp (er_var rfl) (er_lit rfl) (c_str_t (by decide +kernel))) (er_call (er_cons (er_var rfl) er_nil) er_nil rfl r1), h.set, Kp.set⟩
    obtain ⟨S2, r1, r2, r3⟩ := one
    have ha2 : S2[a]? = some (.lst acc) := r3 _ _ (by simpa using hna) ha
    have hp := push_at (d := encA ar) ha2 (by rw [sizeLine_eq]; omega)
    have h3 : Rd (S2.set a (.lst (acc ++ [encA ar]))) n w T ws (i + 1) := ⟨by rw [List.getElem?_set_ne hna]; exact r2.hn, by rw [List.getElem?_set_ne (Ne.symm hwa)]; exact r2.hw⟩
    obtain ⟨S', g1, g2, g3, g4⟩ := ih (S2.set a (.lst (acc ++ [encA ar]))) (i + 1) (acc ++ [encA ar]) rest h3 (set_get ha2) hna hwa d2 (by simp; omega)
    refine ⟨S', ?_, by rw [List.length_cons]; have : i + (as.length + 1) = i + 1 + as.length := by omega
                       rw [this]; exact g2, by rw [g3, List.map_cons]; simp, (r3.more (by simp)).trans ((Kp.set.more (by simp)).trans g4)⟩
    have cn : ∀ e S, ev (pm q W (k + 3)) (.lit (.bl true)) e S = some (.bl true, S) := fun _ _ => er_lit rfl
    simp only [List.map_cons, lcL, chks, if_true, cn, Option.bind_some]
    show ((ev (pm q W (k + 3)) b_el [some (.ref n), some (.int d), some (.str nm), none, some (.str ⟨#[c]⟩)] S).bind fun y => (push a y.1 y.2).bind fun S' => _) = _
    rw [r1]
    show ((push a (encA ar) S2).bind fun S' => _) = _
    rw [hp]
    exact g1
/-- what a reader of a statement is asked -/
def RdS (q : Pr) (W F : Nat) (n w : Nat) (T : Str) (ws : List Str) (d : Nat) (s : Stm) : Prop :=
  ∀ (S : Store) (i : Nat) (rest : List Str), Rd S n w T ws i → ws.drop i = wdS s ++ rest → ∃ S', run q W F 907 [.ref n, .int d] S = some (encS s, S') ∧ Rd S' n w T ws (i + (wdS s).length) ∧ Kp [n] S S'
theorem loop_p (k : Nat) {n w a d : Nat} {T : Str} {ws : List Str} (hna : a ≠ n) (hwa : w ≠ a) : ∀ (l : List Stm) (W' : Nat) (S : Store) (i : Nat) (acc : List D) (rest : List Str), (∀ s ∈ l, RdS q W (k + 3) n w T ws d s) → l.length < W' → Rd S n w T ws i → S[a]? = some (.lst acc) →
    ws.drop i = wdR l ++ rest → rest.headD "" ≠ ";" → acc.length + l.length ≤ 100 →
    ∃ S', whL (ev (pm q W (k + 3)) b_lw) (ex (pm q W (k + 3)) b_lb) W' [some (.ref n), some (.int d), some (.ref a)] S = some (.nx, [some (.ref n), some (.int d), some (.ref a)], S') ∧ Rd S' n w T ws (i + (wdR l).length) ∧ S'[a]? = some (.lst (acc ++ l.map encS)) ∧ Kp [n, a] S S' := by
  intro l
  induction l with
  | nil =>
    intro W' S i acc rest _ hW h ha hd hr _
    rw [wdR_nil, List.nil_append] at hd
    obtain ⟨W1, rfl⟩ : ∃ W1, W' = W1 + 1 := ⟨W' - 1, by simp at hW; omega⟩
    have a1 := next_p Q (W := W) (k + 2) h
    have e1 : ws.getD i "" ≠ ";" := by
      cases rest with
      | nil => rw [drop_out hd]; decide
      | cons x r => rw [(drop_at hd).1]; exact hr
    refine ⟨S, whL_f (er_cmp (er_call (er_cons (er_var rfl) er_nil) er_nil rfl a1) (er_lit rfl) (c_str_f e1)), by rw [wdR_nil]; exact h, by simpa using ha, Kp.refl _ _⟩
  | cons s l ih =>
    intro W' S i acc rest hs hW h ha hd hr hl
    obtain ⟨W1, rfl⟩ : ∃ W1, W' = W1 + 1 := ⟨W' - 1, by simp at hW; omega⟩
    simp only [List.length_cons] at hl hW
    have hd' : ws.drop i = kS :: (wdS s ++ (wdR l ++ rest)) := by rw [hd, wdR]; simp
    obtain ⟨d1, d2⟩ := drop_at hd'
    have a1 := next_p Q (W := W) (k + 2) h
    rw [d1] at a1
    have a2 := sign_p Q (W := W) k h d1
    have h2 : Rd (S.set n (insR T w (i + 1))) n w T ws (i + 1) := h.set
    have ha2 : (S.set n (insR T w (i + 1)))[a]? = some (.lst acc) := by rw [List.getElem?_set_ne (Ne.symm hna)]; exact ha
    obtain ⟨S3, r1, r2, r3⟩ := hs s List.mem_cons_self _ _ _ h2 d2
    have ha3 : S3[a]? = some (.lst acc) := r3 _ _ (by simpa using hna) ha2
    have hp := push_at (d := encS s) ha3 (by rw [sizeLine_eq]; omega)
    have h4 : Rd (S3.set a (.lst (acc ++ [encS s]))) n w T ws (i + 1 + (wdS s).length) := ⟨by rw [List.getElem?_set_ne hna]; exact r2.hn, by rw [List.getElem?_set_ne (Ne.symm hwa)]; exact r2.hw⟩
    obtain ⟨S', g1, g2, g3, g4⟩ := ih W1 (S3.set a (.lst (acc ++ [encS s]))) (i + 1 + (wdS s).length) (acc ++ [encS s]) rest (fun s' hs' => hs s' (List.mem_cons_of_mem _ hs')) (by omega) h4 (set_get ha3) (drop_app d2) hr (by simp; omega)
    refine ⟨S', ?_, ?_, by rw [g3]; simp, (Kp.set.more (by simp)).trans ((r3.more (by simp)).trans ((Kp.set.more (by simp)).trans g4))⟩
    · refine whL_t (er_cmp (er_call (er_cons (er_var rfl) er_nil) er_nil rfl a1) (er_lit rfl) (c_str_t rfl)) ?_ g1
      exact es_nx (es_drop (er_call (er_cons (er_var rfl) (er_cons (er_lit rfl) er_nil)) er_nil rfl a2)) (es_nx (es_drop (er_appG (er_var rfl) (lst_ok (l_lst ha2)) (er_call (er_cons (er_var rfl) (er_cons (er_var rfl) er_nil)) er_nil rfl r1) hp)) es_skip)
    · have : i + (wdR (s :: l)).length = i + 1 + (wdS s).length + (wdR l).length := by rw [wdR]; simp; omega
      rw [this]; exact g2
theorem stms_p (k : Nat) (hW : 30 ≤ W) {n w d : Nat} {T : Str} {ws : List Str} {s : Stm} {l : List Stm} (hs : ∀ x ∈ s :: l, RdS q W (k + 3) n w T ws d x) (hl : l.length ≤ 24) {S : Store} {i : Nat} {rest : List Str} (h : Rd S n w T ws i) (hd : ws.drop i = wdH (s :: l) ++ rest) (hr : rest.headD "" ≠ ";") :
    ∃ S', run q W (k + 4) 906 [.ref n, .int d] S = some (dL (s :: l), S') ∧ Rd S' n w T ws (i + (wdH (s :: l)).length) ∧ Kp [n] S S' := by
  have hd' : ws.drop i = wdS s ++ (wdR l ++ rest) := by rw [hd, wdH, List.append_assoc]
  obtain ⟨S1, r1, r2, r3⟩ := hs s List.mem_cons_self S i _ h hd'
  have hle := r3.le1 r2.lt
  have hw1 := (List.getElem?_eq_some_iff.mp r2.hw).1
  have hn1 := r2.lt
  obtain ⟨S2, g1, g2, g3, g4⟩ := loop_p Q (W := W) k (a := S1.length) (d := d) (by omega) (by omega) l W (S1 ++ [.lst [encS s]]) (i + (wdS s).length) [encS s] rest (fun x hx => hs x (List.mem_cons_of_mem _ hx)) (by omega) (r2.kp Kp.push) g_last (drop_app hd') hr (by simp; omega)
  refine ⟨S2, ?_, ?_, ?_⟩
  · refine' run_rt (e0 := [some _, some _, none]) Q.f906 rfl rfl ?h
    case h =>
      unfold b_906
      exact es_nx (es_asg (er_lst (er_cons (er_call (er_cons (er_var rfl) (er_cons (er_var rfl) er_nil)) er_nil rfl r1) er_nil) (Nat.le_of_ble_eq_true rfl)) rfl) (es_nx (es_whl g1) (es_rt (es_ret (er_bi (er_cons (er_var rfl) er_nil) (b_tupL (l_lst g3))))))
  · have : i + (wdH (s :: l)).length = i + (wdS s).length + (wdR l).length := by rw [wdH]; simp; omega
    rw [this]; exact g2
  · exact r3.trans (((Kp.push (A := [n, S1.length])).trans g4).less (Nat.le_refl _))
/-- a block in its brackets -/
theorem block_p (k : Nat) (hW : 30 ≤ W) {n w d : Nat} {T : Str} {ws : List Str} {l : List Stm} {m : Nat} (ok : okL m l) (hs : ∀ x ∈ l, RdS q W (k + 3) n w T ws d x) (hl : l.length ≤ 24) (hd4 : d ≤ 4) {S : Store} {i : Nat} {rest : List Str} (h : Rd S n w T ws i) (hd : ws.drop i = wdB l ++ rest) :
    ∃ S', run q W (k + 5) 908 [.ref n, .int d] S = some (dL l, S') ∧ Rd S' n w T ws (i + (wdB l).length) ∧ Kp [n] S S' := by
  have hc : ∀ S, ev (pm q W (k + 4)) (.cmp .gt (.var 1) (.lit (.int 4))) [some (.ref n), some (.int d), none] S = some (.bl false, S) := fun S => er_cmp (er_var rfl) (er_lit rfl) (c_gt_f (by omega))
  cases l with
  | nil =>
    rw [wdB_nil] at hd ⊢
    obtain ⟨d1, d2⟩ := drop_at (show ws.drop i = kO :: (kC :: rest) from hd)
    obtain ⟨d3, d4⟩ := drop_at d2
    have a1 := sign_p Q (W := W) (k + 1) h d1
    have h2 : Rd (S.set n (insR T w (i + 1))) n w T ws (i + 1) := h.set
    have a2 := next_p Q (W := W) (k + 3) h2
    rw [d3] at a2
    have a3 := sign_p Q (W := W) (k + 1) h2 d3
    refine ⟨_, ?_, h2.set, Kp.set.trans Kp.set⟩
    refine' run_rt (e0 := [some _, some _, none]) Q.f908 rfl rfl ?h
    case h =>
      unfold b_908
      refine' es_nx (es_drop (er_call (er_cons (er_var rfl) (er_cons (er_lit rfl) er_nil)) er_nil rfl a1)) ?_
      refine' es_nx (es_if_f (hc _) es_skip) ?_
      refine' es_nx (es_asg (er_ife_t (er_cmp (er_call (er_cons (er_var rfl) er_nil) er_nil rfl a2) (er_lit rfl) (c_str_t rfl)) (er_tup er_nil (Nat.zero_le _))) rfl) ?_
      exact es_nx (es_drop (er_call (er_cons (er_var rfl) (er_cons (er_lit rfl) er_nil)) er_nil rfl a3)) (es_rt (es_ret (er_var rfl)))
  | cons s l =>
    rw [wdB_cons] at hd ⊢
    have hd1 : ws.drop i = kO :: (wdH (s :: l) ++ (kC :: rest)) := by rw [hd]; simp
    obtain ⟨d1, d2⟩ := drop_at hd1
    have a1 := sign_p Q (W := W) (k + 1) h d1
    have h2 : Rd (S.set n (insR T w (i + 1))) n w T ws (i + 1) := h.set
    have a2 := next_p Q (W := W) (k + 3) h2
    obtain ⟨x, xr, x1, x2, _⟩ := wd_head (ok s List.mem_cons_self)
    have e1 : ws.getD (i + 1) "" = x := (drop_at (show ws.drop (i + 1) = x :: (xr ++ wdR l ++ (kC :: rest)) by rw [d2, wdH, x1]; simp)).1
    rw [e1] at a2
    obtain ⟨S3, r1, r2, r3⟩ := stms_p Q (W := W) k hW hs (by simp at hl; omega) h2 d2 (show kC ≠ ";" by decide)
    have d3 := (drop_at (drop_app d2)).1
    have a3 := sign_p Q (W := W) (k + 1) r2 d3
    refine ⟨S3.set n (insR T w (i + 1 + (wdH (s :: l)).length + 1)), ?_, ?_, Kp.set.trans (r3.trans Kp.set)⟩
    rotate_left
    · have : i + (kO :: (wdH (s :: l) ++ [kC])).length = i + 1 + (wdH (s :: l)).length + 1 := by simp; omega
      rw [this]; exact r2.set
    refine' run_rt (e0 := [some _, some _, none]) Q.f908 rfl rfl ?h
    case h =>
      unfold b_908
      refine' es_nx (es_drop (er_call (er_cons (er_var rfl) (er_cons (er_lit rfl) er_nil)) er_nil rfl a1)) ?_
      refine' es_nx (es_if_f (hc _) es_skip) ?_
      refine' es_nx (es_asg (er_ife_f (er_cmp (er_call (er_cons (er_var rfl) er_nil) er_nil rfl a2) (er_lit rfl) (c_str_f x2)) (er_call (er_cons (er_var rfl) (er_cons (er_var rfl) er_nil)) er_nil rfl r1)) rfl) ?_
      exact es_nx (es_drop (er_call (er_cons (er_var rfl) (er_cons (er_lit rfl) er_nil)) er_nil rfl a3)) (es_rt (es_ret (er_var rfl)))
end
end Tm

set_option Elab.async false
set_option linter.all false
set_option maxRecDepth 100000
set_option maxHeartbeats 8000000
namespace Tm
open PySem L2 TL
section
variable {q : Pr} (Q : HK q) {W : Nat}
include Q
/-- the reader reads each statement back -/
theorem read_p (hW : 30 ≤ W) {n w : Nat} {T : Str} {ws : List Str} : ∀ (m : Nat) (s : Stm), okS m s → cntS s ≤ 24 → ∀ (d : Nat), d + m = 4 → ∀ k : Nat, RdS q W (k + 3 * m + 3) n w T ws d s := by
  intro m
  induction m with
  | zero => intro s h; exact h.elim
  | succ m ih =>
    intro s hs hc d hdm k S i rest h hd
    have hF : k + 3 * (m + 1) + 3 = k + 3 * m + 5 + 1 := by omega
    rw [hF]
    have blk : ∀ (l : List Stm), okL m l → cntL l ≤ 24 → ∀ (S : Store) (i : Nat) (rest : List Str), Rd S n w T ws i → ws.drop i = wdB l ++ rest → ∃ S', run q W (k + 3 * m + 5) 908 [.ref n, .int ((d : Int) + 1)] S = some (dL l, S') ∧ Rd S' n w T ws (i + (wdB l).length) ∧ Kp [n] S S' := by
      intro l hl hcl S i rest h hd
      have hlen := cntL_len l
      exact block_p Q (W := W) (k + 3 * m) hW (d := d + 1) (m := m) hl (fun x hx => ih x (hl x hx) (by have := cntL_mem hx; omega) (d + 1) (by omega) k) (by omega) (by omega) h hd
    cases s with
    | pl nm as =>
      have hp : Pl nm as := hs
      obtain ⟨ks, h1, h2⟩ := hp
      obtain ⟨z, z1, z2⟩ := form_look h1
      obtain ⟨_, _, n1, n2, _, _, _, hk⟩ := form_at h1
      have hlen := h2.len
      have hd' : ws.drop i = nm :: (as.map wA ++ rest) := by rw [hd, wd_pl]; rfl
      obtain ⟨d1, d2⟩ := drop_at hd'
      have a1 := take_p Q (W := W) (k + 3 * m + 3) h
      rw [d1] at a1
      have h2' : Rd (S.set n (insR T w (i + 1))) n w T ws (i + 1) := h.set
      have hnl := h2'.lt
      have hwl := (List.getElem?_eq_some_iff.mp h2'.hw).1
      obtain ⟨S3, g1, g2, g3, g4⟩ := parts_p Q (W := W) (k + 3 * m + 2) (a := (S.set n (insR T w (i + 1))).length) (d := d) h2 ((S.set n (insR T w (i + 1))) ++ [.lst []]) (i + 1) [] rest (h2'.kp Kp.push) g_last (by omega) (by omega) d2 (by simp; omega)
      refine ⟨S3, ?_, ?_, Kp.set.trans (((Kp.push (A := [n, (S.set n (insR T w (i + 1))).length])).trans g4).less (Nat.le_refl _))⟩
      rotate_left
      · have : i + (wdS (.pl nm as)).length = i + 1 + as.length := by rw [wd_pl]; simp; omega
        rw [this]; exact g2
      have lc : ev (pm q W (k + 3 * m + 5)) (.lc (.itv (.kget 6 (.var 2))) (.nm 4) (.lit (.bl true)) b_el [4]) [some (.ref n), some (.int d), some (.str nm), none, none] (S.set n (insR T w (i + 1))) = some (.ref (S.set n (insR T w (i + 1))).length, S3) := by
        refine er_lc (ds := ks.map fun c => D.str ⟨#[c]⟩) (fs := []) ?_ g1
        have := itv_str (q := q) (W := W) (k := k + 3 * m + 5) (a := .kget 6 (.var 2)) (e := [some (.ref n), some (.int d), some (.str nm), none, none]) (S := S.set n (insR T w (i + 1))) (z := z) (er_kget (er_var rfl) (by rw [Q.k6]; exact z1))
        rw [this]
        show some (itD (z.cps.toList.map fun c => D.str ⟨#[c]⟩) [], _) = _
        rw [show z.cps.toList = ks from z2]
      rw [enc_pl]
      refine' run_rt (e0 := [some _, some _, none, none, none]) Q.f907 rfl rfl ?h
      case h =>
        unfold b_907
        refine' es_nx (es_asg (er_call (er_cons (er_var rfl) er_nil) er_nil rfl a1) rfl) ?_
        refine' es_nx (es_if_f (er_cmp (er_var rfl) (er_lit rfl) (c_str_f n1)) es_skip) ?_
        refine' es_nx (es_if_f (er_cmp (er_var rfl) (er_lit rfl) (c_str_f n2)) es_skip) ?_
        refine' es_nx (es_if_f (er_kin (er_var rfl) (t := false) (by rw [Q.k6, z1]; rfl)) es_skip) ?_
        refine' es_nx (es_asg lc rfl) ?_
        refine es_rt (es_ret (er_bin (er_tup (er_cons (er_var rfl) er_nil) (Nat.le_of_ble_eq_true rfl)) (er_bi (er_cons (er_var rfl) er_nil) (b_tupL (l_lst g3))) (o_addT ?_)))
        rw [sizeLine_eq]; simp; omega
    | ife v a b =>
      obtain ⟨hv, ha, hb⟩ := hs
      rw [cntS_ife] at hc
      have hd' : ws.drop i = kI :: (numS v :: (wdB a ++ (wdB b ++ rest))) := by rw [hd, wd_ife]; simp
      obtain ⟨d1, d2⟩ := drop_at hd'
      obtain ⟨d3, d4⟩ := drop_at d2
      have a1 := take_p Q (W := W) (k + 3 * m + 3) h
      rw [d1] at a1
      have h1 : Rd (S.set n (insR T w (i + 1))) n w T ws (i + 1) := h.set
      obtain ⟨S2, a2, h2, k2⟩ := number_p Q (W := W) (k + 3 * m + 2) h1 d3 (by omega)
      obtain ⟨S3, a3, h3, k3⟩ := blk a ha (by omega) S2 _ _ h2 d4
      obtain ⟨S4, a4, h4, k4⟩ := blk b hb (by omega) S3 _ _ h3 (drop_app d4)
      refine ⟨S4, ?_, ?_, Kp.set.trans (k2.trans (k3.trans k4))⟩
      rotate_left
      · have : i + (wdS (.ife v a b)).length = i + 1 + 1 + (wdB a).length + (wdB b).length := by rw [wd_ife]; simp; omega
        rw [this]; exact h4
      rw [enc_ife]
      refine' run_rt (e0 := [some _, some _, none, none, none]) Q.f907 rfl rfl ?h
      case h =>
        unfold b_907
        refine' es_nx (es_asg (er_call (er_cons (er_var rfl) er_nil) er_nil rfl a1) rfl) ?_
        refine' es_rt (es_if_t (er_cmp (er_var rfl) (er_lit rfl) (c_str_t rfl)) ?g)
        case g =>
          exact es_rt (es_ret (er_tup (er_cons (er_var rfl) (er_cons (er_call (er_cons (er_var rfl) (er_cons (er_lit rfl) er_nil)) er_nil rfl a2) (er_cons (er_call (er_cons (er_var rfl) (er_cons (er_bin (er_var rfl) (er_lit rfl) o_add) er_nil)) er_nil rfl a3)
            (er_cons (er_call (er_cons (er_var rfl) (er_cons (er_bin (er_var rfl) (er_lit rfl) o_add) er_nil)) er_nil rfl a4) er_nil)))) (Nat.le_of_ble_eq_true rfl)))
    | agn v a =>
      obtain ⟨hv, ha⟩ := hs
      rw [cntS_agn] at hc
      have hd' : ws.drop i = kA :: (numS v :: (wdB a ++ rest)) := by rw [hd, wd_agn]; simp
      obtain ⟨d1, d2⟩ := drop_at hd'
      obtain ⟨d3, d4⟩ := drop_at d2
      have a1 := take_p Q (W := W) (k + 3 * m + 3) h
      rw [d1] at a1
      have h1 : Rd (S.set n (insR T w (i + 1))) n w T ws (i + 1) := h.set
      obtain ⟨S2, a2, h2, k2⟩ := number_p Q (W := W) (k + 3 * m + 2) h1 d3 (by omega)
      obtain ⟨S3, a3, h3, k3⟩ := blk a ha (by omega) S2 _ _ h2 d4
      refine ⟨S3, ?_, ?_, Kp.set.trans (k2.trans k3)⟩
      rotate_left
      · have : i + (wdS (.agn v a)).length = i + 1 + 1 + (wdB a).length := by rw [wd_agn]; simp; omega
        rw [this]; exact h3
      rw [enc_agn]
      refine' run_rt (e0 := [some _, some _, none, none, none]) Q.f907 rfl rfl ?h
      case h =>
        unfold b_907
        refine' es_nx (es_asg (er_call (er_cons (er_var rfl) er_nil) er_nil rfl a1) rfl) ?_
        refine' es_nx (es_if_f (er_cmp (er_var rfl) (er_lit rfl) (c_str_f (by decide))) es_skip) ?_
        refine' es_rt (es_if_t (er_cmp (er_var rfl) (er_lit rfl) (c_str_t rfl)) ?g)
        case g =>
          exact es_rt (es_ret (er_tup (er_cons (er_var rfl) (er_cons (er_call (er_cons (er_var rfl) (er_cons (er_lit rfl) er_nil)) er_nil rfl a2) (er_cons (er_call (er_cons (er_var rfl) (er_cons (er_bin (er_var rfl) (er_lit rfl) o_add) er_nil)) er_nil rfl a3) er_nil))) (Nat.le_of_ble_eq_true rfl)))
/-- a hand's text -/
theorem phand_p (hW : 30 ≤ W) (k : Nat) (S : Store) (T : Str) {l : List Stm} (ok : okL 4 l) (hc : cntL l ≤ 24) : ∃ S', run q W (k + 17) 905 [.str T, .str (txH l)] S = some (dL l, S') ∧ Kp [] S S' := by
  cases l with
  | nil =>
    refine ⟨S, ?_, Kp.refl _ _⟩
    refine' run_rt (e0 := [some _, some _]) Q.f905 rfl rfl ?h
    case h =>
      unfold b_905
      exact es_rt (es_ret (er_ife_t (er_cmp (er_var rfl) (er_lit rfl) (c_str_t txH_nil)) (er_tup er_nil (Nat.zero_le _))))
  | cons s l =>
    have hlen := cntL_len (s :: l)
    simp only [List.length_cons] at hlen
    have ht := txH_len ok
    have hsp : Txt.split (txH (s :: l)) " " = wdH (s :: l) := split_blank (wdH_ne _) fun x hx c hcx => by
      have := okW_H ok x hx
      unfold okW at this
      have := List.all_eq_true.mp this c hcx
      simp only [Bool.and_eq_true, Bool.not_eq_true', beq_eq_false_iff_ne] at this
      exact this.1
    have a1 := b_split (S := S) (x := txH (s :: l)) (y := " ") (by decide +kernel) (by omega) hsp
    obtain ⟨S2, a2, h2, k2⟩ := reader_p Q (W := W) (T := T) (ws := wdH (s :: l)) (w := S.length) (k + 15) (S ++ [.lst ((wdH (s :: l)).map D.str)]) g_last
    obtain ⟨S3, a3, h3, k3⟩ := stms_p Q (W := W) (k + 12) hW (d := 0) (rest := []) (fun x hx => read_p Q hW 4 x (ok x hx) (by have := cntL_mem hx; omega) 0 (by decide) k) (by omega) h2 (by simp) (by decide)
    refine ⟨S3, ?_, ?_⟩
    · have hne : ¬ txH (s :: l) = "-" := fun e => by
        obtain ⟨x, xr, x1, _, _, c, t, x2, x3⟩ := wd_head (ok s List.mem_cons_self)
        have h0 := congrArg tl e
        rw [txH, tl_jn1, wdH, x1] at h0
        have : ∃ r, joinL [32] ((x :: xr ++ wdR l).map tl) = c :: r := by
          rw [List.cons_append, List.map_cons, x2]
          cases (xr ++ wdR l).map tl with
          | nil => exact ⟨t, rfl⟩
          | cons y ys => exact ⟨t ++ ([32] ++ joinL [32] (y :: ys)), by rw [joinL_cons2]; rfl⟩
        obtain ⟨r, hr⟩ := this
        rw [hr] at h0
        have t0 : tl ("-" : Str) = [45] := by decide +kernel
        rw [t0] at h0
        exact x3 (List.cons.inj h0).1
      refine' run_rt (e0 := [some _, some _]) Q.f905 rfl rfl ?h
      case h =>
        unfold b_905
        refine es_rt (es_ret (er_ife_f (er_cmp (er_var rfl) (er_lit rfl) (c_str_f hne)) ?_))
        exact er_call (er_cons (er_mk (er_cons (er_var rfl) (er_cons (er_mt (er_var rfl) (er_cons (er_lit rfl) er_nil) rfl a1) er_nil)) a2) (er_cons (er_lit rfl) er_nil)) er_nil rfl a3
    · have kk : Kp [] S S2 := Kp.push.trans k2
      exact kk.from k3 (by simp)
theorem parse_p (hW : 30 ≤ W) (k : Nat) (S : Store) {p : List (List Stm)} (hp : OkP p) : ∃ S', run q W (k + 18) 904 [.str (txP p)] S = some (dP p, S') ∧ Kp [] S S' := by
  have l0 := hp.l0
  have l1 := hp.l1
  have hne : p.map txH ≠ [] := fun e => by have := congrArg List.length e; simp at this; subst this; simp at l0
  have hsp : Txt.split (txP p) " || " = p.map txH := split_bars hne fun x hx c hcx => by
    obtain ⟨l, hl, rfl⟩ := List.mem_map.mp hx
    have hw := okW_H (hp.ok l hl)
    rw [txH, tl_jn1] at hcx
    have : ∀ ws : List Str, (∀ w ∈ ws, okW w = true) → ∀ c ∈ joinL [32] (ws.map tl), c ≠ 124 := by
      intro ws
      induction ws with
      | nil => intro _ c hc; simp [joinL] at hc
      | cons w r ih =>
        intro h c hc
        have hw1 : ∀ c ∈ tl w, c ≠ 124 := fun c hc => by
          have := h w List.mem_cons_self
          unfold okW at this
          have := List.all_eq_true.mp this c hc
          simp only [Bool.and_eq_true, Bool.not_eq_true', beq_eq_false_iff_ne] at this
          exact this.2
        cases r with
        | nil => exact hw1 c hc
        | cons w2 r2 =>
          rw [List.map_cons, List.map_cons, joinL_cons2, List.mem_append, List.mem_append] at hc
          rcases hc with hc | hc | hc
          · exact hw1 c hc
          · rw [List.mem_singleton] at hc; omega
          · exact ih (fun x hx => h x (List.mem_cons_of_mem _ hx)) c hc
    exact this _ hw c hcx
  have hs := txH_sum hp.ok hp.cn
  have htl : (tl (txP p)).length ≤ 1000000 := by
    have key : ∀ ws : List Str, (tl (Txt.join " || " ws)).length ≤ (ws.map (·.length)).sum + 4 * ws.length := by
      intro ws
      induction ws with
      | nil => rw [tl_jn]; simp [joinL]
      | cons w r ih =>
        cases r with
        | nil => rw [tl_jn]; simp [joinL_one, len_tl]
        | cons w2 r2 =>
          have e4 : (tl (" || " : Str)).length = 4 := by decide +kernel
          rw [join_cons2, tl_append, tl_append, List.length_append, List.length_append, e4]
          simp only [List.map_cons, List.sum_cons, List.length_cons] at ih ⊢
          rw [len_tl]; omega
    have := key (p.map txH)
    rw [List.length_map] at this
    unfold txP; omega
  have a1 := b_split (S := S) (x := txP p) (y := " || ") (by decide +kernel) htl hsp
  have hL : listAt (S ++ [.lst ((p.map txH).map D.str)]) S.length = some (p.map fun h => D.str (txH h)) := by rw [l_last, List.map_map]; rfl
  obtain ⟨S', c1, c2, c3⟩ := er_lcG (q := q) (W := W) (k := k + 17) (i := .itv (.mt .split (.var 0) (.cons (.lit (.str " || ")) .nil))) (a := .call 905 [0, 1] (.cons (.var 0) (.cons (.var 1) .nil)) .nil) (t := .nm 1) (own := [1]) (e := [some (.str (txP p)), none]) (S := S) (fun h => D.str (txH h)) dL
    (itv_lst (er_mt (er_var rfl) (er_cons (er_lit rfl) er_nil) rfl a1) hL) (fun S2 h2 => chk_lst hL h2) (by rw [sizeLine_eq]; omega) (fun h hh S1 hS => by
      obtain ⟨S2, r1, r2⟩ := phand_p Q hW k S1 (txP p) (hp.ok h hh) (hp.cn h hh)
      exact ⟨[some (.str (txP p)), some (.str (txH h))], S2, rfl, er_call (er_cons (er_var rfl) (er_cons (er_var rfl) er_nil)) er_nil rfl r1, r2⟩)
  refine ⟨S', ?_, Kp.push.trans c2⟩
  refine' run_rt (e0 := [some _, none]) Q.f904 rfl rfl ?h
  case h =>
    unfold b_904
    exact es_rt (es_ret (er_bi (er_cons c1 er_nil) (b_tupL (l_lst c3))))
end
end Tm

set_option Elab.async false
set_option linter.all false
set_option maxRecDepth 100000
set_option maxHeartbeats 8000000
namespace Tm
open PySem L2 TL
theorem min_bd {x : Int} (h : 0 ≤ x) : 0 ≤ (if x < 100000 then x else 100000) ∧ (if x < 100000 then x else (100000 : Int)) ≤ 100000 := by split <;> omega
theorem max_bd {x y : Int} (h : 0 ≤ x ∧ x ≤ 100000) (g : 0 ≤ y ∧ y ≤ 100000) : 0 ≤ (if y > x then y else x) ∧ (if y > x then y else x) ≤ 100000 := by split <;> omega
section
variable {q : Pr} (Q : HK q) {W : Nat}
include Q
theorem readp_p (hW : 30 ≤ W) (k : Nat) (S : Store) {p : List (List Stm)} (hp : OkP p) : ∃ S', run q W (k + 19) 911 [.str (txP p)] S = some (dP p, S') ∧ Kp [] S S' := by
  obtain ⟨S1, a1, k1⟩ := parse_p Q hW k S hp
  obtain ⟨S2, a2, k2⟩ := isprog_p Q (W := W) hp (k + 2) S1
  obtain ⟨S3, a3, k3⟩ := showP_p Q (W := W) hp (k + 4) S2
  have a0 : run q W (k + 18) 909 [.str (txP p)] S = some (.non, S) := by
    rw [run_at q W (k + 17) 909 _ S Q.f909 rfl]
    have : ex (pm q W (k + 17)) b_909 (env0 1 1 [.str (txP p)]) S = some (.nx, [some (.str (txP p))], S) := by
      unfold b_909
      exact es_nx (es_if_f (er_not_f (er_isty (er_var rfl) rfl)) es_skip) es_skip
    rw [this]; rfl
  have a4 : run q W (k + 18) 910 [.str (txP p), .str (txP p)] S3 = some (.non, S3) := by
    rw [run_at q W (k + 17) 910 _ S3 Q.f910 rfl]
    have : ex (pm q W (k + 17)) b_910 (env0 2 2 [.str (txP p), .str (txP p)]) S3 = some (.nx, [some (.str (txP p)), some (.str (txP p))], S3) := by
      unfold b_910
      exact es_nx (es_if_f (er_cmp (er_var rfl) (er_var rfl) (c_strn_f rfl)) es_skip) es_skip
    rw [this]; rfl
  refine ⟨S3, ?_, (k1.trans k2).trans k3⟩
  refine' run_rt (e0 := [some _, none]) Q.f911 rfl rfl ?h
  case h =>
    unfold b_911
    refine' es_nx (es_drop (er_call (er_cons (er_var rfl) er_nil) er_nil rfl a0)) ?_
    refine' es_nx (es_asg (er_call (er_cons (er_var rfl) er_nil) er_nil rfl a1) rfl) ?_
    refine' es_nx (es_if_f (er_not_f (er_call (er_cons (er_var rfl) er_nil) er_nil rfl a2)) es_skip) ?_
    refine' es_nx (es_drop (er_call (er_cons (er_var rfl) (er_cons (er_call (er_cons (er_var rfl) er_nil) er_nil rfl a3) er_nil)) er_nil rfl a4)) ?_
    exact es_rt (es_ret (er_var rfl))
/-! ### how long it is, how many ways it has -/
def b_925l : St := (.seq (.asg (.tp 2 (.cons (.nm 4) (.cons (.nm 5) .nil))) (.tup (.cons (.lit (.int 1)) (.cons (.lit (.int 1)) .nil))))
  (.seq (.ifs (.cmp .eq (.idx (.var 3) (.lit (.int 0))) (.lit (.str "if"))) (.seq (.asg (.tp 2 (.cons (.nm 6) (.cons (.nm 7) .nil))) (.tup (.cons (.call 925 [0] (.cons (.idx (.var 3) (.lit (.int 2))) .nil) .nil) (.cons (.call 925 [0] (.cons (.idx (.var 3) (.lit (.int 3))) .nil) .nil) .nil))))
  (.seq (.asg (.tp 2 (.cons (.nm 4) (.cons (.nm 5) .nil))) (.tup (.cons (.bin .add (.lit (.int 1)) (.bi .max (.cons (.idx (.var 6) (.lit (.int 0))) (.cons (.idx (.var 7) (.lit (.int 0))) .nil)))) (.cons (.bin .add (.idx (.var 6) (.lit (.int 1))) (.idx (.var 7) (.lit (.int 1)))) .nil))))
  .skip)) .skip)
  (.seq (.ifs (.cmp .eq (.idx (.var 3) (.lit (.int 0))) (.lit (.str "again"))) (.seq (.asg (.nm 8) (.call 925 [0] (.cons (.idx (.var 3) (.lit (.int 2))) .nil) .nil))
  (.seq (.asg (.tp 2 (.cons (.nm 4) (.cons (.nm 5) .nil))) (.tup (.cons (.bin .mul (.idx (.var 3) (.lit (.int 1))) (.idx (.var 8) (.lit (.int 0)))) (.cons (.lit (.int 1)) .nil))))
  (.seq (.for_ (.irng (.cons (.idx (.var 3) (.lit (.int 1))) .nil)) (.nm 9) (.seq (.asg (.nm 5) (.bi .min (.cons (.lit (.int 100000)) (.cons (.bin .mul (.var 5) (.idx (.var 8) (.lit (.int 1)))) .nil))))
  .skip))
  .skip))) .skip)
  (.seq (.asg (.tp 2 (.cons (.nm 1) (.cons (.nm 2) .nil))) (.tup (.cons (.bi .min (.cons (.lit (.int 100000)) (.cons (.bin .add (.var 1) (.var 4)) .nil))) (.cons (.bi .min (.cons (.lit (.int 100000)) (.cons (.bin .mul (.var 2) (.var 5)) .nil))) .nil))))
  .skip))))
theorem meas_p : ∀ (m : Nat) (l : List Stm), okL m l → ∀ (k : Nat) (S : Store), ∃ (a b : Int) (S' : Store), run q W (k + m + 1) 925 [dL l] S = some (.tup [.int a, .int b], S') ∧ (0 ≤ a ∧ a ≤ 100000) ∧ (0 ≤ b ∧ b ≤ 100000) ∧ Kp [] S S' := by
  intro m
  induction m with
  | zero =>
    intro l hl k S
    rw [okL0 hl]
    refine ⟨0, 1, S, ?_, by omega, by omega, Kp.refl _ _⟩
    refine' run_rt (e0 := [some _, none, none, none, none, none, none, none, none, none]) Q.f925 rfl rfl ?h
    case h =>
      unfold b_925
      exact es_nx (es_asg (er_tup (er_cons (er_lit rfl) (er_cons (er_lit rfl) er_nil)) (Nat.le_of_ble_eq_true rfl)) rfl) (es_nx (es_for (itv_tup (ds := []) (er_var rfl)) (forL_nil rfl)) (es_rt (es_ret (er_tup (er_cons (er_var rfl) (er_cons (er_var rfl) er_nil)) (Nat.le_of_ble_eq_true rfl)))))
  | succ m ih =>
    intro l hl k S
    obtain ⟨e', S', f1, f2⟩ := forL_inv (bod := ex (pm q W (k + m + 1)) b_925l) (t := .nm 3) (cks := []) (fun ds e S1 => ∃ (l' : List Stm) (a b : Int) (x3 x4 x5 x6 x7 x8 x9 : Option D), ds = l'.map encS ∧ okL (m + 1) l' ∧ e = [some (dL l), some (.int a), some (.int b), x3, x4, x5, x6, x7, x8, x9] ∧ (0 ≤ a ∧ a ≤ 100000) ∧ (0 ≤ b ∧ b ≤ 100000) ∧ Kp [] S S1)
      (fun _ _ _ _ => rfl)
      (fun d ds e S1 hI => by
        obtain ⟨l', a, b, x3, x4, x5, x6, x7, x8, x9, hd, hok, rfl, ha, hb, hk⟩ := hI
        cases l' with
        | nil => cases hd
        | cons s l' =>
          rw [List.map_cons] at hd
          injection hd with hd1 hd2
          subst hd1
          have hok' : okL (m + 1) l' := fun x hx => hok x (List.mem_cons_of_mem _ hx)
          have fin : ∀ (more ways : Int) (y6 y7 y8 y9 : Option D) (S2 : Store), 0 ≤ more → 0 ≤ ways → ways ≤ 300000 → ∃ a' b' : Int, ex (pm q W (k + m + 1)) (.seq (.asg (.tp 2 (.cons (.nm 1) (.cons (.nm 2) .nil))) (.tup (.cons (.bi .min (.cons (.lit (.int 100000)) (.cons (.bin .add (.var 1) (.var 4)) .nil))) (.cons (.bi .min (.cons (.lit (.int 100000)) (.cons (.bin .mul (.var 2) (.var 5)) .nil))) .nil)))) .skip)
              [some (dL l), some (.int a), some (.int b), some (encS s), some (.int more), some (.int ways), y6, y7, y8, y9] S2 = some (.nx, [some (dL l), some (.int a'), some (.int b'), some (encS s), some (.int more), some (.int ways), y6, y7, y8, y9], S2) ∧ (0 ≤ a' ∧ a' ≤ 100000) ∧ (0 ≤ b' ∧ b' ≤ 100000) := by
            intro more ways y6 y7 y8 y9 S2 h1 h2 h3
            refine ⟨_, _, es_nx (es_asg (er_tup (er_cons (er_bi (er_cons (er_lit rfl) (er_cons (er_bin (er_var rfl) (er_var rfl) o_add) er_nil)) b_min) (er_cons (er_bi (er_cons (er_lit rfl) (er_cons (er_bin (er_var rfl) (er_var rfl) (o_mulS (by omega))) er_nil)) b_min) er_nil)) (Nat.le_of_ble_eq_true rfl)) rfl) es_skip, min_bd (by omega), min_bd (Int.mul_nonneg hb.1 h2)⟩
          cases s with
          | pl nm as =>
            have hp : Pl nm as := hok _ List.mem_cons_self
            obtain ⟨ks, h1, _⟩ := hp
            obtain ⟨_, _, n1, n2, _⟩ := form_at h1
            obtain ⟨a', b', g1, g2, g3⟩ := fin 1 1 x6 x7 x8 x9 S1 (by omega) (by omega) (by omega)
            have i0 : ev (pm q W (k + m + 1)) (.idx (.var 3) (.lit (.int 0))) [some (dL l), some (.int a), some (.int b), some (encS (.pl nm as)), some (.int 1), some (.int 1), x6, x7, x8, x9] S1 = some (.str nm, S1) := er_idx (er_var rfl) (er_lit rfl) (by rw [enc_pl]; exact i_tup (atN (n := 0) rfl))
            refine ⟨_, _, S1, rfl, .inl ?_, ⟨l', a', b', some (encS (.pl nm as)), some (.int 1), some (.int 1), x6, x7, x8, x9, hd2, hok', rfl, g2, g3, hk⟩⟩
            unfold b_925l
            exact es_nx (es_asg (er_tup (er_cons (er_lit rfl) (er_cons (er_lit rfl) er_nil)) (Nat.le_of_ble_eq_true rfl)) rfl) (es_nx (es_if_f (er_cmp i0 (er_lit rfl) (c_str_f n1)) es_skip) (es_nx (es_if_f (er_cmp i0 (er_lit rfl) (c_str_f n2)) es_skip) g1))
          | ife v c d =>
            obtain ⟨hv, hc, hd'⟩ := hok _ List.mem_cons_self
            obtain ⟨a1, b1, S2, r1, ha1, hb1, k1⟩ := ih c hc k S1
            obtain ⟨a2, b2, S3, r2, ha2, hb2, k2⟩ := ih d hd' k S2
            have mb := max_bd ha1 ha2
            obtain ⟨a', b', g1, g2, g3⟩ := fin (1 + (if a2 > a1 then a2 else a1)) (b1 + b2) (some (.tup [.int a1, .int b1])) (some (.tup [.int a2, .int b2])) x8 x9 S3 (by omega) (by omega) (by omega)
            have i0 : ∀ y6 y7 y4 y5 S, ev (pm q W (k + m + 1)) (.idx (.var 3) (.lit (.int 0))) [some (dL l), some (.int a), some (.int b), some (encS (.ife v c d)), y4, y5, y6, y7, x8, x9] S = some (.str "if", S) := fun y6 y7 y4 y5 S => er_idx (er_var rfl) (er_lit rfl) (by rw [enc_ife]; exact i_tup (atN (n := 0) rfl))
            have i2 : ∀ S, ev (pm q W (k + m + 1)) (.idx (.var 3) (.lit (.int 2))) [some (dL l), some (.int a), some (.int b), some (encS (.ife v c d)), some (.int 1), some (.int 1), x6, x7, x8, x9] S = some (dL c, S) := fun S => er_idx (er_var rfl) (er_lit rfl) (by rw [enc_ife]; exact i_tup (atN (n := 2) rfl))
            have i3 : ∀ S, ev (pm q W (k + m + 1)) (.idx (.var 3) (.lit (.int 3))) [some (dL l), some (.int a), some (.int b), some (encS (.ife v c d)), some (.int 1), some (.int 1), x6, x7, x8, x9] S = some (dL d, S) := fun S => er_idx (er_var rfl) (er_lit rfl) (by rw [enc_ife]; exact i_tup (atN (n := 3) rfl))
            refine ⟨_, _, S3, rfl, .inl ?_, ⟨l', a', b', some (encS (.ife v c d)), some (.int (1 + (if a2 > a1 then a2 else a1))), some (.int (b1 + b2)), some (.tup [.int a1, .int b1]), some (.tup [.int a2, .int b2]), x8, x9, hd2, hok', rfl, g2, g3, (hk.trans k1).trans k2⟩⟩
            unfold b_925l
            refine es_nx (es_asg (er_tup (er_cons (er_lit rfl) (er_cons (er_lit rfl) er_nil)) (Nat.le_of_ble_eq_true rfl)) rfl) ?_
            refine es_nx (e1 := [some (dL l), some (.int a), some (.int b), some (encS (.ife v c d)), some (.int (1 + (if a2 > a1 then a2 else a1))), some (.int (b1 + b2)), some (.tup [.int a1, .int b1]), some (.tup [.int a2, .int b2]), x8, x9]) (S1 := S3) (es_if_t (er_cmp (i0 _ _ _ _ _) (er_lit rfl) (c_str_t rfl)) ?_) ?_
            · refine es_nx (es_asg (er_tup (er_cons (er_call (er_cons (i2 _) er_nil) er_nil rfl r1) (er_cons (er_call (er_cons (i3 _) er_nil) er_nil rfl r2) er_nil)) (Nat.le_of_ble_eq_true rfl)) rfl) ?_
              exact es_nx (es_asg (er_tup (er_cons (er_bin (er_lit rfl) (er_bi (er_cons (er_idx (er_var rfl) (er_lit rfl) (i_tup (atN (n := 0) rfl))) (er_cons (er_idx (er_var rfl) (er_lit rfl) (i_tup (atN (n := 0) rfl))) er_nil)) b_max) o_add) (er_cons (er_bin (er_idx (er_var rfl) (er_lit rfl) (i_tup (atN (n := 1) rfl))) (er_idx (er_var rfl) (er_lit rfl) (i_tup (atN (n := 1) rfl))) o_add) er_nil)) (Nat.le_of_ble_eq_true rfl)) rfl) es_skip
            · exact es_nx (es_if_f (er_cmp (i0 _ _ _ _ _) (er_lit rfl) (c_str_f (by decide))) es_skip) g1
          | agn v c =>
            obtain ⟨hv, hc⟩ := hok _ List.mem_cons_self
            obtain ⟨a1, b1, S2, r1, ha1, hb1, k1⟩ := ih c hc k S1
            have i0 : ∀ y8 y4 y5 y9 S, ev (pm q W (k + m + 1)) (.idx (.var 3) (.lit (.int 0))) [some (dL l), some (.int a), some (.int b), some (encS (.agn v c)), y4, y5, x6, x7, y8, y9] S = some (.str "again", S) := fun y8 y4 y5 y9 S => er_idx (er_var rfl) (er_lit rfl) (by rw [enc_agn]; exact i_tup (atN (n := 0) rfl))
            have i1 : ∀ y8 y4 y5 y9 S, ev (pm q W (k + m + 1)) (.idx (.var 3) (.lit (.int 1))) [some (dL l), some (.int a), some (.int b), some (encS (.agn v c)), y4, y5, x6, x7, y8, y9] S = some (.int v, S) := fun y8 y4 y5 y9 S => er_idx (er_var rfl) (er_lit rfl) (by rw [enc_agn]; exact i_tup (atN (n := 1) rfl))
            have i2 : ∀ S, ev (pm q W (k + m + 1)) (.idx (.var 3) (.lit (.int 2))) [some (dL l), some (.int a), some (.int b), some (encS (.agn v c)), some (.int 1), some (.int 1), x6, x7, x8, x9] S = some (dL c, S) := fun S => er_idx (er_var rfl) (er_lit rfl) (by rw [enc_agn]; exact i_tup (atN (n := 2) rfl))
            obtain ⟨e2, S3, l1, l2⟩ := forL_inv (bod := ex (pm q W (k + m + 1)) (.seq (.asg (.nm 5) (.bi .min (.cons (.lit (.int 100000)) (.cons (.bin .mul (.var 5) (.idx (.var 8) (.lit (.int 1)))) .nil)))) .skip)) (t := .nm 9) (cks := []) (fun _ e S4 => S4 = S2 ∧ ∃ (ways : Int) (y9 : Option D), (0 ≤ ways ∧ ways ≤ 100000) ∧ e = [some (dL l), some (.int a), some (.int b), some (encS (.agn v c)), some (.int (v * a1)), some (.int ways), x6, x7, some (.tup [.int a1, .int b1]), y9])
              (fun _ _ _ _ => rfl) (fun d ds e S4 hI => by
                obtain ⟨rfl, ways, y9, hw, rfl⟩ := hI
                refine ⟨_, _, S4, rfl, .inl (es_nx (es_asg (er_bi (er_cons (er_lit rfl) (er_cons (er_bin (er_var rfl) (er_idx (er_var rfl) (er_lit rfl) (i_tup (atN (n := 1) rfl))) (o_mulS (by omega))) er_nil)) b_min) rfl) es_skip), rfl, _, _, min_bd (Int.mul_nonneg hw.1 hb1.1), rfl⟩)
              ((List.range v).map fun (i : Nat) => D.int (i : Int)) [some (dL l), some (.int a), some (.int b), some (encS (.agn v c)), some (.int (v * a1)), some (.int 1), x6, x7, some (.tup [.int a1, .int b1]), x9] S2 ⟨rfl, 1, x9, by omega, rfl⟩
            obtain ⟨rfl, ways, y9, hw, rfl⟩ := l2
            obtain ⟨a', b', g1, g2, g3⟩ := fin (v * a1) ways x6 x7 (some (.tup [.int a1, .int b1])) y9 S3 (Int.mul_nonneg (by omega) ha1.1) hw.1 (by omega)
            refine ⟨_, _, S3, rfl, .inl ?_, ⟨l', a', b', some (encS (.agn v c)), some (.int (v * a1)), some (.int ways), x6, x7, some (.tup [.int a1, .int b1]), y9, hd2, hok', rfl, g2, g3, hk.trans k1⟩⟩
            unfold b_925l
            refine es_nx (es_asg (er_tup (er_cons (er_lit rfl) (er_cons (er_lit rfl) er_nil)) (Nat.le_of_ble_eq_true rfl)) rfl) ?_
            refine es_nx (es_if_f (er_cmp (i0 _ _ _ _ _) (er_lit rfl) (c_str_f (by decide))) es_skip) ?_
            refine es_nx (e1 := [some (dL l), some (.int a), some (.int b), some (encS (.agn v c)), some (.int (v * a1)), some (.int ways), x6, x7, some (.tup [.int a1, .int b1]), y9]) (S1 := S3) (es_if_t (er_cmp (i0 _ _ _ _ _) (er_lit rfl) (c_str_t rfl)) ?_) g1
            refine es_nx (es_asg (er_call (er_cons (i2 _) er_nil) er_nil rfl r1) rfl) ?_
            refine es_nx (es_asg (er_tup (er_cons (er_bin (i1 _ _ _ _ _) (er_idx (er_var rfl) (er_lit rfl) (i_tup (atN (n := 0) rfl))) (o_mulS (by omega))) (er_cons (er_lit rfl) er_nil)) (Nat.le_of_ble_eq_true rfl)) rfl) ?_
            exact es_nx (es_for (er_rng (n := v) (er_cons (i1 _ _ _ _ _) er_nil) (by omega)) l1) es_skip)
      (l.map encS) [some (dL l), some (.int 0), some (.int 1), none, none, none, none, none, none, none] S ⟨l, 0, 1, none, none, none, none, none, none, none, rfl, hl, rfl, by omega, by omega, Kp.refl _ _⟩
    obtain ⟨l', a, b, x3, x4, x5, x6, x7, x8, x9, _, _, rfl, ha, hb, hk⟩ := f2
    refine ⟨a, b, S', ?_, ha, hb, hk⟩
    refine' run_rt (e0 := [some _, none, none, none, none, none, none, none, none, none]) Q.f925 rfl rfl ?h
    case h =>
      unfold b_925
      have ff := f1
      unfold b_925l at ff
      exact es_nx (es_asg (er_tup (er_cons (er_lit rfl) (er_cons (er_lit rfl) er_nil)) (Nat.le_of_ble_eq_true rfl)) rfl) (es_nx (es_for (itv_tup (ds := l.map encS) (er_var rfl)) ff) (es_rt (es_ret (er_tup (er_cons (er_var rfl) (er_cons (er_var rfl) er_nil)) (Nat.le_of_ble_eq_true rfl)))))
end
end Tm

set_option Elab.async false
set_option linter.all false
set_option maxRecDepth 100000
set_option maxHeartbeats 8000000
namespace Tm
open PySem L2 TL
/-! ## the well: numbers that are drawn -/
def Wel (S : Store) (a : Nat) (c : Int) : Prop := ∃ x m n : Int, S[a]? = some (.lst [.int x, .int m, .int n]) ∧ 0 ≤ m ∧ m < 10 ^ 30 ∧ 0 ≤ n ∧ n ≤ c
theorem Wel.kp {S S' : Store} {a : Nat} {c : Int} {A : List Nat} (h : Wel S a c) (k : Kp A S S') (n : a ∉ A) : Wel S' a c := by
  obtain ⟨x, m, n', h1, h2⟩ := h
  exact ⟨x, m, n', k _ _ n h1, h2⟩
theorem Wel.le {S : Store} {a : Nat} {c d : Int} (h : Wel S a c) (k : c ≤ d) : Wel S a d := by
  obtain ⟨x, m, n', h1, h2, h3, h4, h5⟩ := h
  exact ⟨x, m, n', h1, h2, h3, h4, by omega⟩
theorem Wel.lt {S : Store} {a : Nat} {c : Int} (h : Wel S a c) : a < S.length := by
  obtain ⟨x, m, n', h1, _⟩ := h
  exact (List.getElem?_eq_some_iff.mp h1).1
theorem Wel.push {S : Store} {a : Nat} {c : Int} {o : O} (h : Wel S a c) : Wel (S ++ [o]) a c := h.kp (A := []) Kp.push (by simp)
theorem Kp.set_newA {A : List Nat} {S0 S : Store} {n : Nat} {o : O} (h : Kp A S0 S) (hn : S0.length ≤ n) : Kp A S0 (S.set n o) := fun i u x e => by
  have := (List.getElem?_eq_some_iff.mp e).1
  rw [List.getElem?_set_ne (by omega)]
  exact h i u x e
theorem Wel.setN {S : Store} {a n : Nat} {c : Int} {o : O} (h : Wel S a c) (hn : n ≠ a) : Wel (S.set n o) a c := h.kp (A := [n]) Kp.set (by simp; exact fun z => hn z.symm)
/-- a comprehension whose items draw -/
theorem lcW {α β : Type} {cnd elt : Env' → Store → Option (D × Store)} {t : Tg} {w : Env'} {cks : List D} {n a : Nat} {S0 : Store} (N B : Int) (h : α → D) (enc : β → D) (R : α → β → Prop) (hck : ∀ S, Kp [a] S0 S → chks S cks = true) (hn : S0.length ≤ n) (ha : a < S0.length) :
    ∀ (l : List α) (acc : List D) (S : Store) (c : Int),
    (∀ x ∈ l, ∀ S c, Wel S a c → c + N ≤ B → Kp [a] S0 S → ∃ e1 b S2, bindT t (h x) S w = some e1 ∧ cnd e1 S = some (.bl true, S) ∧ elt e1 S = some (enc b, S2) ∧ R x b ∧ Wel S2 a (c + N) ∧ Kp [a] S S2) →
    Wel S a c → 0 ≤ N → c + N * (l.length : Int) ≤ B → S[n]? = some (.lst acc) → Kp [a] S0 S → acc.length + l.length ≤ sizeLine →
    ∃ bs S', lcL cnd elt t cks w n (l.map h) S = some S' ∧ bs.length = l.length ∧ (∀ p ∈ l.zip bs, R p.1 p.2) ∧ S'[n]? = some (.lst (acc ++ bs.map enc)) ∧ Wel S' a (c + N * (l.length : Int)) ∧ Kp [a] S0 S' := by
  intro l
  induction l with
  | nil => intro acc S c _ h1 hN h2 h3 h4 _; exact ⟨[], S, by simp only [List.map_nil, lcL, hck S h4, if_true], rfl, (by intro p hp; simp at hp), by simpa using h3, by simpa using h1, h4⟩
  | cons x l ih =>
    intro acc S c hs h1 hN h2 h3 h4 h5
    have hm : N * ((x :: l).length : Int) = N + N * (l.length : Int) := by rw [List.length_cons]; push_cast; rw [Int.mul_add, Int.mul_one]; omega
    rw [hm] at h2 ⊢
    have hNl : 0 ≤ N * (l.length : Int) := Int.mul_nonneg hN (by omega)
    obtain ⟨e1, b, S2, g1, g2, g3, g4, g5, g6⟩ := hs x List.mem_cons_self S c h1 (by omega) h4
    have hna : n ≠ a := by omega
    have h3' := g6 n _ (by simp; exact hna) h3
    simp only [List.length_cons] at h5
    obtain ⟨bs, S', k1, k2, k3, k4, k5, k6⟩ := ih (acc ++ [enc b]) (S2.set n (.lst (acc ++ [enc b]))) (c + N) (fun y hy => hs y (List.mem_cons_of_mem _ hy)) (g5.setN hna) hN (by omega) (set_get h3') ((h4.trans g6).set_newA hn) (by simp; omega)
    refine ⟨b :: bs, S', ?_, by simp [k2], ?_, by rw [k4]; simp, by rw [← Int.add_assoc]; exact k5, k6⟩
    · simp only [List.map_cons, lcL, hck S h4, if_true, g1, g2, g3, Option.bind_some, push_at h3' (show acc.length < sizeLine by omega)]; exact k1
    · intro p hp
      rw [List.zip_cons_cons] at hp
      rcases List.mem_cons.mp hp with rfl | hp
      · exact g4
      · exact k3 p hp
theorem er_lcW {α β : Type} {q : Pr} {W k : Nat} {i el : C} {t : Tg} {own : List Nat} {e : Env'} {S S1 : Store} {l : List α} {cks : List D} {a : Nat} {c : Int} (N B : Int) (h : α → D) (enc : β → D) (R : α → β → Prop) (h1 : ev (pm q W k) i e S = some (itD (l.map h) cks, S1)) (hck : ∀ S, Kp [a] S1 S → chks S cks = true)
    (step : ∀ x ∈ l, ∀ S c, Wel S a c → c + N ≤ B → Kp [a] S1 S → ∃ e1 b S2, bindT t (h x) S (wipeE e own) = some e1 ∧ ev (pm q W k) el e1 S = some (enc b, S2) ∧ R x b ∧ Wel S2 a (c + N) ∧ Kp [a] S S2)
    (hs : Wel S1 a c) (hN : 0 ≤ N) (hB : c + N * (l.length : Int) ≤ B) (hl : l.length ≤ sizeLine) :
    ∃ bs S', ev (pm q W k) (.lc i t (.lit (.bl true)) el own) e S = some (.ref S1.length, S') ∧ bs.length = l.length ∧ (∀ p ∈ l.zip bs, R p.1 p.2) ∧ S'[S1.length]? = some (.lst (bs.map enc)) ∧ Wel S' a (c + N * (l.length : Int)) ∧ Kp [a] S1 S' := by
  obtain ⟨bs, S', k1, k2, k3, k4, k5, k6⟩ := lcW (cnd := ev (pm q W k) (.lit (.bl true))) (elt := ev (pm q W k) el) (t := t) (w := wipeE e own) (n := S1.length) (S0 := S1) N B h enc R hck (Nat.le_refl _) hs.lt l [] (S1 ++ [.lst []]) c
    (fun x hx S c h1 h2 h3 => by obtain ⟨e1, b, S2, g1, g2, g3⟩ := step x hx S c h1 h2 h3; exact ⟨e1, b, S2, g1, er_lit rfl, g2, g3⟩) hs.push hN hB g_last Kp.push (by simpa using hl)
  exact ⟨bs, S', er_lc h1 k1, k2, k3, by simpa using k4, k5, k6⟩
theorem int_at {l : List D} {r : Int} (h0 : 0 ≤ r) (h1 : r < l.length) : ∃ d, atI l r = some d ∧ d ∈ l := by
  have hl : r.toNat < l.length := by omega
  exact ⟨l[r.toNat], at_pos h0 (List.getElem?_eq_getElem hl), List.getElem_mem hl⟩
theorem er_ienum {q : Pr} {W k : Nat} {e : Env'} {S S1 : Store} {a : C} {n : Nat} {xs : List D} (h : ev (pm q W k) a e S = some (.ref n, S1)) (hn : listAt S1 n = some xs) : ev (pm q W k) (.ienum a) e S = some (itD (enumF 0 xs) [.tup [.ref n, .tup xs]], S1) := by
  simp only [ev, h, Option.bind_some, itOfL, hn, Option.map_some]
section
variable {q : Pr} (Q : HK q) {W : Nat}
include Q
theorem dip_a (k : Nat) {S : Store} {a : Nat} {x m c many : Int} (hS : S[a]? = some (.lst [.int x, .int m, .int c])) (hx : 0 < x) (hm : 0 < many) (hl : Sm many) :
    run q W (k + 1) 913 [.ref a, .int many] S = some (.int (x % many), S.set a (.lst [.int (x / many), .int m, .int c])) := by
  have i0 : ∀ v2 v3, ev (pm q W k) (.idx (.var 0) (.lit (.int 0))) [some (.ref a), some (.int many), v2, v3] S = some (.int x, S) := fun v2 v3 => er_idx (er_var rfl) (er_lit rfl) (i_lst (l_lst hS) (atN (n := 0) rfl))
  refine' run_rt (e0 := [some _, some _, none, none]) Q.f913 rfl rfl ?h
  case h =>
    unfold b_913
    refine' es_rt (es_if_t (er_cmp (i0 _ _) (er_lit rfl) (c_gt_t hx)) ?g)
    case g =>
      exact es_nx (es_asg (er_bin (er_bi (er_cons (i0 _ _) er_nil) b_int) (er_var rfl) (o_mod hm)) rfl) (es_nx (es_seti (er_bin (i0 _ _) (er_var rfl) (o_div hm hl)) (er_var rfl) (er_lit rfl) (s_set hS rfl)) (es_rt (es_ret (er_var rfl))))
theorem dip_b (k : Nat) {S : Store} {a : Nat} {x m c many : Int} (hS : S[a]? = some (.lst [.int x, .int m, .int c])) (hx : ¬ 0 < x) (hm0 : 0 ≤ m) (hm : m < 10 ^ 30) (hc0 : 0 ≤ c) (hc : c < 10 ^ 12) (hn : 0 < many) (hl : Sm many) :
    ∃ r, run q W (k + 1) 913 [.ref a, .int many] S = some (.int r, S.set a (.lst [.int x, .int m, .int (c + 1)])) ∧ 0 ≤ r ∧ r < many := by
  have w3 : 0 < (10 : Int) ^ (31 : Int).toNat + 33 := by decide
  have w4 : 0 < (10 : Int) ^ (30 : Int).toNat + 57 := by decide
  have w5 := Int.emod_lt_of_pos ((m + 104729 * (c + 1)) ^ (3 : Int).toNat + 611953 * (c + 1)) w3
  have w6 := Int.emod_nonneg ((m + 104729 * (c + 1)) ^ (3 : Int).toNat + 611953 * (c + 1)) (show (10 : Int) ^ (31 : Int).toNat + 33 ≠ 0 by decide)
  have w8 : ((10 : Int) ^ (31 : Int).toNat + 33) < 2 ^ 110 := by decide
  generalize hg : ((m + 104729 * (c + 1)) ^ (3 : Int).toNat + 611953 * (c + 1)) % ((10 : Int) ^ (31 : Int).toNat + 33) = g at w5 w6
  have w7 : Sm g := by unfold Sm; omega
  have w9 : Sm (g + 5381) := by unfold Sm; omega
  have i0 : ∀ v2 v3, ev (pm q W k) (.idx (.var 0) (.lit (.int 0))) [some (.ref a), some (.int many), v2, v3] S = some (.int x, S) := fun v2 v3 => er_idx (er_var rfl) (er_lit rfl) (i_lst (l_lst hS) (atN (n := 0) rfl))
  have i2 : ∀ v2 v3, ev (pm q W k) (.idx (.var 0) (.lit (.int 2))) [some (.ref a), some (.int many), v2, v3] S = some (.int c, S) := fun v2 v3 => er_idx (er_var rfl) (er_lit rfl) (i_lst (l_lst hS) (atN (n := 2) rfl))
  have hS' : (S.set a (.lst [.int x, .int m, .int (c + 1)]))[a]? = some (.lst [.int x, .int m, .int (c + 1)]) := set_get hS
  have j1 : ∀ v2 v3, ev (pm q W k) (.idx (.var 0) (.lit (.int 1))) [some (.ref a), some (.int many), v2, v3] (S.set a (.lst [.int x, .int m, .int (c + 1)])) = some (.int m, S.set a (.lst [.int x, .int m, .int (c + 1)])) := fun v2 v3 => er_idx (er_var rfl) (er_lit rfl) (i_lst (l_lst hS') (atN (n := 1) rfl))
  have j2 : ∀ v2 v3, ev (pm q W k) (.idx (.var 0) (.lit (.int 2))) [some (.ref a), some (.int many), v2, v3] (S.set a (.lst [.int x, .int m, .int (c + 1)])) = some (.int (c + 1), S.set a (.lst [.int x, .int m, .int (c + 1)])) := fun v2 v3 => er_idx (er_var rfl) (er_lit rfl) (i_lst (l_lst hS') (atN (n := 2) rfl))
  refine ⟨(g * (g + 5381)) % ((10 : Int) ^ (30 : Int).toNat + 57) / 9973 % many, ?_, Int.emod_nonneg _ (by omega), Int.emod_lt_of_pos _ hn⟩
  refine' run_rt (e0 := [some _, some _, none, none]) Q.f913 rfl rfl ?h
  case h =>
    unfold b_913
    refine' es_nx (es_if_f (er_cmp (i0 _ _) (er_lit rfl) (c_gt_f hx)) es_skip) ?_
    refine' es_nx (es_seti (er_bin (i2 _ _) (er_lit rfl) o_add) (er_var rfl) (er_lit rfl) (s_set hS rfl)) ?_
    have mx : ev (pm q W k) (.bin .mod (.bi .int (.cons (.bin .add (.bin .pow (.bin .add (.idx (.var 0) (.lit (.int 1))) (.bin .mul (.lit (.int 104729)) (.idx (.var 0) (.lit (.int 2))))) (.lit (.int 3))) (.bin .mul (.lit (.int 611953)) (.idx (.var 0) (.lit (.int 2))))) .nil)) (.bin .add (.bin .pow (.lit (.int 10)) (.lit (.int 31))) (.lit (.int 33))))
        [some (.ref a), some (.int many), none, none] (S.set a (.lst [.int x, .int m, .int (c + 1)])) = some (.int g, S.set a (.lst [.int x, .int m, .int (c + 1)])) := by
      rw [← hg]
      refine er_bin (er_bi (er_cons (er_bin (er_bin (er_bin (j1 _ _) (er_bin (er_lit rfl) (j2 _ _) (o_mulS (by omega))) o_add) (er_lit rfl) (o_powW ?_ (by decide))) (er_bin (er_lit rfl) (j2 _ _) (o_mulS (by omega))) o_add) er_nil) b_int) (er_bin (er_bin (er_lit rfl) (er_lit rfl) (o_pow (by decide) (by decide))) (er_lit rfl) o_add) (o_mod w3)
      have : (m + 104729 * (c + 1)).natAbs < 10 ^ 31 := by omega
      exact Nat.lt_of_lt_of_le this (by decide)
    refine' es_nx (es_asg mx rfl) ?_
    exact es_rt (es_ret (er_bin (er_bin (er_bin (er_bi (er_cons (er_bin (er_var rfl) (er_bin (er_var rfl) (er_lit rfl) o_add) (o_mul w7 w9)) er_nil) b_int) (er_bin (er_bin (er_lit rfl) (er_lit rfl) (o_pow (by decide) (by decide))) (er_lit rfl) o_add) (o_mod w4)) (er_lit rfl) (o_div (by decide) (by unfold Sm; decide))) (er_var rfl) (o_mod hn)))
theorem dip_p (k : Nat) {S : Store} {a : Nat} {c many : Int} (h : Wel S a c) (hc : c < 10 ^ 12) (hn : 0 < many) (hl : many ≤ 100000) :
    ∃ r S', run q W (k + 1) 913 [.ref a, .int many] S = some (.int r, S') ∧ 0 ≤ r ∧ r < many ∧ Wel S' a (c + 1) ∧ Kp [a] S S' := by
  have hl : Sm many := by unfold Sm; omega
  obtain ⟨x, m, n, h1, h2, h3, h4, h5⟩ := h
  by_cases hx : 0 < x
  · exact ⟨_, _, dip_a Q k h1 hx hn hl, Int.emod_nonneg _ (by omega), Int.emod_lt_of_pos _ hn, ⟨_, _, _, set_get h1, h2, h3, h4, by omega⟩, Kp.set⟩
  · obtain ⟨r, g1, g2, g3⟩ := dip_b Q k (W := W) h1 hx h2 h3 h4 (by omega) hn hl
    exact ⟨r, _, g1, g2, g3, ⟨_, _, _, set_get h1, h2, h3, by omega, by omega⟩, Kp.set⟩
theorem of_p (k : Nat) {S : Store} {a n : Nat} {c : Int} {xs : List D} (h : Wel S a c) (hc : c < 10 ^ 12) (hS : S[n]? = some (.lst xs)) (hna : n ≠ a) (hl0 : 1 ≤ xs.length) (hl : xs.length ≤ 100) :
    ∃ d S', run q W (k + 2) 914 [.ref a, .ref n] S = some (d, S') ∧ d ∈ xs ∧ Wel S' a (c + 1) ∧ Kp [a] S S' := by
  obtain ⟨r, S', a1, r0, r1, h', k'⟩ := dip_p Q (W := W) k h hc (many := xs.length) (by omega) (by omega)
  obtain ⟨d, d1, d2⟩ := int_at r0 r1
  have hS' : S'[n]? = some (.lst xs) := k' _ _ (by simpa using hna) hS
  refine ⟨d, S', ?_, d2, h', k'⟩
  refine' run_rt (e0 := [some _, some _]) Q.f914 rfl rfl ?h
  case h =>
    unfold b_914
    have : ev (pm q W (k + 1)) (.call 913 [0, 1] (.cons (.var 0) (.cons (.bi .len (.cons (.var 1) .nil)) .nil)) .nil) [some (.ref a), some (.ref n)] S = some (.int r, S') := er_call (er_cons (er_var rfl) (er_cons (er_bi (er_cons (er_var rfl) er_nil) (b_lenL (l_lst hS))) er_nil)) er_nil rfl a1
    exact es_rt (es_ret (er_idx (er_var rfl) this (i_lst (l_lst hS') d1)))
/-- a number drawn where a call stands -/
theorem dipc_p (k : Nat) {S : Store} {a : Nat} {c many : Int} {e : Env'} {i : Nat} (he : e[i]? = some (some (.ref a))) (h : Wel S a c) (hc : c < 10 ^ 12) (hn : 0 < many) (hl : many ≤ 100000) :
    ∃ r S', ev (pm q W (k + 1)) (.call 913 [0, 1] (.cons (.var i) (.cons (.lit (.int many)) .nil)) .nil) e S = some (.int r, S') ∧ 0 ≤ r ∧ r < many ∧ Wel S' a (c + 1) ∧ Kp [a] S S' := by
  obtain ⟨r, S', a1, a2⟩ := dip_p Q (W := W) k h hc hn hl
  exact ⟨r, S', er_call (er_cons (er_var he) (er_cons (er_lit rfl) er_nil)) er_nil rfl a1, a2⟩
theorem dword_p (k : Nat) {S : Store} {a : Nat} {c : Int} (h : Wel S a c) (hc : c + 10 < 10 ^ 12) : ∃ (v : Nat) (S' : Store), run q W (k + 3) 915 [.ref a] S = some (.int v, S') ∧ v ≤ 65535 ∧ Wel S' a (c + 5) ∧ Kp [a] S S' := by
  obtain ⟨r1, S1, a1, l1, u1, h1, k1⟩ := dipc_p Q (W := W) (k + 1) (e := [some (.ref a)]) (i := 0) rfl h (by omega) (many := 4) (by decide) (by decide)
  obtain ⟨r2, S2, a2, l2, u2, h2, k2⟩ := dipc_p Q (W := W) (k + 1) (e := [some (.ref a)]) (i := 0) rfl h1 (by omega) (many := 12) (by decide) (by decide)
  obtain ⟨r3, S3, a3, l3, u3, h3, k3⟩ := dipc_p Q (W := W) (k + 1) (e := [some (.ref a)]) (i := 0) rfl h2 (by omega) (many := 3) (by decide) (by decide)
  obtain ⟨r4, S4, a4, l4, u4, h4, k4⟩ := dipc_p Q (W := W) (k + 1) (e := [some (.ref a)]) (i := 0) rfl h3 (by omega) (many := 65536) (by decide) (by decide)
  have hlt := h4.lt
  obtain ⟨d, S5, a5, m5, h5, k5⟩ := of_p Q (W := W) k (n := S4.length) (xs := [.int r1, .int r2, .int (65535 - r3), .int r4]) (h4.push (o := .lst [.int r1, .int r2, .int (65535 - r3), .int r4])) (by omega) g_last (by omega) (by simp) (by simp)
  have hv : ∃ v : Nat, d = .int v ∧ v ≤ 65535 := by
    simp only [List.mem_cons, List.not_mem_nil, or_false] at m5
    rcases m5 with rfl | rfl | rfl | rfl
    · exact ⟨r1.toNat, by rw [Int.toNat_of_nonneg l1], by omega⟩
    · exact ⟨r2.toNat, by rw [Int.toNat_of_nonneg l2], by omega⟩
    · exact ⟨(65535 - r3).toNat, by rw [Int.toNat_of_nonneg (by omega)], by omega⟩
    · exact ⟨r4.toNat, by rw [Int.toNat_of_nonneg l4], by omega⟩
  obtain ⟨v, rfl, hv⟩ := hv
  refine ⟨v, S5, ?_, hv, h5.le (by omega), ((k1.trans k2).trans (k3.trans k4)).trans (Kp.push.trans k5)⟩
  refine' run_rt (e0 := [some _]) Q.f915 rfl rfl ?h
  case h =>
    unfold b_915
    exact es_rt (es_ret (er_call (er_cons (er_var rfl) (er_cons (er_lst (er_cons a1 (er_cons a2 (er_cons (er_bin (er_lit rfl) a3 o_sub) (er_cons a4 er_nil)))) (Nat.le_of_ble_eq_true rfl)) er_nil)) er_nil rfl a5))
end
end Tm

set_option Elab.async false
set_option linter.all false
set_option maxRecDepth 100000
set_option maxHeartbeats 8000000
namespace Tm
open PySem L2 TL
def drawn : List Str := ["set", "add", "sub", "and", "xor", "below", "get", "put", "swap", "addto", "await", "whole", "get", "put"]
theorem in2 {nm x y : Str} {S : Store} {n : Nat} {t : Bool} (h : listAt S n = some [.str x, .str y]) (ht : (decide (x = nm) || decide (y = nm)) = t) : cmpop .in_ (.str nm) (.ref n) S = some t := by
  refine c_in h rfl rfl ?_
  rw [← ht]
  simp [scEq]
section
variable {q : Pr} (Q : HK q) {W : Nat}
include Q
theorem dplain_p (k : Nat) {S : Store} {a : Nat} {c : Int} (h : Wel S a c) (hc : c + 20 < 10 ^ 12) : ∃ (nm : Str) (as : List Arg) (S' : Store), run q W (k + 4) 916 [.ref a] S = some (encS (.pl nm as), S') ∧ Pl nm as ∧ Wel S' a (c + 10) ∧ Kp [a] S S' := by
  have hlt := h.lt
  have h0 : Wel (S ++ [.lst (drawn.map D.str)]) a c := h.push
  have hL : (S ++ [.lst (drawn.map D.str)])[S.length]? = some (.lst (drawn.map D.str)) := g_last
  obtain ⟨d, S1, a1, m1, h1, k1⟩ := of_p Q (W := W) (k + 1) h0 (by omega) hL (by omega) (by decide) (by decide)
  obtain ⟨nm, hnm, rfl⟩ : ∃ nm, nm ∈ drawn ∧ D.str nm = d := List.mem_map.mp m1
  have A1 : ev (pm q W (k + 3)) (.call 914 [0, 1] (.cons (.var 0) (.cons (.var 1) .nil)) .nil) [some (.ref a), some (.ref S.length), none, none, none, none, none, none] (S ++ [.lst (drawn.map D.str)]) = some (.str nm, S1) := er_call (er_cons (er_var rfl) (er_cons (er_var rfl) er_nil)) er_nil rfl a1
  obtain ⟨v, S2, a2, l2, u2, h2, k2⟩ := dipc_p Q (W := W) (k + 2) (e := [some (.ref a), some (.ref S.length), none, none, none, none, none, none]) (i := 0) rfl h1 (by omega) (many := 6) (by decide) (by decide)
  obtain ⟨x, S3, a3, l3, u3, h3, k3⟩ := dipc_p Q (W := W) (k + 2) (e := [some (.ref a), some (.ref S.length), none, none, none, none, none, none]) (i := 0) rfl h2 (by omega) (many := 6) (by decide) (by decide)
  obtain ⟨b, S4, a4, l4, u4, h4, k4⟩ := dipc_p Q (W := W) (k + 2) (e := [some (.ref a), some (.ref S.length), none, none, none, none, none, none]) (i := 0) rfl h3 (by omega) (many := 6) (by decide) (by decide)
  obtain ⟨wd, S5, a5, hw, h5, k5⟩ := dword_p Q (W := W) k h4 (by omega)
  obtain ⟨way, S6, a6, l6, u6, h6, k6⟩ := dipc_p Q (W := W) (k + 2) (e := [some (.ref a), some (.ref S.length), some (.str nm), some (.int v), some (.int x), some (.int b), none, none]) (i := 0) rfl h5 (by omega) (many := 4) (by decide) (by decide)
  obtain ⟨v, rfl⟩ := Int.eq_ofNat_of_zero_le l2
  obtain ⟨x, rfl⟩ := Int.eq_ofNat_of_zero_le l3
  obtain ⟨b, rfl⟩ := Int.eq_ofNat_of_zero_le l4
  have kk : Kp [a] S S6 := ((Kp.push.trans k1).trans (k2.trans k3)).trans ((k4.trans k5).trans k6)
  have h6 : Wel S6 a (c + 10) := h6.le (by omega)
  have eE : ∀ nm as, encS (.pl nm as) = .tup (.str nm :: as.map encA) := enc_pl
  -- the head of the body, up to the branches
  have hd : ∀ (w : Fl × Env' × Store) (rest : St), ex (pm q W (k + 3)) rest [some (.ref a), some (.ref S.length), some (.str nm), some (.int v), some (.int x), some (.int b), some (.int wd), some (.int way)] S6 = some w →
      ex (pm q W (k + 3)) (.seq (.asg (.nm 1) (.lst (.cons (.lit (.str "set")) (.cons (.lit (.str "add")) (.cons (.lit (.str "sub")) (.cons (.lit (.str "and")) (.cons (.lit (.str "xor")) (.cons (.lit (.str "below")) (.cons (.lit (.str "get")) (.cons (.lit (.str "put")) (.cons (.lit (.str "swap")) (.cons (.lit (.str "addto")) (.cons (.lit (.str "await")) (.cons (.lit (.str "whole")) (.cons (.lit (.str "get")) (.cons (.lit (.str "put")) .nil))))))))))))))))
        (.seq (.asg (.tp 4 (.cons (.nm 2) (.cons (.nm 3) (.cons (.nm 4) (.cons (.nm 5) .nil))))) (.tup (.cons (.call 914 [0, 1] (.cons (.var 0) (.cons (.var 1) .nil)) .nil) (.cons (.call 913 [0, 1] (.cons (.var 0) (.cons (.lit (.int 6)) .nil)) .nil) (.cons (.call 913 [0, 1] (.cons (.var 0) (.cons (.lit (.int 6)) .nil)) .nil) (.cons (.call 913 [0, 1] (.cons (.var 0) (.cons (.lit (.int 6)) .nil)) .nil) .nil))))))
        (.seq (.asg (.tp 2 (.cons (.nm 6) (.cons (.nm 7) .nil))) (.tup (.cons (.call 915 [0] (.cons (.var 0) .nil) .nil) (.cons (.call 913 [0, 1] (.cons (.var 0) (.cons (.lit (.int 4)) .nil)) .nil) .nil)))) rest)))
        [some (.ref a), none, none, none, none, none, none, none] S = some w := by
    intro w rest hr
    refine es_nx (es_asg (er_lst (er_cons (er_lit rfl) (er_cons (er_lit rfl) (er_cons (er_lit rfl) (er_cons (er_lit rfl) (er_cons (er_lit rfl) (er_cons (er_lit rfl) (er_cons (er_lit rfl) (er_cons (er_lit rfl) (er_cons (er_lit rfl) (er_cons (er_lit rfl) (er_cons (er_lit rfl) (er_cons (er_lit rfl) (er_cons (er_lit rfl) (er_cons (er_lit rfl) er_nil)))))))))))))) (Nat.le_of_ble_eq_true rfl)) rfl) ?_
    refine es_nx (es_asg (er_tup (er_cons A1 (er_cons a2 (er_cons a3 (er_cons a4 er_nil)))) (Nat.le_of_ble_eq_true rfl)) rfl) ?_
    exact es_nx (es_asg (er_tup (er_cons (er_call (er_cons (er_var rfl) er_nil) er_nil rfl a5) (er_cons a6 er_nil)) (Nat.le_of_ble_eq_true rfl)) rfl) hr
  -- lists made on the way
  have pick2 : ∀ (x1 x2 : Str) (S7 : Store), ∃ z, (z = x1 ∨ z = x2) ∧ ev (pm q W (k + 3)) (.idx (.lst (.cons (.lit (.str x1)) (.cons (.lit (.str x2)) .nil))) (.bin .mod (.bi .int (.cons (.var 7) .nil)) (.lit (.int 2)))) [some (.ref a), some (.ref S.length), some (.str nm), some (.int v), some (.int x), some (.int b), some (.int wd), some (.int way)] S7 = some (.str z, S7 ++ [.lst [.str x1, .str x2]]) := by
    intro x1 x2 S7
    obtain ⟨d, d1, d2⟩ := int_at (l := [D.str x1, D.str x2]) (r := way % 2) (Int.emod_nonneg _ (by decide)) (by have := Int.emod_lt_of_pos way (show (0 : Int) < 2 by decide); simpa using this)
    have e : ev (pm q W (k + 3)) (.idx (.lst (.cons (.lit (.str x1)) (.cons (.lit (.str x2)) .nil))) (.bin .mod (.bi .int (.cons (.var 7) .nil)) (.lit (.int 2)))) [some (.ref a), some (.ref S.length), some (.str nm), some (.int v), some (.int x), some (.int b), some (.int wd), some (.int way)] S7 = some (d, S7 ++ [.lst [.str x1, .str x2]]) :=
      er_idx (er_lst (er_cons (er_lit rfl) (er_cons (er_lit rfl) er_nil)) (Nat.le_of_ble_eq_true rfl)) (er_bin (er_bi (er_cons (er_var rfl) er_nil) b_int) (er_lit rfl) (o_mod (by decide))) (i_lst l_last d1)
    simp only [List.mem_cons, List.not_mem_nil, or_false] at d2
    rcases d2 with rfl | rfl
    · exact ⟨x1, .inl rfl, e⟩
    · exact ⟨x2, .inr rfl, e⟩
  have pick4 : ∀ (S7 : Store), ∃ z : Str, (z = "loose" ∨ z = "take" ∨ z = "give" ∨ z = "both") ∧ ev (pm q W (k + 3)) (.idx (.lst (.cons (.lit (.str "loose")) (.cons (.lit (.str "take")) (.cons (.lit (.str "give")) (.cons (.lit (.str "both")) .nil))))) (.var 7)) [some (.ref a), some (.ref S.length), some (.str nm), some (.int v), some (.int x), some (.int b), some (.int wd), some (.int way)] S7 = some (.str z, S7 ++ [.lst [.str "loose", .str "take", .str "give", .str "both"]]) := by
    intro S7
    obtain ⟨d, d1, d2⟩ := int_at (l := [D.str "loose", D.str "take", D.str "give", D.str "both"]) (r := way) l6 (by simpa using u6)
    have e : ev (pm q W (k + 3)) (.idx (.lst (.cons (.lit (.str "loose")) (.cons (.lit (.str "take")) (.cons (.lit (.str "give")) (.cons (.lit (.str "both")) .nil))))) (.var 7)) [some (.ref a), some (.ref S.length), some (.str nm), some (.int v), some (.int x), some (.int b), some (.int wd), some (.int way)] S7 = some (d, S7 ++ [.lst [.str "loose", .str "take", .str "give", .str "both"]]) :=
      er_idx (er_lst (er_cons (er_lit rfl) (er_cons (er_lit rfl) (er_cons (er_lit rfl) (er_cons (er_lit rfl) er_nil)))) (Nat.le_of_ble_eq_true rfl)) (er_var rfl) (i_lst l_last d1)
    simp only [List.mem_cons, List.not_mem_nil, or_false] at d2
    rcases d2 with rfl | rfl | rfl | rfl
    · exact ⟨_, .inl rfl, e⟩
    · exact ⟨_, .inr (.inl rfl), e⟩
    · exact ⟨_, .inr (.inr (.inl rfl)), e⟩
    · exact ⟨_, .inr (.inr (.inr rfl)), e⟩
  have fv : ∀ {n : Nat}, (n : Int) < 6 → n ≤ 5 := fun h => by omega
  -- the branches
  by_cases n1 : nm = "set"
  · subst n1
    refine ⟨"set", [.num v, .num wd], S6, ?_, ⟨_, List.mem_cons_self, .cons (.v _ (fv u2)) (.cons (.w _ hw) .nil)⟩, h6, kk⟩
    rw [eE]
    refine' run_rt (e0 := [some _, none, none, none, none, none, none, none]) Q.f916 rfl rfl ?h
    case h =>
      unfold b_916
      refine hd _ _ ?_
      exact es_rt (es_if_t (er_cmp (er_var rfl) (er_lit rfl) (c_str_t rfl)) (es_rt (es_ret (er_tup (er_cons (er_var rfl) (er_cons (er_var rfl) (er_cons (er_var rfl) er_nil))) (Nat.le_of_ble_eq_true rfl)))))
  by_cases n2 : nm = "get" ∨ nm = "await"
  · obtain ⟨z, hz, ez⟩ := pick2 "loose" "take" (S6 ++ [.lst [.str "get", .str "await"]])
    refine ⟨nm, [.num v, .num x, .num wd, .md z], (S6 ++ [.lst [.str "get", .str "await"]]) ++ [.lst [.str "loose", .str "take"]], ?_, ⟨[118, 118, 119, 109], ?_, .cons (.v _ (fv u2)) (.cons (.v _ (fv u3)) (.cons (.w _ hw) (.cons (.m _ ?_) .nil)))⟩, h6.push.push, (kk.trans Kp.push).trans Kp.push⟩
    · rw [eE]
      refine' run_rt (e0 := [some _, none, none, none, none, none, none, none]) Q.f916 rfl rfl ?h
      case h =>
        unfold b_916
        refine hd _ _ ?_
        refine es_nx (es_if_f (er_cmp (er_var rfl) (er_lit rfl) (c_str_f n1)) es_skip) ?_
        refine es_rt (e1 := [some (.ref a), some (.ref S.length), some (.str nm), some (.int v), some (.int x), some (.int b), some (.int wd), some (.int way)]) (es_if_t (er_cmp (er_var rfl) (er_lst (er_cons (er_lit rfl) (er_cons (er_lit rfl) er_nil)) (Nat.le_of_ble_eq_true rfl)) (in2 l_last (by rcases n2 with rfl | rfl <;> decide))) ?_)
        exact es_rt (es_ret (er_tup (er_cons (er_var rfl) (er_cons (er_var rfl) (er_cons (er_var rfl) (er_cons (er_var rfl) (er_cons ez er_nil))))) (Nat.le_of_ble_eq_true rfl)))
    · rcases n2 with rfl | rfl <;> decide +kernel
    · rcases n2 with rfl | rfl <;> rcases hz with rfl | rfl <;> decide +kernel
  have f2 : (decide (("get" : Str) = nm) || decide (("await" : Str) = nm)) = false := by
    rw [decide_eq_false fun e => n2 (.inl e.symm), decide_eq_false fun e => n2 (.inr e.symm)]; rfl
  by_cases n3 : nm = "put"
  · subst n3
    obtain ⟨z, hz, ez⟩ := pick2 "loose" "give" (S6 ++ [.lst [.str "get", .str "await"]])
    refine ⟨"put", [.num v, .num x, .num wd, .md z], (S6 ++ [.lst [.str "get", .str "await"]]) ++ [.lst [.str "loose", .str "give"]], ?_, ⟨[118, 118, 119, 109], by decide +kernel, .cons (.v _ (fv u2)) (.cons (.v _ (fv u3)) (.cons (.w _ hw) (.cons (.m _ ?_) .nil)))⟩, h6.push.push, (kk.trans Kp.push).trans Kp.push⟩
    · rw [eE]
      refine' run_rt (e0 := [some _, none, none, none, none, none, none, none]) Q.f916 rfl rfl ?h
      case h =>
        unfold b_916
        refine hd _ _ ?_
        refine es_nx (es_if_f (er_cmp (er_var rfl) (er_lit rfl) (c_str_f n1)) es_skip) ?_
        refine es_nx (es_if_f (er_cmp (er_var rfl) (er_lst (er_cons (er_lit rfl) (er_cons (er_lit rfl) er_nil)) (Nat.le_of_ble_eq_true rfl)) (in2 l_last f2)) es_skip) ?_
        refine es_rt (e1 := [some (.ref a), some (.ref S.length), some (.str "put"), some (.int v), some (.int x), some (.int b), some (.int wd), some (.int way)]) (es_if_t (er_cmp (er_var rfl) (er_lit rfl) (c_str_t rfl)) ?_)
        exact es_rt (es_ret (er_tup (er_cons (er_var rfl) (er_cons (er_var rfl) (er_cons (er_var rfl) (er_cons (er_var rfl) (er_cons ez er_nil))))) (Nat.le_of_ble_eq_true rfl)))
    · rcases hz with rfl | rfl <;> decide +kernel
  by_cases n4 : nm = "swap" ∨ nm = "addto"
  · obtain ⟨z, hz, ez⟩ := pick4 ((S6 ++ [.lst [.str "get", .str "await"]]) ++ [.lst [.str "swap", .str "addto"]])
    refine ⟨nm, [.num v, .num b, .num x, .num wd, .md z], ((S6 ++ [.lst [.str "get", .str "await"]]) ++ [.lst [.str "swap", .str "addto"]]) ++ [.lst [.str "loose", .str "take", .str "give", .str "both"]], ?_, ⟨[118, 118, 118, 119, 109], ?_, .cons (.v _ (fv u2)) (.cons (.v _ (fv u4)) (.cons (.v _ (fv u3)) (.cons (.w _ hw) (.cons (.m _ ?_) .nil))))⟩, h6.push.push.push, ((kk.trans Kp.push).trans Kp.push).trans Kp.push⟩
    · rw [eE]
      refine' run_rt (e0 := [some _, none, none, none, none, none, none, none]) Q.f916 rfl rfl ?h
      case h =>
        unfold b_916
        refine hd _ _ ?_
        refine es_nx (es_if_f (er_cmp (er_var rfl) (er_lit rfl) (c_str_f n1)) es_skip) ?_
        refine es_nx (es_if_f (er_cmp (er_var rfl) (er_lst (er_cons (er_lit rfl) (er_cons (er_lit rfl) er_nil)) (Nat.le_of_ble_eq_true rfl)) (in2 l_last f2)) es_skip) ?_
        refine es_nx (es_if_f (er_cmp (er_var rfl) (er_lit rfl) (c_str_f n3)) es_skip) ?_
        refine es_rt (e1 := [some (.ref a), some (.ref S.length), some (.str nm), some (.int v), some (.int x), some (.int b), some (.int wd), some (.int way)]) (es_if_t (er_cmp (er_var rfl) (er_lst (er_cons (er_lit rfl) (er_cons (er_lit rfl) er_nil)) (Nat.le_of_ble_eq_true rfl)) (in2 l_last (by rcases n4 with rfl | rfl <;> decide))) ?_)
        exact es_rt (es_ret (er_tup (er_cons (er_var rfl) (er_cons (er_var rfl) (er_cons (er_var rfl) (er_cons (er_var rfl) (er_cons (er_var rfl) (er_cons ez er_nil)))))) (Nat.le_of_ble_eq_true rfl)))
    · rcases n4 with rfl | rfl <;> decide +kernel
    · rcases n4 with rfl | rfl <;> rcases hz with rfl | rfl | rfl | rfl <;> decide +kernel
  have f4 : (decide (("swap" : Str) = nm) || decide (("addto" : Str) = nm)) = false := by
    rw [decide_eq_false fun e => n4 (.inl e.symm), decide_eq_false fun e => n4 (.inr e.symm)]; rfl
  have tail : ∀ w, ex (pm q W (k + 3)) (.seq (.ret (.ife (.cmp .eq (.var 2) (.lit (.str "whole"))) (.tup (.cons (.var 2) .nil)) (.tup (.cons (.var 2) (.cons (.var 3) (.cons (.var 4) (.cons (.var 5) .nil))))))) .skip)
      [some (.ref a), some (.ref S.length), some (.str nm), some (.int v), some (.int x), some (.int b), some (.int wd), some (.int way)] ((S6 ++ [.lst [.str "get", .str "await"]]) ++ [.lst [.str "swap", .str "addto"]]) = some w → ex (pm q W (k + 3)) b_916 [some (.ref a), none, none, none, none, none, none, none] S = some w := by
    intro w hw
    unfold b_916
    refine hd _ _ ?_
    refine es_nx (es_if_f (er_cmp (er_var rfl) (er_lit rfl) (c_str_f n1)) es_skip) ?_
    refine es_nx (es_if_f (er_cmp (er_var rfl) (er_lst (er_cons (er_lit rfl) (er_cons (er_lit rfl) er_nil)) (Nat.le_of_ble_eq_true rfl)) (in2 l_last f2)) es_skip) ?_
    refine es_nx (es_if_f (er_cmp (er_var rfl) (er_lit rfl) (c_str_f n3)) es_skip) ?_
    exact es_nx (es_if_f (er_cmp (er_var rfl) (er_lst (er_cons (er_lit rfl) (er_cons (er_lit rfl) er_nil)) (Nat.le_of_ble_eq_true rfl)) (in2 l_last f4)) es_skip) hw
  by_cases n5 : nm = "whole"
  · subst n5
    refine ⟨"whole", [], ((S6 ++ [.lst [.str "get", .str "await"]]) ++ [.lst [.str "swap", .str "addto"]]), ?_, ⟨[], by decide +kernel, .nil⟩, h6.push.push, (kk.trans Kp.push).trans Kp.push⟩
    rw [eE]
    exact run_rt (e0 := [some _, none, none, none, none, none, none, none]) Q.f916 rfl rfl (tail _ (es_rt (es_ret (er_ife_t (er_cmp (er_var rfl) (er_lit rfl) (c_str_t rfl)) (er_tup (er_cons (er_var rfl) er_nil) (Nat.le_of_ble_eq_true rfl))))))
  · refine ⟨nm, [.num v, .num x, .num b], ((S6 ++ [.lst [.str "get", .str "await"]]) ++ [.lst [.str "swap", .str "addto"]]), ?_, ⟨[118, 118, 118], ?_, .cons (.v _ (fv u2)) (.cons (.v _ (fv u3)) (.cons (.v _ (fv u4)) .nil))⟩, h6.push.push, (kk.trans Kp.push).trans Kp.push⟩
    · rw [eE]
      exact run_rt (e0 := [some _, none, none, none, none, none, none, none]) Q.f916 rfl rfl (tail _ (es_rt (es_ret (er_ife_f (er_cmp (er_var rfl) (er_lit rfl) (c_str_f n5)) (er_tup (er_cons (er_var rfl) (er_cons (er_var rfl) (er_cons (er_var rfl) (er_cons (er_var rfl) er_nil)))) (Nat.le_of_ble_eq_true rfl))))))
    · simp only [drawn, List.mem_cons, List.not_mem_nil, or_false] at hnm
      rcases hnm with rfl | rfl | rfl | rfl | rfl | rfl | rfl | rfl | rfl | rfl | rfl | rfl | rfl | rfl
      · exact (n1 rfl).elim
      · decide +kernel
      · decide +kernel
      · decide +kernel
      · decide +kernel
      · decide +kernel
      · exact (n2 (.inl rfl)).elim
      · exact (n3 rfl).elim
      · exact (n4 (.inl rfl)).elim
      · exact (n4 (.inr rfl)).elim
      · exact (n2 (.inr rfl)).elim
      · exact (n5 rfl).elim
      · exact (n2 (.inl rfl)).elim
      · exact (n3 rfl).elim
end
end Tm

set_option Elab.async false
set_option linter.all false
set_option maxRecDepth 100000
set_option maxHeartbeats 8000000
namespace Tm
open PySem L2 TL
theorem Kp.via {S S1 S2 : Store} {a f : Nat} (h : Kp [a] S S1) (g : Kp [a, f] S1 S2) (l : S.length ≤ f) : Kp [a] S S2 := fun i o n e => by
  refine g i o ?_ (h i o n e)
  have := (List.getElem?_eq_some_iff.mp e).1
  simp only [List.mem_cons, List.not_mem_nil, or_false] at n ⊢; omega
def dr : Nat → Int
  | 0 => 12
  | m + 1 => 60 * dr m
theorem dr_pos : ∀ m, 12 ≤ dr m
  | 0 => by decide
  | m + 1 => by have := dr_pos m; show 12 ≤ 60 * dr m; omega
def AnyP (q : Pr) (W m : Nat) : Prop := ∀ (k : Nat) (S : Store) (a : Nat) (c : Int) (left lv : Nat), Wel S a c → c + dr m < 10 ^ 12 → 1 ≤ left → left ≤ 24 → lv + m = 5 →
  ∃ (s : Stm) (S' : Store), run q W (k + 2 * m + 3) 917 [.ref a, .int lv, .int left] S = some (.tup [encS s, .int (cntS s)], S') ∧ okS m s ∧ cntS s ≤ left ∧ Wel S' a (c + dr m) ∧ Kp [a] S S'
def SomeP (q : Pr) (W m : Nat) : Prop := ∀ (k : Nat) (S : Store) (a : Nat) (c : Int) (left lv : Nat), Wel S a c → c + (2 + 24 * dr m) < 10 ^ 12 → left ≤ 24 → lv + m = 5 →
  ∃ (l : List Stm) (S' : Store), run q W (k + 2 * m + 4) 918 [.ref a, .int lv, .int left] S = some (.tup [dL l, .int (cntL l)], S') ∧ okL m l ∧ cntL l ≤ left ∧ Wel S' a (c + (2 + 24 * dr m)) ∧ Kp [a] S S'
def b_918l : St := (.seq (.ifs (.cmp .lt (.var 4) (.var 2)) (.seq (.asg (.tp 2 (.cons (.nm 6) (.cons (.nm 7) .nil))) (.call 917 [0, 1, 2] (.cons (.var 0) (.cons (.var 1) (.cons (.bin .sub (.var 2) (.var 4)) .nil))) .nil))
  (.seq (.drop (.app (.var 3) (.var 6)))
  (.seq (.asg (.nm 4) (.bin .add (.var 4) (.var 7)))
  .skip))) .skip)
  .skip)
section
variable {q : Pr} (Q : HK q) {W : Nat}
include Q
theorem someL_p {m : Nat} (hA : AnyP q W m) (k : Nat) {a f : Nat} {left lv : Nat} (hl24 : left ≤ 24) (hlv : lv + m = 5) (hfa : f ≠ a) : ∀ (ts : List Nat) (l : List Stm) (S : Store) (c : Int) (x5 x6 x7 : Option D), okL m l → cntL l ≤ left → Wel S a c → c + (ts.length : Int) * dr m < 10 ^ 12 → S[f]? = some (.lst (l.map encS)) → l.length + ts.length ≤ 100 →
    ∃ (l' : List Stm) (S' : Store) (y5 y6 y7 : Option D), forL (ex (pm q W (k + 2 * m + 3)) b_918l) (.nm 5) [] (ts.map fun (i : Nat) => D.int (i : Int)) [some (.ref a), some (.int lv), some (.int left), some (.ref f), some (.int (cntL l)), x5, x6, x7] S =
      some (.nx, [some (.ref a), some (.int lv), some (.int left), some (.ref f), some (.int (cntL l')), y5, y6, y7], S') ∧ okL m l' ∧ cntL l' ≤ left ∧ Wel S' a (c + (ts.length : Int) * dr m) ∧ S'[f]? = some (.lst (l'.map encS)) ∧ Kp [a, f] S S' := by
  have hdr := dr_pos m
  intro ts
  induction ts with
  | nil => intro l S c x5 x6 x7 h1 h2 h3 _ h5 _; exact ⟨l, S, x5, x6, x7, forL_nil rfl, h1, h2, by simpa using h3, h5, Kp.refl _ _⟩
  | cons t ts ih =>
    intro l S c x5 x6 x7 h1 h2 h3 h4 h5 h6
    have hm : ((t :: ts).length : Int) * dr m = dr m + (ts.length : Int) * dr m := by rw [List.length_cons]; push_cast; rw [Int.add_mul, Int.one_mul]; omega
    have hX : 0 ≤ (ts.length : Int) * dr m := Int.mul_nonneg (by omega) (by omega)
    rw [hm] at h4 ⊢
    simp only [List.length_cons] at h6
    by_cases hlt : cntL l < left
    · obtain ⟨s, S1, a1, o1, u1, w1, k1⟩ := hA k S a c (left - cntL l) lv h3 (by omega) (by omega) (by omega) hlv
      have e1 : ((left - cntL l : Nat) : Int) = (left : Int) - (cntL l : Int) := by omega
      rw [e1] at a1
      have hf1 : S1[f]? = some (.lst (l.map encS)) := k1 _ _ (by simpa using hfa) h5
      have hp := push_at (d := encS s) hf1 (by rw [sizeLine_eq, List.length_map]; omega)
      have w2 : Wel (S1.set f (.lst (l.map encS ++ [encS s]))) a (c + dr m) := w1.setN hfa
      have hc : cntL (l ++ [s]) = cntL l + cntS s := by rw [cntL_app, cntL_cons, cntL_nil]; omega
      obtain ⟨l', S', y5, y6, y7, g1, g2, g3, g4, g5, g6⟩ := ih (l ++ [s]) (S1.set f (.lst (l.map encS ++ [encS s]))) (c + dr m) (some (.int t)) (some (encS s)) (some (.int (cntS s)))
        (fun x hx => by rcases List.mem_append.mp hx with h | h; exact h1 x h; rw [List.mem_singleton] at h; rw [h]; exact o1) (by omega) w2 (by omega) (by rw [set_get hf1]; simp) (by simp; omega)
      refine ⟨l', S', y5, y6, y7, ?_, g2, g3, g4.le (by omega), g5, (k1.more (by simp)).trans ((Kp.set.more (by simp)).trans g6)⟩
      refine forL_nx rfl rfl ?_ g1
      have e2 : ((cntL (l ++ [s]) : Nat) : Int) = (cntL l : Int) + (cntS s : Int) := by omega
      rw [e2]
      unfold b_918l
      refine es_nx (e1 := [some (.ref a), some (.int lv), some (.int left), some (.ref f), some (.int ((cntL l : Int) + (cntS s : Int))), some (.int t), some (encS s), some (.int (cntS s))]) (S1 := S1.set f (.lst (l.map encS ++ [encS s]))) (es_if_t (er_cmp (er_var rfl) (er_var rfl) (c_lt_t (by omega))) ?_) es_skip
      refine es_nx (es_asg (er_call (er_cons (er_var rfl) (er_cons (er_var rfl) (er_cons (er_bin (er_var rfl) (er_var rfl) o_sub) er_nil))) er_nil rfl a1) rfl) ?_
      exact es_nx (es_drop (er_app (er_var rfl) (er_var rfl) hp)) (es_nx (es_asg (er_bin (er_var rfl) (er_var rfl) o_add) rfl) es_skip)
    · obtain ⟨l', S', y5, y6, y7, g1, g2, g3, g4, g5, g6⟩ := ih l S c (some (.int t)) x6 x7 h1 h2 h3 (by omega) h5 (by omega)
      refine ⟨l', S', y5, y6, y7, forL_nx rfl rfl ?_ g1, g2, g3, g4.le (by omega), g5, g6⟩
      unfold b_918l
      exact es_nx (es_if_f (er_cmp (er_var rfl) (er_var rfl) (c_lt_f (by omega))) es_skip) es_skip
theorem some_p {m : Nat} (hA : AnyP q W m) : SomeP q W m := by
  intro k S a c left lv h hc hl hlv
  have hdr := dr_pos m
  have hlt := h.lt
  -- the lists that are made first
  have h1 : Wel (S ++ [O.lst []]) a c := h.push
  have h2 : Wel ((S ++ [O.lst []]) ++ [O.lst [.int 2, .int 4, .int 7, .int 25]]) a c := h1.push
  obtain ⟨d, S1, a1, m1, w1, k1⟩ := of_p Q (W := W) (k + 2 * m + 1) (n := (S ++ [O.lst []]).length) h2 (by omega) g_last (by rw [List.length_append, List.length_singleton]; omega) (by simp) (by simp)
  have hd : ∃ n : Nat, d = .int n ∧ 1 ≤ n ∧ n ≤ 25 := by
    simp only [List.mem_cons, List.not_mem_nil, or_false] at m1
    rcases m1 with rfl | rfl | rfl | rfl
    · exact ⟨2, rfl, by decide, by decide⟩
    · exact ⟨4, rfl, by decide, by decide⟩
    · exact ⟨7, rfl, by decide, by decide⟩
    · exact ⟨25, rfl, by decide, by decide⟩
  obtain ⟨n, rfl, n1, n2⟩ := hd
  obtain ⟨r, S2, a2, l2, u2, w2, k2⟩ := dip_p Q (W := W) (k + 2 * m + 2) w1 (by omega) (many := n) (by omega) (by omega)
  obtain ⟨T, rfl⟩ := Int.eq_ofNat_of_zero_le l2
  have kk2 : Kp [a] S S2 := ((Kp.push.trans Kp.push).trans k1).trans k2
  have hf : S2[S.length]? = some (.lst (([] : List Stm).map encS)) := by
    have e1 : ((S ++ [O.lst []]) ++ [O.lst [.int 2, .int 4, .int 7, .int 25]])[S.length]? = some (.lst []) := by rw [List.getElem?_append_left (by simp)]; exact g_last
    exact k2 _ _ (by simp; omega) (k1 _ _ (by simp; omega) e1)
  have hX : (T : Int) * dr m ≤ 24 * dr m := Int.mul_le_mul_of_nonneg_right (by omega) (by omega)
  obtain ⟨l, S3, y5, y6, y7, g1, g2, g3, g4, g5, g6⟩ := someL_p Q (W := W) hA k (f := S.length) hl hlv (by omega) (List.range T) [] S2 (c + 1 + 1) none none none (fun x hx => by cases hx) (by rw [cntL_nil]; omega) w2 (by rw [List.length_range]; omega) hf (by rw [List.length_range]; simp; omega)
  rw [List.length_range] at g4
  refine ⟨l, S3, ?_, g2, g3, g4.le (by omega), ?_⟩
  · refine' run_rt (e0 := [some _, some _, some _, none, none, none, none, none]) Q.f918 rfl rfl ?h
    case h =>
      unfold b_918
      have gg := g1
      unfold b_918l at gg
      refine es_nx (es_asg (er_tup (er_cons (er_lst er_nil (Nat.zero_le _)) (er_cons (er_lit rfl) er_nil)) (Nat.le_of_ble_eq_true rfl)) rfl) ?_
      have it : ev (pm q W (k + 2 * m + 3)) (.irng (.cons (.call 913 [0, 1] (.cons (.var 0) (.cons (.call 914 [0, 1] (.cons (.var 0) (.cons (.lst (.cons (.lit (.int 2)) (.cons (.lit (.int 4)) (.cons (.lit (.int 7)) (.cons (.lit (.int 25)) .nil))))) .nil)) .nil) .nil)) .nil) .nil))
          [some (.ref a), some (.int lv), some (.int left), some (.ref S.length), some (.int 0), none, none, none] (S ++ [.lst []]) = some (itD ((List.range T).map fun (i : Nat) => D.int (i : Int)) [], S2) :=
        er_rng (n := T) (er_cons (er_call (er_cons (er_var rfl) (er_cons (er_call (er_cons (er_var rfl) (er_cons (er_lst (er_cons (er_lit rfl) (er_cons (er_lit rfl) (er_cons (er_lit rfl) (er_cons (er_lit rfl) er_nil)))) (Nat.le_of_ble_eq_true rfl)) er_nil)) er_nil rfl a1) er_nil)) er_nil rfl a2) er_nil) (by omega)
      have gg2 : forL _ _ _ _ [some (.ref a), some (.int lv), some (.int left), some (.ref S.length), some (.int 0), none, none, none] S2 = _ := gg
      refine es_nx (es_for it gg2) ?_
      exact es_rt (es_ret (er_tup (er_cons (er_bi (er_cons (er_var rfl) er_nil) (b_tupL (l_lst g5))) (er_cons (er_var rfl) er_nil)) (Nat.le_of_ble_eq_true rfl)))
  · exact kk2.via g6 (Nat.le_refl _)
end
end Tm

set_option Elab.async false
set_option linter.all false
set_option maxRecDepth 100000
set_option maxHeartbeats 8000000
namespace Tm
open PySem L2 TL
section
variable {q : Pr} (Q : HK q) {W : Nat}
include Q
abbrev pr0 (l : List Stm) : D := .tup [dL l, .int (cntL l)]
theorem any_p (m : Nat) (hS : m = 0 ∨ SomeP q W m) : AnyP q W (m + 1) := by
  intro k S a c left lv h hc hl0 hl hlv
  have hdr := dr_pos m
  have hd2 : dr (m + 1) = 60 * dr m := rfl
  rw [hd2] at hc ⊢
  have hF : k + 2 * (m + 1) + 3 = (k + 2 * m + 4) + 1 := by omega
  rw [hF]
  obtain ⟨way, S1, a1, l1, u1, w1, k1⟩ := dipc_p Q (W := W) (k + 2 * m + 3) (e := [some (.ref a), some (.int lv), some (.int left), none, none, none]) (i := 0) rfl h (by omega) (many := 6) (by decide) (by decide)
  have hd : ∀ (w : Fl × Env' × Store) (rest : St), ex (pm q W (k + 2 * m + 4)) rest [some (.ref a), some (.int lv), some (.int left), some (.int way), some (pr0 []), some (pr0 [])] S1 = some w →
      ex (pm q W (k + 2 * m + 4)) (.seq (.asg (.tp 3 (.cons (.nm 3) (.cons (.nm 4) (.cons (.nm 5) .nil)))) (.tup (.cons (.call 913 [0, 1] (.cons (.var 0) (.cons (.lit (.int 6)) .nil)) .nil) (.cons (.tup (.cons (.tup .nil) (.cons (.lit (.int 0)) .nil))) (.cons (.tup (.cons (.tup .nil) (.cons (.lit (.int 0)) .nil))) .nil))))) rest)
        [some (.ref a), some (.int lv), some (.int left), none, none, none] S = some w := fun w rest hr =>
    es_nx (es_asg (er_tup (er_cons a1 (er_cons (er_tup (er_cons (er_tup er_nil (Nat.zero_le _)) (er_cons (er_lit rfl) er_nil)) (Nat.le_of_ble_eq_true rfl)) (er_cons (er_tup (er_cons (er_tup er_nil (Nat.zero_le _)) (er_cons (er_lit rfl) er_nil)) (Nat.le_of_ble_eq_true rfl)) er_nil))) (Nat.le_of_ble_eq_true rfl)) rfl) hr
  by_cases q0 : way = 0
  · -- an if
    have mid : ∃ (x y : List Stm) (S2 : Store), okL m x ∧ okL m y ∧ 1 + cntL x + cntL y ≤ left ∧ Wel S2 a (c + 1 + 2 * (2 + 24 * dr m)) ∧ Kp [a] S1 S2 ∧
        ex (pm q W (k + 2 * m + 4)) (.ifs (.cmp .lt (.var 1) (.lit (.int 4))) (.seq (.asg (.nm 4) (.call 918 [0, 1, 2] (.cons (.var 0) (.cons (.bin .add (.var 1) (.lit (.int 1))) (.cons (.bin .sub (.var 2) (.lit (.int 1))) .nil))) .nil))
          (.seq (.asg (.nm 5) (.call 918 [0, 1, 2] (.cons (.var 0) (.cons (.bin .add (.var 1) (.lit (.int 1))) (.cons (.bin .sub (.bin .sub (.var 2) (.lit (.int 1))) (.idx (.var 4) (.lit (.int 1)))) .nil))) .nil))
          .skip)) .skip) [some (.ref a), some (.int lv), some (.int left), some (.int way), some (pr0 []), some (pr0 [])] S1 = some (.nx, [some (.ref a), some (.int lv), some (.int left), some (.int way), some (pr0 x), some (pr0 y)], S2) := by
      by_cases m0 : m = 0
      · refine ⟨[], [], S1, fun s hs => (by cases hs), fun s hs => (by cases hs), by rw [cntL_nil]; omega, w1.le (by omega), Kp.refl _ _, es_if_f (er_cmp (er_var rfl) (er_lit rfl) (c_lt_f (by omega))) es_skip⟩
      · have hP := hS.resolve_left m0
        obtain ⟨x, S2, b1, ox, ux, w2, k2⟩ := hP k S1 a (c + 1) (left - 1) (lv + 1) w1 (by omega) (by omega) (by omega)
        obtain ⟨y, S3, b2, oy, uy, w3, k3⟩ := hP k S2 a (c + 1 + (2 + 24 * dr m)) (left - 1 - cntL x) (lv + 1) w2 (by omega) (by omega) (by omega)
        have e1 : ((lv + 1 : Nat) : Int) = (lv : Int) + 1 := by omega
        have e2 : ((left - 1 : Nat) : Int) = (left : Int) - 1 := by omega
        have e3 : ((left - 1 - cntL x : Nat) : Int) = (left : Int) - 1 - (cntL x : Int) := by omega
        rw [e1, e2] at b1
        rw [e1, e3] at b2
        refine ⟨x, y, S3, ox, oy, by omega, w3.le (by omega), k2.trans k3, es_if_t (er_cmp (er_var rfl) (er_lit rfl) (c_lt_t (by omega))) ?_⟩
        refine es_nx (es_asg (er_call (er_cons (er_var rfl) (er_cons (er_bin (er_var rfl) (er_lit rfl) o_add) (er_cons (er_bin (er_var rfl) (er_lit rfl) o_sub) er_nil))) er_nil rfl b1) rfl) ?_
        exact es_nx (es_asg (er_call (er_cons (er_var rfl) (er_cons (er_bin (er_var rfl) (er_lit rfl) o_add) (er_cons (er_bin (er_bin (er_var rfl) (er_lit rfl) o_sub) (er_idx (er_var rfl) (er_lit rfl) (i_tup (atN (n := 1) rfl))) o_sub) er_nil))) er_nil rfl b2) rfl) es_skip
    obtain ⟨x, y, S2, ox, oy, uxy, w2, k2, hx⟩ := mid
    obtain ⟨v, S3, a3, l3, u3, w3, k3⟩ := dipc_p Q (W := W) (k + 2 * m + 3) (e := [some (.ref a), some (.int lv), some (.int left), some (.int way), some (pr0 x), some (pr0 y)]) (i := 0) rfl w2 (by omega) (many := 6) (by decide) (by decide)
    obtain ⟨v, rfl⟩ := Int.eq_ofNat_of_zero_le l3
    refine ⟨.ife v x y, S3, ?_, ⟨by omega, ox, oy⟩, by rw [cntS_ife]; exact uxy, w3.le (by omega), (k1.trans k2).trans k3⟩
    rw [enc_ife, cntS_ife]
    have e1 : ((1 + cntL x + cntL y : Nat) : Int) = 1 + (cntL x : Int) + (cntL y : Int) := by omega
    rw [e1]
    refine' run_rt (e0 := [some _, some _, some _, none, none, none]) Q.f917 rfl rfl ?h
    case h =>
      unfold b_917
      refine hd _ _ ?_
      refine es_rt (e1 := [some (.ref a), some (.int lv), some (.int left), some (.int way), some (pr0 x), some (pr0 y)]) (es_if_t (er_cmp (er_var rfl) (er_lit rfl) (c_eq_t q0)) ?_)
      refine es_nx hx ?_
      exact es_rt (es_ret (er_tup (er_cons (er_tup (er_cons (er_lit rfl) (er_cons a3 (er_cons (er_idx (er_var rfl) (er_lit rfl) (i_tup (atN (n := 0) rfl))) (er_cons (er_idx (er_var rfl) (er_lit rfl) (i_tup (atN (n := 0) rfl))) er_nil)))) (Nat.le_of_ble_eq_true rfl))
        (er_cons (er_bin (er_bin (er_lit rfl) (er_idx (er_var rfl) (er_lit rfl) (i_tup (atN (n := 1) rfl))) o_add) (er_idx (er_var rfl) (er_lit rfl) (i_tup (atN (n := 1) rfl))) o_add) er_nil)) (Nat.le_of_ble_eq_true rfl)))
  by_cases q1 : way = 1
  · -- an again
    have mid : ∃ (x : List Stm) (S2 : Store), okL m x ∧ 1 + cntL x ≤ left ∧ Wel S2 a (c + 1 + (2 + 24 * dr m)) ∧ Kp [a] S1 S2 ∧
        ex (pm q W (k + 2 * m + 4)) (.ifs (.cmp .lt (.var 1) (.lit (.int 4))) (.seq (.asg (.nm 4) (.call 918 [0, 1, 2] (.cons (.var 0) (.cons (.bin .add (.var 1) (.lit (.int 1))) (.cons (.bin .sub (.var 2) (.lit (.int 1))) .nil))) .nil))
          .skip) .skip) [some (.ref a), some (.int lv), some (.int left), some (.int way), some (pr0 []), some (pr0 [])] S1 = some (.nx, [some (.ref a), some (.int lv), some (.int left), some (.int way), some (pr0 x), some (pr0 [])], S2) := by
      by_cases m0 : m = 0
      · refine ⟨[], S1, fun s hs => (by cases hs), by rw [cntL_nil]; omega, w1.le (by omega), Kp.refl _ _, es_if_f (er_cmp (er_var rfl) (er_lit rfl) (c_lt_f (by omega))) es_skip⟩
      · have hP := hS.resolve_left m0
        obtain ⟨x, S2, b1, ox, ux, w2, k2⟩ := hP k S1 a (c + 1) (left - 1) (lv + 1) w1 (by omega) (by omega) (by omega)
        have e1 : ((lv + 1 : Nat) : Int) = (lv : Int) + 1 := by omega
        have e2 : ((left - 1 : Nat) : Int) = (left : Int) - 1 := by omega
        rw [e1, e2] at b1
        refine ⟨x, S2, ox, by omega, w2, k2, es_if_t (er_cmp (er_var rfl) (er_lit rfl) (c_lt_t (by omega))) ?_⟩
        exact es_nx (es_asg (er_call (er_cons (er_var rfl) (er_cons (er_bin (er_var rfl) (er_lit rfl) o_add) (er_cons (er_bin (er_var rfl) (er_lit rfl) o_sub) er_nil))) er_nil rfl b1) rfl) es_skip
    obtain ⟨x, S2, ox, ux, w2, k2, hx⟩ := mid
    obtain ⟨r9, S3, a3, l3, u3, w3, k3⟩ := dipc_p Q (W := W) (k + 2 * m + 3) (e := [some (.ref a), some (.int lv), some (.int left), some (.int way), some (pr0 x), some (pr0 [])]) (i := 0) rfl w2 (by omega) (many := 9) (by decide) (by decide)
    have hlt := w3.lt
    obtain ⟨d, S4, a4, m4, w4, k4⟩ := of_p Q (W := W) (k + 2 * m + 2) (n := S3.length) (xs := [.int 0, .int 1, .int 2, .int 3, .int r9]) (w3.push (o := .lst [.int 0, .int 1, .int 2, .int 3, .int r9])) (by omega) g_last (by omega) (by simp) (by simp)
    have hv : ∃ v : Nat, d = .int v ∧ v ≤ 8 := by
      simp only [List.mem_cons, List.not_mem_nil, or_false] at m4
      rcases m4 with rfl | rfl | rfl | rfl | rfl
      · exact ⟨0, rfl, by decide⟩
      · exact ⟨1, rfl, by decide⟩
      · exact ⟨2, rfl, by decide⟩
      · exact ⟨3, rfl, by decide⟩
      · exact ⟨r9.toNat, by rw [Int.toNat_of_nonneg l3], by omega⟩
    obtain ⟨v, rfl, hv⟩ := hv
    refine ⟨.agn v x, S4, ?_, ⟨hv, ox⟩, by rw [cntS_agn]; exact ux, w4.le (by omega), ((k1.trans k2).trans k3).trans (Kp.push.trans k4)⟩
    rw [enc_agn, cntS_agn]
    have e1 : ((1 + cntL x : Nat) : Int) = 1 + (cntL x : Int) := by omega
    rw [e1]
    refine' run_rt (e0 := [some _, some _, some _, none, none, none]) Q.f917 rfl rfl ?h
    case h =>
      unfold b_917
      refine hd _ _ ?_
      refine es_nx (es_if_f (er_cmp (er_var rfl) (er_lit rfl) (c_eq_f q0)) es_skip) ?_
      refine es_rt (e1 := [some (.ref a), some (.int lv), some (.int left), some (.int way), some (pr0 x), some (pr0 [])]) (es_if_t (er_cmp (er_var rfl) (er_lit rfl) (c_eq_t q1)) ?_)
      refine es_nx hx ?_
      exact es_rt (es_ret (er_tup (er_cons (er_tup (er_cons (er_lit rfl) (er_cons (er_call (er_cons (er_var rfl) (er_cons (er_lst (er_cons (er_lit rfl) (er_cons (er_lit rfl) (er_cons (er_lit rfl) (er_cons (er_lit rfl) (er_cons a3 er_nil))))) (Nat.le_of_ble_eq_true rfl)) er_nil)) er_nil rfl a4) (er_cons (er_idx (er_var rfl) (er_lit rfl) (i_tup (atN (n := 0) rfl))) er_nil))) (Nat.le_of_ble_eq_true rfl))
        (er_cons (er_bin (er_lit rfl) (er_idx (er_var rfl) (er_lit rfl) (i_tup (atN (n := 1) rfl))) o_add) er_nil)) (Nat.le_of_ble_eq_true rfl)))
  · obtain ⟨nm, as, S2, b1, op, w2, k2⟩ := dplain_p Q (W := W) (k + 2 * m) w1 (by omega)
    refine ⟨.pl nm as, S2, ?_, op, by rw [cntS_pl]; omega, w2.le (by omega), k1.trans k2⟩
    rw [cntS_pl]
    refine' run_rt (e0 := [some _, some _, some _, none, none, none]) Q.f917 rfl rfl ?h
    case h =>
      unfold b_917
      refine hd _ _ ?_
      refine es_nx (es_if_f (er_cmp (er_var rfl) (er_lit rfl) (c_eq_f q0)) es_skip) (es_nx (es_if_f (er_cmp (er_var rfl) (er_lit rfl) (c_eq_f q1)) es_skip) ?_)
      exact es_rt (es_ret (er_tup (er_cons (er_call (er_cons (er_var rfl) er_nil) er_nil rfl b1) (er_cons (er_lit rfl) er_nil)) (Nat.le_of_ble_eq_true rfl)))
theorem some4 : SomeP q W 4 := by
  have h1 := any_p Q (W := W) 0 (.inl rfl)
  have h2 := any_p Q (W := W) 1 (.inr (some_p Q h1))
  have h3 := any_p Q (W := W) 2 (.inr (some_p Q h2))
  exact some_p Q (any_p Q (W := W) 3 (.inr (some_p Q h3)))
/-! ### deep ones, hands, programs -/
def b_919l : St := (.seq (.ifs (.cmp .eq (.call 913 [0, 1] (.cons (.var 0) (.cons (.lit (.int 2)) .nil)) .nil) (.lit (.int 0))) (.seq (.asg (.nm 1) (.tup (.cons (.tup (.cons (.lit (.str "again")) (.cons (.call 914 [0, 1] (.cons (.var 0) (.cons (.lst (.cons (.lit (.int 1)) (.cons (.lit (.int 2)) (.cons (.call 913 [0, 1] (.cons (.var 0) (.cons (.lit (.int 9)) .nil)) .nil) .nil)))) .nil)) .nil) (.cons (.var 1) .nil)))) .nil)))
  .skip) (.seq (.asg (.nm 1) (.ife (.cmp .eq (.call 913 [0, 1] (.cons (.var 0) (.cons (.lit (.int 2)) .nil)) .nil) (.lit (.int 0))) (.tup (.cons (.tup (.cons (.lit (.str "if")) (.cons (.call 913 [0, 1] (.cons (.var 0) (.cons (.lit (.int 6)) .nil)) .nil) (.cons (.var 1) (.cons (.tup .nil) .nil))))) .nil)) (.tup (.cons (.tup (.cons (.lit (.str "if")) (.cons (.lit (.int 0)) (.cons (.tup .nil) (.cons (.var 1) .nil))))) .nil))))
  .skip))
  .skip)
theorem turn_p (k : Nat) {S : Store} {a t : Nat} {c : Int} {s : Stm} {x2 : Option D} (h : Wel S a c) (hc : c + 10 < 10 ^ 12) (ok : okS t s) : ∃ (s' : Stm) (S' : Store), ex (pm q W (k + 3)) b_919l [some (.ref a), some (dL [s]), x2] S = some (.nx, [some (.ref a), some (dL [s']), x2], S') ∧ okS (t + 1) s' ∧ cntS s' = cntS s + 1 ∧ Wel S' a (c + 4) ∧ Kp [a] S S' := by
  have oks : ∀ x ∈ [s], okS t x := fun x hx => by rw [List.mem_singleton] at hx; rw [hx]; exact ok
  have c1 : cntL [s] = cntS s := by rw [cntL_cons, cntL_nil]; omega
  obtain ⟨r1, S1, a1, l1, u1, w1, k1⟩ := dipc_p Q (W := W) (k + 2) (e := [some (.ref a), some (dL [s]), x2]) (i := 0) rfl h (by omega) (many := 2) (by decide) (by decide)
  by_cases q0 : r1 = 0
  · obtain ⟨r9, S3, a3, l3, u3, w3, k3⟩ := dipc_p Q (W := W) (k + 2) (e := [some (.ref a), some (dL [s]), x2]) (i := 0) rfl w1 (by omega) (many := 9) (by decide) (by decide)
    have hlt := w3.lt
    obtain ⟨d, S4, a4, m4, w4, k4⟩ := of_p Q (W := W) (k + 1) (n := S3.length) (xs := [.int 1, .int 2, .int r9]) (w3.push (o := .lst [.int 1, .int 2, .int r9])) (by omega) g_last (by omega) (by simp) (by simp)
    have hv : ∃ v : Nat, d = .int v ∧ v ≤ 8 := by
      simp only [List.mem_cons, List.not_mem_nil, or_false] at m4
      rcases m4 with rfl | rfl | rfl
      · exact ⟨1, rfl, by decide⟩
      · exact ⟨2, rfl, by decide⟩
      · exact ⟨r9.toNat, by rw [Int.toNat_of_nonneg l3], by omega⟩
    obtain ⟨v, rfl, hv⟩ := hv
    refine ⟨.agn v [s], S4, ?_, ⟨hv, oks⟩, by rw [cntS_agn, c1]; omega, w4.le (by omega), (k1.trans k3).trans (Kp.push.trans k4)⟩
    have e : dL [.agn v [s]] = .tup [.tup [.str "again", .int v, dL [s]]] := by show D.tup [encS _] = _; rw [enc_agn]
    rw [e]
    unfold b_919l
    refine es_nx (es_if_t (er_cmp a1 (er_lit rfl) (c_eq_t q0)) ?_) es_skip
    exact es_nx (es_asg (er_tup (er_cons (er_tup (er_cons (er_lit rfl) (er_cons (er_call (er_cons (er_var rfl) (er_cons (er_lst (er_cons (er_lit rfl) (er_cons (er_lit rfl) (er_cons a3 er_nil))) (Nat.le_of_ble_eq_true rfl)) er_nil)) er_nil rfl a4) (er_cons (er_var rfl) er_nil))) (Nat.le_of_ble_eq_true rfl)) er_nil) (Nat.le_of_ble_eq_true rfl)) rfl) es_skip
  · obtain ⟨r2, S2, a2, l2, u2, w2, k2⟩ := dipc_p Q (W := W) (k + 2) (e := [some (.ref a), some (dL [s]), x2]) (i := 0) rfl w1 (by omega) (many := 2) (by decide) (by decide)
    by_cases q1 : r2 = 0
    · obtain ⟨v, S3, a3, l3, u3, w3, k3⟩ := dipc_p Q (W := W) (k + 2) (e := [some (.ref a), some (dL [s]), x2]) (i := 0) rfl w2 (by omega) (many := 6) (by decide) (by decide)
      obtain ⟨v, rfl⟩ := Int.eq_ofNat_of_zero_le l3
      refine ⟨.ife v [s] [], S3, ?_, ⟨by omega, oks, fun x hx => (by cases hx)⟩, by rw [cntS_ife, c1, cntL_nil]; omega, w3.le (by omega), (k1.trans k2).trans k3⟩
      have e : dL [.ife v [s] []] = .tup [.tup [.str "if", .int v, dL [s], .tup []]] := by show D.tup [encS _] = _; rw [enc_ife]; rfl
      rw [e]
      unfold b_919l
      refine es_nx (es_if_f (er_cmp a1 (er_lit rfl) (c_eq_f q0)) ?_) es_skip
      exact es_nx (es_asg (er_ife_t (er_cmp a2 (er_lit rfl) (c_eq_t q1)) (er_tup (er_cons (er_tup (er_cons (er_lit rfl) (er_cons a3 (er_cons (er_var rfl) (er_cons (er_tup er_nil (Nat.zero_le _)) er_nil)))) (Nat.le_of_ble_eq_true rfl)) er_nil) (Nat.le_of_ble_eq_true rfl))) rfl) es_skip
    · refine ⟨.ife 0 [] [s], S2, ?_, ⟨by omega, fun x hx => (by cases hx), oks⟩, by rw [cntS_ife, c1, cntL_nil]; omega, w2.le (by omega), k1.trans k2⟩
      have e : dL [.ife 0 [] [s]] = .tup [.tup [.str "if", .int 0, .tup [], dL [s]]] := by show D.tup [encS _] = _; rw [enc_ife]; rfl
      rw [e]
      unfold b_919l
      refine es_nx (es_if_f (er_cmp a1 (er_lit rfl) (c_eq_f q0)) ?_) es_skip
      exact es_nx (es_asg (er_ife_f (er_cmp a2 (er_lit rfl) (c_eq_f q1)) (er_tup (er_cons (er_tup (er_cons (er_lit rfl) (er_cons (er_lit rfl) (er_cons (er_tup er_nil (Nat.zero_le _)) (er_cons (er_var rfl) er_nil)))) (Nat.le_of_ble_eq_true rfl)) er_nil) (Nat.le_of_ble_eq_true rfl))) rfl) es_skip
theorem deep_p (k : Nat) {S : Store} {a : Nat} {c : Int} (h : Wel S a c) (hc : c + 30 < 10 ^ 12) : ∃ (l : List Stm) (S' : Store), run q W (k + 5) 919 [.ref a] S = some (dL l, S') ∧ okL 4 l ∧ cntL l ≤ 24 ∧ Wel S' a (c + 22) ∧ Kp [a] S S' := by
  obtain ⟨nm, as, S1, b1, op, w1, k1⟩ := dplain_p Q (W := W) k h (by omega)
  have o1 : okS 1 (.pl nm as) := op
  obtain ⟨s2, S2, b2, o2, c2, w2, k2⟩ := turn_p Q (W := W) (k + 1) (x2 := some (.int 0)) w1 (by omega) o1
  obtain ⟨s3, S3, b3, o3, c3, w3, k3⟩ := turn_p Q (W := W) (k + 1) (x2 := some (.int 1)) w2 (by omega) o2
  obtain ⟨s4, S4, b4, o4, c4, w4, k4⟩ := turn_p Q (W := W) (k + 1) (x2 := some (.int 2)) w3 (by omega) o3
  rw [cntS_pl] at c2
  refine ⟨[s4], S4, ?_, fun x hx => by rw [List.mem_singleton] at hx; rw [hx]; exact o4, by rw [cntL_cons, cntL_nil]; omega, w4.le (by omega), ((k1.trans k2).trans k3).trans k4⟩
  refine' run_rt (e0 := [some _, none, none]) Q.f919 rfl rfl ?h
  case h =>
    unfold b_919
    unfold b_919l at b2 b3 b4
    refine es_nx (e1 := [some (.ref a), some (dL [.pl nm as]), none]) (es_asg (er_tup (er_cons (er_call (er_cons (er_var rfl) er_nil) er_nil rfl b1) er_nil) (Nat.le_of_ble_eq_true rfl)) rfl) ?_
    refine es_nx (e1 := [some (.ref a), some (dL [s4]), some (.int 2)]) (S1 := S4) (es_for (er_rng (n := 3) (er_cons (er_lit rfl) er_nil) (by decide)) ?_) (es_rt (es_ret (er_var rfl)))
    exact forL_nx rfl rfl b2 (forL_nx rfl rfl b3 (forL_nx rfl rfl b4 (forL_nil rfl)))
theorem dhand_p (k : Nat) {S : Store} {a : Nat} {c : Int} (h : Wel S a c) (hc : c + 10 ^ 11 < 10 ^ 12) : ∃ (l : List Stm) (S' : Store), run q W (k + 13) 920 [.ref a] S = some (dL l, S') ∧ (okL 4 l ∧ cntL l ≤ 24) ∧ Wel S' a (c + 10 ^ 11) ∧ Kp [a] S S' := by
  obtain ⟨way, S1, a1, l1, u1, w1, k1⟩ := dipc_p Q (W := W) (k + 11) (e := [some (.ref a), none, none]) (i := 0) rfl h (by omega) (many := 8) (by decide) (by decide)
  by_cases q0 : way = 0
  · refine ⟨[], S1, ?_, ⟨fun x hx => (by cases hx), by rw [cntL_nil]; omega⟩, w1.le (by omega), k1⟩
    refine' run_rt (e0 := [some _, none, none]) Q.f920 rfl rfl ?h
    case h =>
      unfold b_920
      exact es_nx (es_asg a1 rfl) (es_rt (es_if_t (er_cmp (er_var rfl) (er_lit rfl) (c_eq_t q0)) (es_rt (es_ret (er_tup er_nil (Nat.zero_le _))))))
  by_cases q1 : way = 1
  · obtain ⟨bs, S2, b1, b2, b3, b4, w2, k2⟩ := er_lcW (q := q) (W := W) (k := k + 12) (i := .irng (.cons (.lit (.int 24)) .nil)) (el := .call 916 [0] (.cons (.var 0) .nil) .nil) (t := .nm 2) (own := [2]) (e := [some (.ref a), some (.int way), none]) (S := S1) (S1 := S1) (l := List.range 24) (cks := []) (a := a) (c := c + 1) 10 (10 ^ 12 - 20)
      (fun (i : Nat) => D.int (i : Int)) encS (fun _ s => okS 1 s ∧ cntS s = 1) (er_rng (n := 24) (er_cons (er_lit rfl) er_nil) (by decide)) (fun _ _ => rfl)
      (fun x hx S c h1 h2 h3 => by
        obtain ⟨nm, as, S2, g1, g2, g3, g4⟩ := dplain_p Q (W := W) (k + 8) h1 (by omega)
        exact ⟨[some (.ref a), some (.int way), some (.int x)], .pl nm as, S2, rfl, er_call (er_cons (er_var rfl) er_nil) er_nil rfl g1, ⟨g2, cntS_pl _ _⟩, g3, g4⟩)
      w1 (by decide) (by rw [List.length_range]; omega) (by rw [List.length_range, sizeLine_eq]; omega)
    rw [List.length_range] at b2 w2
    have hall : ∀ s ∈ bs, okS 1 s ∧ cntS s = 1 := fun s hs => by
      obtain ⟨i, hi⟩ := List.getElem?_of_mem hs
      have hil : i < bs.length := (List.getElem?_eq_some_iff.mp hi).1
      have : ((List.range 24).zip bs)[i]? = some (i, s) := by
        rw [List.getElem?_zip_eq_some]; exact ⟨by rw [List.getElem?_range]; omega, hi⟩
      exact b3 _ (List.mem_of_getElem? this)
    have hcn : cntL bs = bs.length := by
      have : ∀ l : List Stm, (∀ s ∈ l, cntS s = 1) → cntL l = l.length := by
        intro l
        induction l with
        | nil => intro _; rw [cntL_nil]; rfl
        | cons s l ih => intro h; rw [cntL_cons, h s List.mem_cons_self, ih fun x hx => h x (List.mem_cons_of_mem _ hx), List.length_cons]; omega
      exact this bs fun s hs => (hall s hs).2
    refine ⟨bs, S2, ?_, ⟨fun s hs => (hall s hs).1.more.more.more, by omega⟩, w2.le (by omega), k1.trans k2⟩
    refine' run_rt (e0 := [some _, none, none]) Q.f920 rfl rfl ?h
    case h =>
      unfold b_920
      refine es_nx (es_asg a1 rfl) (es_nx (es_if_f (er_cmp (er_var rfl) (er_lit rfl) (c_eq_f q0)) es_skip) ?_)
      exact es_rt (es_if_t (er_cmp (er_var rfl) (er_lit rfl) (c_eq_t q1)) (es_rt (es_ret (er_bi (er_cons b1 er_nil) (b_tupL (l_lst b4))))))
  by_cases q2 : way = 2
  · obtain ⟨l, S2, b1, o2, c2, w2, k2⟩ := deep_p Q (W := W) (k + 7) w1 (by omega)
    refine ⟨l, S2, ?_, ⟨o2, c2⟩, w2.le (by omega), k1.trans k2⟩
    refine' run_rt (e0 := [some _, none, none]) Q.f920 rfl rfl ?h
    case h =>
      unfold b_920
      refine es_nx (es_asg a1 rfl) (es_nx (es_if_f (er_cmp (er_var rfl) (er_lit rfl) (c_eq_f q0)) es_skip) (es_nx (es_if_f (er_cmp (er_var rfl) (er_lit rfl) (c_eq_f q1)) es_skip) ?_))
      exact es_rt (es_ret (er_ife_t (er_cmp (er_var rfl) (er_lit rfl) (c_eq_t q2)) (er_call (er_cons (er_var rfl) er_nil) er_nil rfl b1)))
  · have e4 : dr 4 = 155520000 := by decide
    obtain ⟨l, S2, b1, o2, c2, w2, k2⟩ := some4 Q (W := W) k S1 a (c + 1) 24 1 w1 (by rw [e4]; omega) (by decide) (by decide)
    rw [e4] at w2
    refine ⟨l, S2, ?_, ⟨o2, c2⟩, w2.le (by omega), k1.trans k2⟩
    refine' run_rt (e0 := [some _, none, none]) Q.f920 rfl rfl ?h
    case h =>
      unfold b_920
      refine es_nx (es_asg a1 rfl) (es_nx (es_if_f (er_cmp (er_var rfl) (er_lit rfl) (c_eq_f q0)) es_skip) (es_nx (es_if_f (er_cmp (er_var rfl) (er_lit rfl) (c_eq_f q1)) es_skip) ?_))
      exact es_rt (es_ret (er_ife_f (er_cmp (er_var rfl) (er_lit rfl) (c_eq_f q2)) (er_idx (er_call (er_cons (er_var rfl) (er_cons (er_lit rfl) (er_cons (er_lit rfl) er_nil))) er_nil rfl b1) (er_lit rfl) (i_tup (atN (n := 0) rfl)))))
theorem dprog_p (k : Nat) {S : Store} {a : Nat} {c : Int} (h : Wel S a c) (hc : c ≤ 1000) : ∃ (p : List (List Stm)) (S' : Store), run q W (k + 14) 921 [.ref a] S = some (dP p, S') ∧ OkP p ∧ Wel S' a (5 * 10 ^ 11) ∧ Kp [a] S S' := by
  obtain ⟨r, S1, a1, l1, u1, w1, k1⟩ := dipc_p Q (W := W) (k + 12) (e := [some (.ref a), none]) (i := 0) rfl h (by omega) (many := 4) (by decide) (by decide)
  obtain ⟨r, rfl⟩ := Int.eq_ofNat_of_zero_le l1
  have e1 : (1 : Int) + (r : Int) = ((1 + r : Nat) : Int) := by omega
  obtain ⟨bs, S2, b1, b2, b3, b4, w2, k2⟩ := er_lcW (q := q) (W := W) (k := k + 13) (i := .irng (.cons (.bin .add (.lit (.int 1)) (.call 913 [0, 1] (.cons (.var 0) (.cons (.lit (.int 4)) .nil)) .nil)) .nil)) (el := .call 920 [0] (.cons (.var 0) .nil) .nil) (t := .nm 1) (own := [1]) (e := [some (.ref a), none]) (S := S) (S1 := S1) (l := List.range (1 + r)) (cks := []) (a := a) (c := c + 1) (10 ^ 11) (9 * 10 ^ 11)
    (fun (i : Nat) => D.int (i : Int)) dL (fun _ l => okL 4 l ∧ cntL l ≤ 24) (er_rng (n := 1 + r) (er_cons (by have := er_bin (q := q) (W := W) (k := k + 13) (o := .add) (er_lit (d := .int 1) (e := [some (.ref a), none]) rfl) a1 o_add; rw [e1] at this; exact this) er_nil) (by omega)) (fun _ _ => rfl)
    (fun x hx S c h1 h2 h3 => by
      obtain ⟨l, S2, g1, g2, g3, g4⟩ := dhand_p Q (W := W) k h1 (by omega)
      exact ⟨[some (.ref a), some (.int x)], l, S2, rfl, er_call (er_cons (er_var rfl) er_nil) er_nil rfl g1, g2, g3, g4⟩)
    w1 (by decide) (by rw [List.length_range]; omega) (by rw [List.length_range, sizeLine_eq]; omega)
  rw [List.length_range] at b2 w2
  have hall : ∀ s ∈ bs, okL 4 s ∧ cntL s ≤ 24 := fun s hs => by
    obtain ⟨i, hi⟩ := List.getElem?_of_mem hs
    have hil : i < bs.length := (List.getElem?_eq_some_iff.mp hi).1
    have : ((List.range (1 + r)).zip bs)[i]? = some (i, s) := by
      rw [List.getElem?_zip_eq_some]; exact ⟨by rw [List.getElem?_range]; omega, hi⟩
    exact b3 _ (List.mem_of_getElem? this)
  refine ⟨bs, S2, ?_, ⟨by omega, by omega, fun s hs => (hall s hs).1, fun s hs => (hall s hs).2⟩, w2.le (by omega), k1.trans k2⟩
  refine' run_rt (e0 := [some _, none]) Q.f921 rfl rfl ?h
  case h =>
    unfold b_921
    exact es_rt (es_ret (er_bi (er_cons b1 er_nil) (b_tupL (l_lst b4))))
end
end Tm

set_option Elab.async false
set_option linter.all false
set_option maxRecDepth 100000
set_option maxHeartbeats 8000000
namespace Tm
open PySem L2 TL
theorem nwP {p : List (List Stm)} (hp : OkP p) : Nice (dP p) := by
  have : ∀ l : List (List Stm), (∀ h ∈ l, okL 4 h) → (∀ h ∈ l, cntL h ≤ 24) → NWs 9 (10000 * l.length) (l.map dL) := by
    intro l
    induction l with
    | nil => intro _ _; exact NWs.nil
    | cons h l ih =>
      intro h1 h2
      have a1 := (nwL (h1 h List.mem_cons_self)).tup
      have a2 := h2 h List.mem_cons_self
      rw [List.map_cons, List.length_cons]
      exact (NWs.cons (a1.mono (by omega) (Nat.le_refl _)) (ih (fun x hx => h1 x (List.mem_cons_of_mem _ hx)) fun x hx => h2 x (List.mem_cons_of_mem _ hx))).mono (by omega)
  have l1 := hp.l1
  exact NW.nice (dp := 10) (w := 40000) ((this p hp.ok hp.cn).tup.mono (by decide) (show 10000 * p.length ≤ 40000 by omega)) (by decide) (by decide)
def b_912l : St := (.seq (.asg (.nm 3) (.bin .mod (.bi .int (.cons (.bin .add (.bin .mul (.var 3) (.lit (.int 69621))) (.bin .mul (.bin .add (.var 4) (.lit (.int 2))) (.bin .mod (.bi .int (.cons (.var 5) .nil)) (.bin .add (.bin .pow (.lit (.int 10)) (.lit (.int 24))) (.lit (.int 7)))))) .nil)) (.bin .add (.bin .pow (.lit (.int 10)) (.lit (.int 30))) (.lit (.int 57)))))
  .skip)
theorem well_loop {q : Pr} {W k : Nat} {S : Store} {cks : List D} (hc : chks S cks = true) {v0 v1 v2 : Option D} : ∀ (ns : List Int) (j : Nat) (t : Int) (x4 x5 : Option D), j + ns.length ≤ 1000 → 0 ≤ t → t < 10 ^ 31 →
    ∃ (t' : Int) (y4 y5 : Option D), forL (ex (pm q W k) b_912l) (.tp 2 (.cons (.nm 4) (.cons (.nm 5) .nil))) cks (enumF j (ns.map D.int)) [v0, v1, v2, some (.int t), x4, x5] S = some (.nx, [v0, v1, v2, some (.int t'), y4, y5], S) ∧ 0 ≤ t' ∧ t' < 10 ^ 31
  | [], j, t, x4, x5, _, h0, h1 => ⟨t, x4, x5, forL_nil hc, h0, h1⟩
  | n :: ns, j, t, x4, x5, hj, h0, h1 => by
    simp only [List.length_cons] at hj
    have w3 : 0 < (10 : Int) ^ (24 : Int).toNat + 7 := by decide
    have w4 : 0 < (10 : Int) ^ (30 : Int).toNat + 57 := by decide
    have w5 := Int.emod_nonneg n (show (10 : Int) ^ (24 : Int).toNat + 7 ≠ 0 by decide)
    have w6 := Int.emod_lt_of_pos n w3
    have w6' : (10 : Int) ^ (24 : Int).toNat + 7 < 10 ^ 25 := by decide
    have w7 : Sm (n % ((10 : Int) ^ (24 : Int).toNat + 7)) := by unfold Sm; omega
    have w8 : Sm ((j : Int) + 2) := by unfold Sm; omega
    have w9 := Int.emod_nonneg (t * 69621 + ((j : Int) + 2) * (n % ((10 : Int) ^ (24 : Int).toNat + 7))) (show (10 : Int) ^ (30 : Int).toNat + 57 ≠ 0 by decide)
    have w10 : (t * 69621 + ((j : Int) + 2) * (n % ((10 : Int) ^ (24 : Int).toNat + 7))) % ((10 : Int) ^ (30 : Int).toNat + 57) < 10 ^ 31 := Int.lt_trans (Int.emod_lt_of_pos _ w4) (by decide)
    obtain ⟨t', y4, y5, he, k0, k1⟩ := well_loop (q := q) (W := W) (k := k) hc (v0 := v0) (v1 := v1) (v2 := v2) ns (j + 1) _ (some (.int j)) (some (.int n)) (by omega) w9 w10
    refine ⟨t', y4, y5, forL_nx hc rfl ?_ he, k0, k1⟩
    unfold b_912l
    exact es_nx (es_asg (er_bin (er_bi (er_cons (er_bin (er_bin (er_var rfl) (er_lit rfl) (o_mulS (by decide))) (er_bin (er_bin (er_var rfl) (er_lit rfl) o_add) (er_bin (er_bi (er_cons (er_var rfl) er_nil) b_int) (er_bin (er_bin (er_lit rfl) (er_lit rfl) (o_pow (by decide) (by decide))) (er_lit rfl) o_add) (o_mod w3)) (o_mul w8 w7)) o_add) er_nil) b_int) (er_bin (er_bin (er_lit rfl) (er_lit rfl) (o_pow (by decide) (by decide))) (er_lit rfl) o_add) (o_mod w4)) rfl) es_skip
section
variable {q : Pr} (Q : HK q) {W : Nat}
include Q
theorem well_p (k : Nat) {S : Store} {ns : List Int} {i : Nat} (hS : S[0]? = some (.ro (ns.map D.int))) (hn : ns.length ≤ 63) (hi : i < 100) : ∃ S', run q W (k + 1) 912 [.ref 0, .int i] S = some (.ref S.length, S') ∧ Wel S' S.length 0 ∧ Kp [] S S' := by
  have hL : listAt S 0 = some (ns.map D.int) := l_ro hS
  have hc : chks S [.tup [.ref 0, .tup (ns.map D.int)]] = true := chk_lst hL (Kp.refl _ _)
  have hit : ∀ e : Env', e[0]? = some (some (.ref 0)) → ev (pm q W k) (.ienum (.var 0)) e S = some (itD (enumF 0 (ns.map D.int)) [.tup [.ref 0, .tup (ns.map D.int)]], S) := fun e he => er_ienum (er_var he) hL
  have fin : ∀ (cell : Int), ∃ S', ex (pm q W k) (.seq (.for_ (.ienum (.var 0)) (.tp 2 (.cons (.nm 4) (.cons (.nm 5) .nil))) b_912l)
      (.seq (.ret (.lst (.cons (.bi .max (.cons (.lit (.int 0)) (.cons (.bin .sub (.var 2) (.bin .pow (.lit (.int 10)) (.lit (.int 18)))) .nil))) (.cons (.bin .mod (.bi .int (.cons (.bin .add (.bin .mul (.bi .abs (.cons (.var 2) .nil)) (.lit (.int 40503))) (.var 3)) .nil)) (.bin .add (.bin .pow (.lit (.int 10)) (.lit (.int 29))) (.lit (.int 319)))) (.cons (.lit (.int 0)) .nil)))))
      .skip)) [some (.ref 0), some (.int i), some (.int cell), some (.int (7 * i + 3)), none, none] S = some (.rt (.ref S.length), S') ∧ Wel S'.2 S.length 0 ∧ Kp [] S S'.2 := by
    intro cell
    obtain ⟨t', y4, y5, g1, g2, g3⟩ := well_loop (q := q) (W := W) (k := k) hc (v0 := some (.ref 0)) (v1 := some (.int i)) (v2 := some (.int cell)) ns 0 (7 * i + 3) none none (by omega) (by omega) (by omega)
    have w3 : 0 < (10 : Int) ^ (29 : Int).toNat + 319 := by decide
    have w4 := Int.emod_nonneg ((if cell < 0 then -cell else cell) * 40503 + t') (show (10 : Int) ^ (29 : Int).toNat + 319 ≠ 0 by decide)
    have w5 : ((if cell < 0 then -cell else cell) * 40503 + t') % ((10 : Int) ^ (29 : Int).toNat + 319) < 10 ^ 30 := Int.lt_trans (Int.emod_lt_of_pos _ w3) (by decide)
    refine ⟨(_, _), es_nx (es_for (hit _ rfl) g1) (es_rt (es_ret (er_lst (er_cons (er_bi (er_cons (er_lit rfl) (er_cons (er_bin (er_var rfl) (er_bin (er_lit rfl) (er_lit rfl) (o_pow (by decide) (by decide))) o_sub) er_nil)) b_max) (er_cons (er_bin (er_bi (er_cons (er_bin (er_bin (er_bi (er_cons (er_var rfl) er_nil) b_abs) (er_lit rfl) (o_mulS (by decide))) (er_var rfl) o_add) er_nil) b_int) (er_bin (er_bin (er_lit rfl) (er_lit rfl) (o_pow (by decide) (by decide))) (er_lit rfl) o_add) (o_mod w3)) (er_cons (er_lit rfl) er_nil))) (Nat.le_of_ble_eq_true rfl)))), ?_, Kp.push⟩
    exact ⟨_, _, _, g_last, w4, w5, Int.le_refl _, Int.le_refl _⟩
  by_cases hlt : i < ns.length
  · have hx : (ns.map D.int)[i]? = some (.int ns[i]) := by rw [List.getElem?_map, List.getElem?_eq_getElem hlt]; rfl
    obtain ⟨S', f1, f2, f3⟩ := fin ns[i]
    refine ⟨S'.2, ?_, f2, f3⟩
    refine' run_rt (e' := S'.1) (e0 := [some _, some _, none, none, none, none]) Q.f912 rfl rfl ?h
    case h =>
      unfold b_912
      unfold b_912l at f1
      refine es_nx (e1 := [some (.ref 0), some (.int i), some (.int (29 * i + 11)), some (.int (7 * i + 3)), none, none]) (es_asg (er_tup (er_cons (er_bin (er_bin (er_lit rfl) (er_var rfl) (o_mulS (by omega))) (er_lit rfl) o_add) (er_cons (er_bin (er_bin (er_lit rfl) (er_var rfl) (o_mulS (by omega))) (er_lit rfl) o_add) er_nil)) (Nat.le_of_ble_eq_true rfl)) rfl) ?_
      refine es_nx (e1 := [some (.ref 0), some (.int i), some (.int ns[i]), some (.int (7 * i + 3)), none, none]) (es_if_t (er_cmp (er_var rfl) (er_bi (er_cons (er_var rfl) er_nil) (b_lenL hL)) (c_lt_t (by rw [List.length_map]; omega))) (es_nx (es_asg (er_bi (er_cons (er_idx (er_var rfl) (er_var rfl) (i_lst hL (atN hx))) er_nil) b_int) rfl) es_skip)) ?_
      exact f1
  · obtain ⟨S', f1, f2, f3⟩ := fin (29 * i + 11)
    refine ⟨S'.2, ?_, f2, f3⟩
    refine' run_rt (e' := S'.1) (e0 := [some _, some _, none, none, none, none]) Q.f912 rfl rfl ?h
    case h =>
      unfold b_912
      unfold b_912l at f1
      refine es_nx (e1 := [some (.ref 0), some (.int i), some (.int (29 * i + 11)), some (.int (7 * i + 3)), none, none]) (es_asg (er_tup (er_cons (er_bin (er_bin (er_lit rfl) (er_var rfl) (o_mulS (by omega))) (er_lit rfl) o_add) (er_cons (er_bin (er_bin (er_lit rfl) (er_var rfl) (o_mulS (by omega))) (er_lit rfl) o_add) er_nil)) (Nat.le_of_ble_eq_true rfl)) rfl) ?_
      refine es_nx (es_if_f (er_cmp (er_var rfl) (er_bi (er_cons (er_var rfl) er_nil) (b_lenL hL)) (c_lt_f (by rw [List.length_map]; omega))) es_skip) ?_
      exact f1
/-! ### may it pass -/
def b_926l : St := (.seq (.asg (.tp 2 (.cons (.nm 3) (.cons (.nm 4) .nil))) (.call 925 [0] (.cons (.var 2) .nil) .nil))
  (.seq (.asg (.nm 1) (.bi .min (.cons (.lit (.int 100000)) (.cons (.bin .mul (.var 1) (.var 4)) .nil))))
  (.seq (.ifs (.cmp .gt (.var 3) (.lit (.int 40))) (.seq (.ret (.lit (.bl false)))
  .skip) .skip)
  .skip)))
theorem mayL_p (k : Nat) (x0 : Option D) : ∀ (l : List (List Stm)) (S : Store) (b : Int) (x2 x3 x4 : Option D), (∀ h ∈ l, okL 4 h) → (0 ≤ b ∧ b ≤ 100000) →
    ∃ (S' : Store) (fl : Fl) (e' : Env'), forL (ex (pm q W (k + 5)) b_926l) (.nm 2) [] (l.map dL) [x0, some (.int b), x2, x3, x4] S = some (fl, e', S') ∧ Kp [] S S' ∧ (fl = .rt (.bl false) ∨ (fl = .nx ∧ ∃ (b' : Int) (y2 y3 y4 : Option D), e' = [x0, some (.int b'), y2, y3, y4])) := by
  intro l
  induction l with
  | nil => intro S b x2 x3 x4 _ hb; exact ⟨S, .nx, _, forL_nil rfl, Kp.refl _ _, .inr ⟨rfl, b, x2, x3, x4, rfl⟩⟩
  | cons h l ih =>
    intro S b x2 x3 x4 hok hb
    obtain ⟨lo, wy, S1, r1, h1, h2, k1⟩ := meas_p Q (W := W) 4 h (hok h List.mem_cons_self) k S
    have mb := min_bd (Int.mul_nonneg hb.1 h2.1)
    by_cases q0 : 40 < lo
    · refine ⟨S1, .rt (.bl false), [x0, some (.int (if b * wy < 100000 then b * wy else 100000)), some (dL h), some (.int lo), some (.int wy)], ?_, k1, .inl rfl⟩
      refine forL_rt rfl rfl ?_
      unfold b_926l
      refine es_nx (es_asg (er_call (er_cons (er_var rfl) er_nil) er_nil rfl r1) rfl) ?_
      refine es_nx (es_asg (er_bi (er_cons (er_lit rfl) (er_cons (er_bin (er_var rfl) (er_var rfl) (o_mulS (by omega))) er_nil)) b_min) rfl) ?_
      exact es_rt (es_if_t (er_cmp (er_var rfl) (er_lit rfl) (c_gt_t q0)) (es_rt (es_ret (er_lit rfl))))
    · obtain ⟨S', fl, e', g1, g2, g3⟩ := ih S1 _ (some (dL h)) (some (.int lo)) (some (.int wy)) (fun x hx => hok x (List.mem_cons_of_mem _ hx)) mb
      refine ⟨S', fl, e', forL_nx rfl rfl ?_ g1, k1.trans g2, g3⟩
      unfold b_926l
      refine es_nx (es_asg (er_call (er_cons (er_var rfl) er_nil) er_nil rfl r1) rfl) ?_
      refine es_nx (es_asg (er_bi (er_cons (er_lit rfl) (er_cons (er_bin (er_var rfl) (er_var rfl) (o_mulS (by omega))) er_nil)) b_min) rfl) ?_
      exact es_nx (es_if_f (er_cmp (er_var rfl) (er_lit rfl) (c_gt_f q0)) es_skip) es_skip
theorem may_p (k : Nat) (S : Store) {p : List (List Stm)} (hp : OkP p) : ∃ (t : Bool) (S' : Store), run q W (k + 6) 926 [dP p] S = some (.bl t, S') ∧ Kp [] S S' := by
  obtain ⟨S', fl, e', g1, g2, g3⟩ := mayL_p Q (W := W) k (some (dP p)) p S 1 none none none hp.ok (by omega)
  rcases g3 with rfl | ⟨rfl, b', y2, y3, y4, rfl⟩
  · refine ⟨false, S', ?_, g2⟩
    refine' run_rt (e0 := [some _, none, none, none, none]) Q.f926 rfl rfl ?h
    case h =>
      unfold b_926
      unfold b_926l at g1
      exact es_nx (es_asg (er_lit rfl) rfl) (es_rt (es_for (itv_tup (ds := p.map dL) (er_var rfl)) g1))
  · by_cases q0 : b' ≤ 64
    · refine ⟨true, S', ?_, g2⟩
      refine' run_rt (e0 := [some _, none, none, none, none]) Q.f926 rfl rfl ?h
      case h =>
        unfold b_926
        unfold b_926l at g1
        exact es_nx (es_asg (er_lit rfl) rfl) (es_nx (es_for (itv_tup (ds := p.map dL) (er_var rfl)) g1) (es_rt (es_ret (er_cmp (er_var rfl) (er_lit rfl) (c_le_t q0)))))
    · refine ⟨false, S', ?_, g2⟩
      refine' run_rt (e0 := [some _, none, none, none, none]) Q.f926 rfl rfl ?h
      case h =>
        unfold b_926
        unfold b_926l at g1
        exact es_nx (es_asg (er_lit rfl) rfl) (es_nx (es_for (itv_tup (ds := p.map dL) (er_var rfl)) g1) (es_rt (es_ret (er_cmp (er_var rfl) (er_lit rfl) (c_le_f q0)))))
/-! ### the law -/
theorem right_p (hW : 30 ≤ W) (k : Nat) (S : Store) {p : List (List Stm)} (hp : OkP p) (t : Bool) : ∃ S', run q W (k + 21) 927 [dP p, .str (txP p), .bl t] S = some (.bl true, S') ∧ Kp [] S S' := by
  obtain ⟨z, hz⟩ := (nwP hp).rp
  obtain ⟨S1, a1, k1⟩ := readp_p Q hW (k + 1) S hp
  obtain ⟨m, S2, a2, k2⟩ := may_p Q (W := W) (k + 14) S1 hp
  obtain ⟨S3, a3, k3⟩ := showP_p Q (W := W) hp (k + 6) S2
  obtain ⟨S4, a4, k4⟩ := readp_p Q hW (k + 1) S3 hp
  obtain ⟨S5, a5, k5⟩ := showP_p Q (W := W) hp (k + 6) S4
  have rd : ev (pm q W (k + 20)) (.ife (.var 2) (.call 911 [0] .nil (.cons (.var 1) .nil)) (.call 911 [0] (.cons (.var 1) .nil) .nil)) [some (dP p), some (.str (txP p)), some (.bl t), some (.str z), none, none] S = some (dP p, S1) := by
    cases t
    · exact er_ife_f (er_var rfl) (er_call (er_cons (er_var rfl) er_nil) er_nil rfl a1)
    · exact er_ife_t (er_var rfl) (er_call er_nil (er_cons (er_var rfl) er_nil) rfl a1)
  have sh : ev (pm q W (k + 20)) (.ife (.var 2) (.call 892 [0] .nil (.cons (.var 0) .nil)) (.call 892 [0] (.cons (.var 0) .nil) .nil)) [some (dP p), some (.str (txP p)), some (.bl t), some (.str z), some (dP p), none] S2 = some (.str (txP p), S3) := by
    cases t
    · exact er_ife_f (er_var rfl) (er_call (er_cons (er_var rfl) er_nil) er_nil rfl a3)
    · exact er_ife_t (er_var rfl) (er_call er_nil (er_cons (er_var rfl) er_nil) rfl a3)
  cases m
  · refine ⟨S2, ?_, k1.trans k2⟩
    refine' run_rt (e0 := [some _, some _, some _, none, none, none]) Q.f927 rfl rfl ?h
    case h =>
      unfold b_927
      refine es_nx (es_asg (er_bi (er_cons (er_var rfl) er_nil) (hz S)) rfl) ?_
      refine es_nx (es_asg rd rfl) ?_
      refine es_nx (es_if_f (er_cmp (er_bi (er_cons (er_var rfl) er_nil) (hz S1)) (er_var rfl) (c_strn_f rfl)) es_skip) ?_
      exact es_rt (es_if_t (er_not_t (er_call (er_cons (er_var rfl) er_nil) er_nil rfl a2)) (es_rt (es_ret (er_lit rfl))))
  · refine ⟨S5, ?_, (((k1.trans k2).trans k3).trans k4).trans k5⟩
    refine' run_rt (e0 := [some _, some _, some _, none, none, none]) Q.f927 rfl rfl ?h
    case h =>
      unfold b_927
      refine es_nx (es_asg (er_bi (er_cons (er_var rfl) er_nil) (hz S)) rfl) ?_
      refine es_nx (es_asg rd rfl) ?_
      refine es_nx (es_if_f (er_cmp (er_bi (er_cons (er_var rfl) er_nil) (hz S1)) (er_var rfl) (c_strn_f rfl)) es_skip) ?_
      refine es_nx (es_if_f (er_not_f (er_call (er_cons (er_var rfl) er_nil) er_nil rfl a2)) es_skip) ?_
      refine es_nx (es_asg sh rfl) ?_
      refine es_nx (es_if_f (er_or_f (er_not_f (er_isty (er_var rfl) rfl)) (er_or_f (er_cmp (er_var rfl) (er_var rfl) (c_strn_f rfl)) (er_cmp (er_bi (er_cons (er_var rfl) er_nil) (hz S3)) (er_var rfl) (c_strn_f rfl)))) es_skip) ?_
      exact es_rt (es_ret (er_and_t (er_cmp (er_bi (er_cons (er_call (er_cons (er_var rfl) er_nil) er_nil rfl a4) er_nil) (hz S4)) (er_var rfl) (c_str_t rfl)) (er_cmp (er_call (er_cons (er_var rfl) er_nil) er_nil rfl a5) (er_var rfl) (c_str_t rfl))))
end
end Tm

set_option Elab.async false
set_option linter.all false
set_option maxRecDepth 100000
set_option maxHeartbeats 8000000
namespace Tm
open PySem L2 TL
def encT (t : List (List Stm) × Bool) : D := .tup [dP t.1, .str (txP t.1), .bl t.2]
def p1 : List (List Stm) := [[]]
def p2 : List (List Stm) := [[], [], [.pl "whole" []], []]
theorem okp1 : OkP p1 := ⟨by decide, by decide, fun h hh => by simp only [p1, List.mem_singleton] at hh; subst hh; exact fun s hs => (by cases hs), fun h hh => by simp only [p1, List.mem_singleton] at hh; subst hh; rw [cntL_nil]; omega⟩
theorem okp2 : OkP p2 := by
  have h3 : okL 4 [.pl "whole" []] := fun s hs => by
    rw [List.mem_singleton] at hs; subst hs
    exact ⟨[], by decide +kernel, .nil⟩
  refine ⟨by decide, by decide, fun h hh => ?_, fun h hh => ?_⟩
  · simp only [p2, List.mem_cons, List.not_mem_nil, or_false] at hh
    rcases hh with rfl | rfl | rfl | rfl
    · exact fun s hs => (by cases hs)
    · exact fun s hs => (by cases hs)
    · exact h3
    · exact fun s hs => (by cases hs)
  · simp only [p2, List.mem_cons, List.not_mem_nil, or_false] at hh
    rcases hh with rfl | rfl | rfl | rfl
    · rw [cntL_nil]; omega
    · rw [cntL_nil]; omega
    · rw [cntL_cons, cntL_nil, cntS_pl]; omega
    · rw [cntL_nil]; omega
theorem tx1 : txP p1 = "-" := by
  show Txt.join " || " [txH []] = "-"
  rw [txH_nil]; decide +kernel
theorem tx2 : txP p2 = "- || - || whole || -" := by
  show Txt.join " || " [txH [], txH [], txH [.pl "whole" []], txH []] = _
  have e : txH [.pl "whole" []] = "whole" := by
    unfold txH; rw [wdH, wdR_nil, wd_pl]; exact jn_one _
  rw [txH_nil, e]; decide +kernel
def b_928l : St := (.seq (.asg (.nm 3) (.call 912 [0, 1] (.cons (.var 0) (.cons (.var 2) .nil)) .nil))
  (.seq (.asg (.nm 4) (.call 921 [0] (.cons (.var 3) .nil) .nil))
  (.seq (.drop (.app (.var 1) (.tup (.cons (.var 4) (.cons (.call 924 [0] (.cons (.var 4) .nil) .nil) (.cons (.cmp .eq (.call 913 [0, 1] (.cons (.var 3) (.cons (.lit (.int 2)) .nil)) .nil) (.lit (.int 0))) .nil))))))
  .skip)))
def b_928m : St := (.seq (.ifs (.not_ (.call 927 [0, 1, 2] (.cons (.var 4) (.cons (.var 5) (.cons (.var 6) .nil))) .nil)) (.seq (.ret (.lit (.bl false)))
  .skip) .skip)
  .skip)
section
variable {q : Pr} (Q : HK q) {W : Nat}
include Q
theorem law_p (hW : 30 ≤ W) (k : Nat) (ns : List Int) (hn : ns.length ≤ 63) : ∃ S', run q W (k + 30) 928 [.ref 0] [.ro (ns.map D.int)] = some (.bl true, S') := by
  have hro : ([O.ro (ns.map D.int)] : Store)[0]? = some (.ro (ns.map D.int)) := rfl
  have k0 : Kp [] [O.ro (ns.map D.int)] ([O.ro (ns.map D.int)] ++ [O.lst [encT (p1, false), encT (p2, true)]]) := Kp.push
  obtain ⟨n, hn1, hn2, hn3⟩ : ∃ n : Nat, n ≤ 4 ∧ 1 ≤ n ∧ (if (if (ns.length : Int) < 4 then (ns.length : Int) else 4) > 1 then (if (ns.length : Int) < 4 then (ns.length : Int) else 4) else 1) = (n : Int) := by
    refine ⟨max 1 (min 4 ns.length), by omega, by omega, ?_⟩
    split <;> split at * <;> omega
  -- the drawing
  obtain ⟨e1, S1, f1, f2⟩ := forL_inv (bod := ex (pm q W (k + 29)) b_928l) (t := .nm 2) (cks := []) (fun ds e S => ∃ (its : List (List (List Stm) × Bool)) (x2 x3 x4 x5 x6 : Option D), e = [some (.ref 0), some (.ref 1), x2, x3, x4, x5, x6] ∧ S[0]? = some (.ro (ns.map D.int)) ∧ S[1]? = some (.lst (its.map encT)) ∧ (∀ t ∈ its, OkP t.1) ∧ its.length + ds.length ≤ 10 ∧ ∀ d ∈ ds, ∃ i : Nat, d = .int i ∧ i < 4)
    (fun _ _ _ _ => rfl) (fun d ds e S hI => by
      obtain ⟨its, x2, x3, x4, x5, x6, rfl, h1, h2, h3, h4, h5⟩ := hI
      obtain ⟨i, rfl, hi⟩ := h5 d List.mem_cons_self
      simp only [List.length_cons] at h4
      obtain ⟨S2, a2, w2, k2⟩ := well_p Q (W := W) (k + 28) h1 hn (i := i) (by omega)
      have hlt : 1 < S.length := (List.getElem?_eq_some_iff.mp h2).1
      obtain ⟨p, S3, a3, op, w3, k3⟩ := dprog_p Q (W := W) (k + 15) w2 (by omega)
      obtain ⟨S4, a4, k4⟩ := text_p Q (W := W) op (k + 19) S3
      obtain ⟨r, S5, a5, l5, u5, w5, k5⟩ := dip_p Q (W := W) (k + 28) (w3.kp k4 (by simp)) (by omega) (many := 2) (by decide) (by decide)
      have kk : ∀ j, j ≠ S.length → ∀ o, S[j]? = some o → S5[j]? = some o := fun j hj o ho => k5 _ _ (by simpa using hj) (k4 _ _ (by simp) (k3 _ _ (by simpa using hj) (k2 _ _ (by simp) ho)))
      have g0 := kk 0 (by omega) _ h1
      have g1 := kk 1 (by omega) _ h2
      have hc : ∃ t : Bool, ev (pm q W (k + 29)) (.cmp .eq (.call 913 [0, 1] (.cons (.var 3) (.cons (.lit (.int 2)) .nil)) .nil) (.lit (.int 0))) [some (.ref 0), some (.ref 1), some (.int i), some (.ref S.length), some (dP p), x5, x6] S4 = some (.bl t, S5) := by
        by_cases q0 : r = 0
        · exact ⟨true, er_cmp (er_call (er_cons (er_var rfl) (er_cons (er_lit rfl) er_nil)) er_nil rfl a5) (er_lit rfl) (c_eq_t q0)⟩
        · exact ⟨false, er_cmp (er_call (er_cons (er_var rfl) (er_cons (er_lit rfl) er_nil)) er_nil rfl a5) (er_lit rfl) (c_eq_f q0)⟩
      obtain ⟨t, hc⟩ := hc
      have hp := push_at (d := encT (p, t)) g1 (by rw [sizeLine_eq, List.length_map]; omega)
      have hL3 : S3[1]? = some (.lst (its.map encT)) := k3 _ _ (by simp; omega) (k2 _ _ (by simp) h2)
      refine ⟨_, [some (.ref 0), some (.ref 1), some (.int i), some (.ref S.length), some (dP p), x5, x6], S5.set 1 (.lst (its.map encT ++ [encT (p, t)])), rfl, .inl ?_, its ++ [(p, t)], _, _, _, _, _, rfl, by rw [List.getElem?_set_ne (by decide)]; exact g0, by rw [set_get g1]; simp, fun x hx => ?_, by simp; omega, fun d hd => h5 d (List.mem_cons_of_mem _ hd)⟩
      · unfold b_928l
        refine es_nx (es_asg (er_call (er_cons (er_var rfl) (er_cons (er_var rfl) er_nil)) er_nil rfl a2) rfl) ?_
        refine es_nx (es_asg (er_call (er_cons (er_var rfl) er_nil) er_nil rfl a3) rfl) ?_
        exact es_nx (es_drop (er_appG (er_var rfl) (lst_ok (l_lst hL3)) (er_tup (er_cons (er_var rfl) (er_cons (er_call (er_cons (er_var rfl) er_nil) er_nil rfl a4) (er_cons hc er_nil))) (Nat.le_of_ble_eq_true rfl)) hp)) es_skip
      · rcases List.mem_append.mp hx with hx | hx
        · exact h3 x hx
        · rw [List.mem_singleton] at hx; subst hx; exact op)
    ((List.range n).map fun (i : Nat) => D.int (i : Int)) [some (.ref 0), some (.ref 1), none, none, none, none, none] ([O.ro (ns.map D.int)] ++ [O.lst [encT (p1, false), encT (p2, true)]])
    ⟨[(p1, false), (p2, true)], none, none, none, none, none, rfl, rfl, rfl, fun x hx => by
      simp only [List.mem_cons, List.not_mem_nil, or_false] at hx
      rcases hx with rfl | rfl
      · exact okp1
      · exact okp2, by simp; omega, fun d hd => by
      obtain ⟨i, hi, rfl⟩ := List.mem_map.mp hd
      exact ⟨i, rfl, by have := List.mem_range.mp hi; omega⟩⟩
  obtain ⟨its, x2, x3, x4, x5, x6, rfl, h1, h2, h3, h4, _⟩ := f2
  simp only [List.length_nil, Nat.add_zero] at h4
  -- the asking
  have hR : (S1 ++ [O.lst (its.map encT).reverse])[1]? = some (.lst (its.map encT)) := by rw [List.getElem?_append_left (List.getElem?_eq_some_iff.mp h2).1]; exact h2
  have hN : ((its ++ its.reverse).map encT) = its.map encT ++ (its.map encT).reverse := by rw [List.map_append, List.map_reverse]
  have hL : listAt ((S1 ++ [O.lst (its.map encT).reverse]) ++ [O.lst ((its ++ its.reverse).map encT)]) (S1 ++ [O.lst (its.map encT).reverse]).length = some ((its ++ its.reverse).map encT) := l_last
  have hit : ev (pm q W (k + 29)) (.itv (.bin .add (.var 1) (.revl (.var 1)))) [some (.ref 0), some (.ref 1), x2, x3, x4, x5, x6] S1 = some (itD ((its ++ its.reverse).map encT) [.tup [.ref (S1 ++ [O.lst (its.map encT).reverse]).length, .tup ((its ++ its.reverse).map encT)]], (S1 ++ [O.lst (its.map encT).reverse]) ++ [O.lst ((its ++ its.reverse).map encT)]) := by
    refine itv_lst (er_bin (er_var rfl) (er_revl (er_var rfl) (l_lst h2)) ?_) hL
    rw [o_addL hR g_last (by rw [sizeLine_eq]; simp; omega), hN]
  obtain ⟨e2, S2, g1, g2⟩ := forL_inv (bod := ex (pm q W (k + 29)) b_928m) (t := .tp 3 (.cons (.nm 4) (.cons (.nm 5) (.cons (.nm 6) .nil)))) (cks := [.tup [.ref (S1 ++ [O.lst (its.map encT).reverse]).length, .tup ((its ++ its.reverse).map encT)]])
    (fun ds e S => ∃ (l : List (List (List Stm) × Bool)) (y4 y5 y6 : Option D), ds = l.map encT ∧ e = [some (.ref 0), some (.ref 1), x2, x3, y4, y5, y6] ∧ (∀ t ∈ l, OkP t.1) ∧ Kp [] ((S1 ++ [O.lst (its.map encT).reverse]) ++ [O.lst ((its ++ its.reverse).map encT)]) S)
    (fun ds e S hI => by obtain ⟨_, _, _, _, _, _, _, hk⟩ := hI; exact chk_lst hL hk)
    (fun d ds e S hI => by
      obtain ⟨l, y4, y5, y6, hd, rfl, ho, hk⟩ := hI
      cases l with
      | nil => cases hd
      | cons t l =>
        rw [List.map_cons] at hd
        injection hd with hd1 hd2
        subst hd1
        obtain ⟨S3, a3, k3⟩ := right_p Q hW (k + 8) S (ho t List.mem_cons_self) t.2
        refine ⟨[some (.ref 0), some (.ref 1), x2, x3, some (dP t.1), some (.str (txP t.1)), some (.bl t.2)], [some (.ref 0), some (.ref 1), x2, x3, some (dP t.1), some (.str (txP t.1)), some (.bl t.2)], S3, rfl, .inl ?_, l, _, _, _, hd2, rfl, fun x hx => ho x (List.mem_cons_of_mem _ hx), hk.trans k3⟩
        unfold b_928m
        exact es_nx (es_if_f (er_not_f (er_call (er_cons (er_var rfl) (er_cons (er_var rfl) (er_cons (er_var rfl) er_nil))) er_nil rfl a3)) es_skip) es_skip)
    ((its ++ its.reverse).map encT) [some (.ref 0), some (.ref 1), x2, x3, x4, x5, x6] ((S1 ++ [O.lst (its.map encT).reverse]) ++ [O.lst ((its ++ its.reverse).map encT)])
    ⟨its ++ its.reverse, x4, x5, x6, rfl, rfl, fun x hx => by rcases List.mem_append.mp hx with hx | hx; exact h3 x hx; exact h3 x (List.mem_reverse.mp hx), Kp.refl _ _⟩
  obtain ⟨_, y4, y5, y6, _, rfl, _, _⟩ := g2
  refine ⟨S2, ?_⟩
  refine' run_rt (e0 := [some _, none, none, none, none, none, none]) Q.f928 rfl rfl ?h
  case h =>
    unfold b_928
    unfold b_928l at f1
    unfold b_928m at g1
    have t1 : encT (p1, false) = .tup [.tup [.tup []], .str "-", .bl false] := by show D.tup [dP p1, .str (txP p1), .bl false] = _; rw [tx1]; rfl
    have t2 : encT (p2, true) = .tup [.tup [.tup [], .tup [], .tup [.tup [.str "whole"]], .tup []], .str "- || - || whole || -", .bl true] := by
      show D.tup [dP p2, .str (txP p2), .bl true] = _
      rw [tx2]
      have : dP p2 = .tup [.tup [], .tup [], .tup [encS (.pl "whole" [])], .tup []] := rfl
      rw [this, enc_pl]; rfl
    rw [t1, t2] at f1
    have hlen : biop .len [.ref 0] ([O.ro (ns.map D.int)] ++ [O.lst [.tup [.tup [.tup []], .str "-", .bl false], .tup [.tup [.tup [], .tup [], .tup [.tup [.str "whole"]], .tup []], .str "- || - || whole || -", .bl true]]]) = some (.int ns.length, [O.ro (ns.map D.int)] ++ [O.lst [.tup [.tup [.tup []], .str "-", .bl false], .tup [.tup [.tup [], .tup [], .tup [.tup [.str "whole"]], .tup []], .str "- || - || whole || -", .bl true]]]) := by
      rw [b_lenL (l_ro (xs := ns.map D.int) rfl), List.length_map]
    have tp : ∀ {e : Env'} {S : Store}, ev (pm q W (k + 29)) (.tup .nil) e S = some (.tup [], S) := er_tup er_nil (Nat.zero_le _)
    refine es_nx (e1 := [some (.ref 0), some (.ref 1), none, none, none, none, none]) (S1 := [O.ro (ns.map D.int)] ++ [O.lst [.tup [.tup [.tup []], .str "-", .bl false], .tup [.tup [.tup [], .tup [], .tup [.tup [.str "whole"]], .tup []], .str "- || - || whole || -", .bl true]]]) (es_asg (er_lst (er_cons (er_tup (er_cons (er_tup (er_cons tp er_nil) (Nat.le_of_ble_eq_true rfl)) (er_cons (er_lit rfl) (er_cons (er_lit rfl) er_nil))) (Nat.le_of_ble_eq_true rfl))
      (er_cons (er_tup (er_cons (er_tup (er_cons tp (er_cons tp (er_cons (er_tup (er_cons (er_tup (er_cons (er_lit rfl) er_nil) (Nat.le_of_ble_eq_true rfl)) er_nil) (Nat.le_of_ble_eq_true rfl)) (er_cons tp er_nil)))) (Nat.le_of_ble_eq_true rfl)) (er_cons (er_lit rfl) (er_cons (er_lit rfl) er_nil))) (Nat.le_of_ble_eq_true rfl)) er_nil)) (Nat.le_of_ble_eq_true rfl)) rfl) ?_
    refine es_nx (es_for (er_rng (n := n) (er_cons (er_bi (er_cons (er_lit rfl) (er_cons (er_bi (er_cons (er_lit rfl) (er_cons (er_bi (er_cons (er_var rfl) er_nil) hlen) er_nil)) b_min) er_nil)) ?_) er_nil) (by omega)) f1) ?_
    · rw [← hn3]; exact b_max
    exact es_nx (es_for hit g1) (es_rt (es_ret (er_lit rfl)))
end
theorem hk71 : HK prK71 := by constructor <;> rfl
theorem law_run (ns : List Int) (hn : ns.length ≤ 63) : Says prK71 928 ns := by
  obtain ⟨S, h⟩ := law_p hk71 (W := 30) (by decide) 0 ns hn
  exact ⟨30, 30, S, by decide, h⟩
end Tm

set_option Elab.async false
set_option linter.all false
set_option maxRecDepth 100000
set_option maxHeartbeats 4000000
namespace Tm
open PySem PySem.Spec PyProof.Rows L2
/-! ## what the top has written, in the machine's words -/
def FnHere (K : PySem.W.Frag) (mg : Str → Option Value) (q : Pr) (G : Gx) (n : Nat) (e : Str × Nat × List Str) : Prop :=
  ∃ (a : Addr) (fd : FuncData) (qual : Str) (st : Stmt) (N : List Str), mg e.1 = some (.ref a) ∧ Fun K e.1 qual st a fd ∧ FnScope N e.2.2 (defScope st) ∧ Binds K fd e.2.2 [] ∧
    (∀ r ∈ G.kws, r.1 = e.1 → ∀ (t : Shared) (us ws : List Value), us.length = r.2.1 → ws.length = r.2.2.1.length → BindsTo t fd ⟨us, r.2.2.1.zip ws⟩ (e.2.2.zip (pick r.2.2.2 (us ++ ws)))) ∧
    q.fs e.2.1 = some (e.2.2.length, N.length, cSs n ⟨N, (defScope st).names, none, G⟩ (defBody st))
theorem mem_of_lookup {α : Type} : ∀ {l : List (Str × α)} {x : Str} {y : α}, l.lookup x = some y → (x, y) ∈ l
  | (x', y') :: r, x, y, h => by
    rw [List.lookup_cons] at h
    cases e : x == x' with
    | true =>
      rw [e] at h
      have := eq_of_beq e
      subst this
      simp only [Option.some.injEq] at h
      subst h
      exact List.mem_cons_self
    | false =>
      rw [e] at h
      exact List.mem_cons_of_mem _ (mem_of_lookup h)
theorem here_mk {K : PySem.W.Frag} {h : Heap} {mg : Str → Option Value} {q : Pr} {G : Gx} {n : Nat} {x qual : Str} {f : Nat} {ps N : List Str} {st : Stmt} {a : Addr} {oc : Value} {od an : Option Addr} {osl : Array (Option Value)} {kV doc pm cdv ct : Value}
    (X : K.In h) (Gm : h.Ns mainGlobals mg) (h1 : PySem.W.nsIn K mainGlobals x = some (some (.ref a)))
    (l : List.lookup a K = some ⟨oc, od, .func (PySem.W.fnOf x qual (defArgs st) (defBody st) (defScope st) .none kV doc pm an cdv ct), osl⟩) (c : PySem.W.codeIn K cdv qual = true) (k : PySem.W.keepIn K (.ref a) = true)
    (S : FnScope N ps (defScope st))
    (b : ∀ (kV doc pm : Value) (an : Option Addr) (cdv ct : Value) (us : List Value), us.length = ps.length → bindArgs (PySem.W.fnOf x qual (defArgs st) (defBody st) (defScope st) .none kV doc pm an cdv ct) ⟨us, []⟩ = pure (ps.zip us))
    (kw : ∀ (kV doc pm : Value) (an : Option Addr) (cdv ct : Value), ∀ r ∈ G.kws, r.1 = x → ∀ (us ws : List Value), us.length = r.2.1 → ws.length = r.2.2.1.length → bindArgs (PySem.W.fnOf x qual (defArgs st) (defBody st) (defScope st) .none kV doc pm an cdv ct) ⟨us, r.2.2.1.zip ws⟩ = pure (ps.zip (pick r.2.2.2 (us ++ ws))))
    (hq : q.fs f = some (ps.length, N.length, cSs n ⟨N, (defScope st).names, none, G⟩ (defBody st))) : FnHere K mg q G n (x, f, ps) := by
  have F := fun_mk (st := st) l c k
  exact ⟨a, _, qual, st, N, PySem.W.mg_of X Gm h1, F, S, F.binds b, fun r hr e t us ws h2 h3 => .of_eq (kw kV doc pm an cdv ct r hr e us ws h2 h3), hq⟩
/-- no call by names of x -/
theorem no_kw {K : Prop} {x : Str} {l : List (Str × Nat × List Str × List Nat)} (h : (l.all fun r => !decide (r.1 = x)) = true) {r : Str × Nat × List Str × List Nat} (hr : r ∈ l) (e : r.1 = x) : K := by
  have := List.all_eq_true.mp h r hr
  rw [decide_eq_true e] at this
  cases this
inductive DMatch (K : PySem.W.Frag) : List DictEntry → List (Str × D) → Prop
  | nil : DMatch K [] []
  | cons {e : DictEntry} {x : Str} {tok : Option Nat} {d : D} {v : V} {es : List DictEntry} {l : List (Str × D)} (hk : ∃ t, e.key = .str x t) (hv : RelV v e.val) (hr : ∀ ρ H, Rep K ρ H v d) (r : DMatch K es l) : DMatch K (e :: es) ((x, d) :: l)
theorem dmatch_find {K : PySem.W.Frag} {es : List DictEntry} {l : List (Str × D)} (m : DMatch K es l) (z : Str) : (es.any fun e => e.refKey) = false ∧
    match lookK l z with
    | none => es.find? (fun e => e.key.isStr z) = none
    | some d => ∃ (e : DictEntry) (v : V), es.find? (fun e => e.key.isStr z) = some e ∧ RelV v e.val ∧ ∀ ρ H, Rep K ρ H v d := by
  induction m with
  | nil => exact ⟨rfl, rfl⟩
  | cons hk hv hr r ih =>
    rename_i e x tok d v es l
    obtain ⟨t, hk⟩ := hk
    have e1 : e.refKey = false := by unfold DictEntry.refKey; rw [hk]
    have e2 : e.key.isStr z = (x == z) := by rw [hk]; rfl
    refine ⟨by simp [e1, ih.1], ?_⟩
    unfold lookK
    rw [List.lookup_cons]
    by_cases hz : z = x
    · subst hz
      simp only [beq_self_eq_true]
      exact ⟨e, v, by rw [List.find?_cons, e2]; simp, hv, hr⟩
    · have b1 : (z == x) = false := by simpa using hz
      have b2 : (x == z) = false := by simpa using fun h => hz h.symm
      simp only [b1]
      have := ih.2
      unfold lookK at this
      rw [List.find?_cons, e2, b2]
      exact this
theorem dict_here {K : PySem.W.Frag} {h : Heap} {w : World} {mg : Str → Option Value} {x : Str} {l : List (Str × D)} {a : Addr} {es : Array DictEntry} {ep : Nat}
    (X : K.In h) (Gm : h.Ns mainGlobals mg) (h1 : PySem.W.nsIn K mainGlobals x = some (some (.ref a))) (hl : List.lookup a K = some { cls := .type "dict", data := .dict es ep }) (lit : PySem.W.KeysLit w.params es.toList) (low : (a == sysModules) = false)
    (m : DMatch K es.toList l) : ∃ (a : Addr) (es : Array DictEntry) (n : Nat), mg x = some (.ref a) ∧ KDict K w a es n ∧
    ∀ z : Str, match lookK l z with
      | none => PySem.W.nsIn K a z = some none
      | some d => ∃ (u : Value) (v : V), PySem.W.nsIn K a z = some (some u) ∧ RelV v u ∧ ∀ ρ H, Rep K ρ H v d := by
  refine ⟨a, es, ep, PySem.W.mg_of X Gm h1, ⟨hl, lit, low⟩, fun z => ?_⟩
  have f := dmatch_find m z
  have e : PySem.W.nsIn K a z = (match es.toList.find? (fun x => x.key.isStr z) with
    | some e => some (some e.val)
    | none => if (es.toList.any fun x => x.refKey) = true then none else some none) := by
    unfold PySem.W.nsIn; rw [hl]; rfl
  cases c : lookK l z with
  | none =>
    rw [c] at f
    show PySem.W.nsIn K a z = some none
    rw [e, f.2, f.1]; rfl
  | some d =>
    rw [c] at f
    obtain ⟨g1, e', v, g2, g3, g4⟩ := f
    exact ⟨e'.val, v, by rw [e, g2], g3, g4⟩
theorem tup_here {K : PySem.W.Frag} {t : Addr} {oc : Value} {od : Option Addr} {its : Array Value} {n : Nat} {osl : Array (Option Value)} {xs : List V} {ds : List D} (l : List.lookup t K = some ⟨oc, od, .seq its n, osl⟩) (hc : oc = .type "tuple") (hs : its.size ≤ sizeLine) (hv : Vals xs its.toList)
    (hr : ∀ ρ H, Reps K ρ H xs ds) : ∀ ρ H, Rep K ρ H (.ref t) (.tup ds) := fun ρ H => .tup (.inr ⟨_, its, n, l, hc, rfl, hs, hv⟩) (hr ρ H)
/-- the law's own def -/
theorem law_fng {P : Program} {w : World} {K : PySem.W.Frag} {mg : Str → Option Value} {base : Heap} {q : Pr} {G : Gx} {n : Nat} (T : Stands K mg w q G n) {x qual : Str} {st : Stmt} {a : Addr} {fd : FuncData} {N ps : List Str} {f : Nat}
    (F : Fun K x qual st a fd) (S : FnScope N ps (defScope st)) (hq : q.fs f = some (ps.length, N.length, cSs n ⟨N, (defScope st).names, none, G⟩ (defBody st))) (W : Nat) : ∀ k : Nat, FnG P w K mg base k a fd ps (spR K ps.length (run q W k f)) := by
  intro k
  cases k with
  | zero => exact fng_zero (q := q) (W := W) (f := f)
  | succ k => exact fng_succ (W := W) F S hq (gmat_all (P := P) (base := base) T W k)
/-- a class with its first def -/
def ClsHere (K : PySem.W.Frag) (mg : Str → Option Value) (q : Pr) (G : Gx) (n : Nat) (e : Str × Nat × List Str × List Str) : Prop :=
  ∃ (C fa : Addr) (fd : FuncData) (qual : Str) (st : Stmt) (N : List Str), mg e.1 = some (.ref C) ∧ PySem.W.nsIn K mainGlobals e.1 = some (some (.ref C)) ∧ Mk K C fa ∧ Fun K "__init__" qual st fa fd ∧ FnScope N e.2.2.1 (defScope st) ∧ Binds K fd e.2.2.1 [] ∧
    q.fs e.2.1 = some (e.2.2.1.length, N.length, cSs n ⟨N, (defScope st).names, none, G⟩ (defBody st))
theorem cls_mk {K : PySem.W.Frag} {h : Heap} {mg : Str → Option Value} {q : Pr} {G : Gx} {n : Nat} {x qual : Str} {f : Nat} {ps N fl : List Str} {st : Stmt} {C a : Addr} {oc : Value} {od an : Option Addr} {osl : Array (Option Value)} {kV doc pm cdv ct : Value}
    (X : K.In h) (Gm : h.Ns mainGlobals mg) (h1 : PySem.W.nsIn K mainGlobals x = some (some (.ref C))) (M : Mk K C a)
    (l : List.lookup a K = some ⟨oc, od, .func (PySem.W.fnOf "__init__" qual (defArgs st) (defBody st) (defScope st) .none kV doc pm an cdv ct), osl⟩) (c : PySem.W.codeIn K cdv qual = true) (k : PySem.W.keepIn K (.ref a) = true)
    (S : FnScope N ps (defScope st))
    (b : ∀ (kV doc pm : Value) (an : Option Addr) (cdv ct : Value) (us : List Value), us.length = ps.length → bindArgs (PySem.W.fnOf "__init__" qual (defArgs st) (defBody st) (defScope st) .none kV doc pm an cdv ct) ⟨us, []⟩ = pure (ps.zip us))
    (hq : q.fs f = some (ps.length, N.length, cSs n ⟨N, (defScope st).names, none, G⟩ (defBody st))) : ClsHere K mg q G n (x, f, ps, fl) := by
  have F := fun_mk (st := st) l c k
  exact ⟨C, a, _, qual, st, N, PySem.W.mg_of X Gm h1, h1, M, F, S, F.binds b, hq⟩
end Tm

set_option Elab.async false
set_option linter.all false
set_option maxRecDepth 100000
set_option maxHeartbeats 8000000
namespace K71
open PySem L2 Tm
def top (i : Nat) : Stmt := PySem.Challenge.pw_touchroad_k71_programs_written_and_read.main.body.getD i (.Pass ⟨0, 0, 0, 0⟩)
def G : Gx := ⟨("spaced", 888, ["items"]) :: ("show_block", 889, ["statements"]) :: ("show_statement", 890, ["statement"]) :: ("show_statements", 891, ["statements"]) :: ("show_program", 892, ["program"]) :: ("is_integer", 15, ["value"]) :: ("is_between", 16, ["value", "low", "high"]) :: ("is_word", 17, ["value"]) :: ("is_one_of", 129, ["value", "texts"]) :: ("rebuilt", 40, ["value"]) :: ("is_numeral", 893, ["text", "most"]) :: ("is_part", 894, ["name", "kind", "value"]) :: ("is_plain_statement", 895, ["value"]) :: ("statements_in", 896, ["value", "level"]) :: ("statements_of", 897, ["value", "level"]) :: ("is_hand", 898, ["value"]) :: ("is_program_value", 899, ["value"]) :: ("next_word", 900, ["reader"]) :: ("taken_word", 901, ["reader"]) :: ("take_sign", 902, ["reader", "sign"]) :: ("taken_number", 903, ["reader", "digits"]) :: ("parsed_program", 904, ["text"]) :: ("parsed_hand", 905, ["text", "part"]) :: ("taken_statements", 906, ["reader", "depth"]) :: ("taken_statement", 907, ["reader", "depth"]) :: ("taken_block", 908, ["reader", "depth"]) :: ("check_text", 909, ["text"]) :: ("check_shown", 910, ["text", "shown"]) :: ("read_program", 911, ["text"]) :: ("_law_well", 912, ["script", "k"]) :: ("_law_dip", 913, ["well", "many"]) :: ("_law_of", 914, ["well", "things"]) :: ("_law_word", 915, ["well"]) :: ("_law_plain", 916, ["well"]) :: ("_law_any", 917, ["well", "level", "left"]) :: ("_law_some", 918, ["well", "level", "left"]) :: ("_law_deep", 919, ["well"]) :: ("_law_hand", 920, ["well"]) :: ("_law_program", 921, ["well"]) :: ("_law_inside", 922, ["statements"]) :: ("_law_line", 923, ["one"]) :: ("_law_text", 924, ["program"]) :: ("_law_measure", 925, ["statements"]) :: ("_law_may_pass", 926, ["program"]) :: ("_law_right", 927, ["program", "text", "named"]) :: ("law", 928, ["script"]) :: [],
  [("DIGITS", 2)],
  [("FORMS", 6), ("MODES", 7)],
  ["str", "len", "isinstance", "int", "bool", "list", "tuple", "all", "zip", "sum", "enumerate", "max", "abs", "range", "min", "repr"],
  [("read_program", 0, ["text"], [0]), ("show_program", 0, ["program"], [0])],
  [("Reader", 929, ["self", "text", "words"], ["text", "words", "at"])]⟩
abbrev s888 : Stmt := top 1
def n888 : List Str := ["items", "item"]
abbrev s889 : Stmt := top 2
def n889 : List Str := ["statements"]
abbrev s890 : Stmt := top 3
def n890 : List Str := ["statement"]
abbrev s891 : Stmt := top 4
def n891 : List Str := ["statements", "statement"]
abbrev s892 : Stmt := top 5
def n892 : List Str := ["program", "hand"]
abbrev s15 : Stmt := top 10
def n15 : List Str := ["value"]
abbrev s16 : Stmt := top 11
def n16 : List Str := ["value", "low", "high"]
abbrev s17 : Stmt := top 12
def n17 : List Str := ["value"]
abbrev s129 : Stmt := top 13
def n129 : List Str := ["value", "texts"]
abbrev s40 : Stmt := top 14
def n40 : List Str := ["value", "item"]
abbrev s893 : Stmt := top 17
def n893 : List Str := ["text", "most", "sign"]
abbrev s894 : Stmt := top 21
def n894 : List Str := ["name", "kind", "value"]
abbrev s895 : Stmt := top 22
def n895 : List Str := ["value", "kind", "part"]
abbrev s896 : Stmt := top 23
def n896 : List Str := ["value", "level"]
abbrev s897 : Stmt := top 24
def n897 : List Str := ["value", "level", "statement"]
abbrev s898 : Stmt := top 25
def n898 : List Str := ["value"]
abbrev s899 : Stmt := top 26
def n899 : List Str := ["value", "hand"]
abbrev s900 : Stmt := top 29
def n900 : List Str := ["reader"]
abbrev s901 : Stmt := top 30
def n901 : List Str := ["reader", "word"]
abbrev s902 : Stmt := top 31
def n902 : List Str := ["reader", "sign"]
abbrev s903 : Stmt := top 32
def n903 : List Str := ["reader", "digits", "word"]
abbrev s904 : Stmt := top 33
def n904 : List Str := ["text", "part"]
abbrev s905 : Stmt := top 34
def n905 : List Str := ["text", "part"]
abbrev s906 : Stmt := top 35
def n906 : List Str := ["reader", "depth", "statements"]
abbrev s907 : Stmt := top 36
def n907 : List Str := ["reader", "depth", "name", "parts", "kind"]
abbrev s908 : Stmt := top 37
def n908 : List Str := ["reader", "depth", "statements"]
abbrev s909 : Stmt := top 39
def n909 : List Str := ["text"]
abbrev s910 : Stmt := top 40
def n910 : List Str := ["text", "shown"]
abbrev s911 : Stmt := top 41
def n911 : List Str := ["text", "program"]
abbrev s912 : Stmt := top 43
def n912 : List Str := ["script", "k", "cell", "total", "at", "other"]
abbrev s913 : Stmt := top 44
def n913 : List Str := ["well", "many", "found", "mixed"]
abbrev s914 : Stmt := top 45
def n914 : List Str := ["well", "things"]
abbrev s915 : Stmt := top 46
def n915 : List Str := ["well"]
abbrev s916 : Stmt := top 47
def n916 : List Str := ["well", "names", "name", "v", "a", "b", "k", "way"]
abbrev s917 : Stmt := top 48
def n917 : List Str := ["well", "level", "left", "way", "one", "other"]
abbrev s918 : Stmt := top 49
def n918 : List Str := ["well", "level", "left", "found", "used", "turn", "more", "many"]
abbrev s919 : Stmt := top 50
def n919 : List Str := ["well", "found", "turn"]
abbrev s920 : Stmt := top 51
def n920 : List Str := ["well", "way", "turn"]
abbrev s921 : Stmt := top 52
def n921 : List Str := ["well", "turn"]
abbrev s922 : Stmt := top 53
def n922 : List Str := ["statements", "one"]
abbrev s923 : Stmt := top 54
def n923 : List Str := ["one", "part"]
abbrev s924 : Stmt := top 55
def n924 : List Str := ["program", "hand", "one"]
abbrev s925 : Stmt := top 56
def n925 : List Str := ["statements", "long", "many", "one", "more", "ways", "yes", "no", "body", "turn"]
abbrev s926 : Stmt := top 57
def n926 : List Str := ["program", "many", "hand", "long", "ways"]
abbrev s927 : Stmt := top 58
def n927 : List Str := ["program", "text", "named", "kept", "read", "shown"]
abbrev s928 : Stmt := top 59
def n928 : List Str := ["script", "kept", "k", "well", "program", "text", "named"]
abbrev s929 : Stmt := inCls (top 28) 0
def n929 : List Str := ["self", "text", "words"]
theorem bq888 : cSs 60 ⟨n888, (defScope s888).names, none, G⟩ (defBody s888) = b_888 := by rfl
theorem bq889 : cSs 60 ⟨n889, (defScope s889).names, none, G⟩ (defBody s889) = b_889 := by rfl
theorem bq890 : cSs 60 ⟨n890, (defScope s890).names, none, G⟩ (defBody s890) = b_890 := by rfl
theorem bq891 : cSs 60 ⟨n891, (defScope s891).names, none, G⟩ (defBody s891) = b_891 := by rfl
theorem bq892 : cSs 60 ⟨n892, (defScope s892).names, none, G⟩ (defBody s892) = b_892 := by rfl
theorem bq15 : cSs 60 ⟨n15, (defScope s15).names, none, G⟩ (defBody s15) = b_15 := by rfl
theorem bq16 : cSs 60 ⟨n16, (defScope s16).names, none, G⟩ (defBody s16) = b_16 := by rfl
theorem bq17 : cSs 60 ⟨n17, (defScope s17).names, none, G⟩ (defBody s17) = b_17 := by rfl
theorem bq129 : cSs 60 ⟨n129, (defScope s129).names, none, G⟩ (defBody s129) = b_129 := by rfl
theorem bq40 : cSs 60 ⟨n40, (defScope s40).names, none, G⟩ (defBody s40) = b_40 := by rfl
theorem bq893 : cSs 60 ⟨n893, (defScope s893).names, none, G⟩ (defBody s893) = b_893 := by rfl
theorem bq894 : cSs 60 ⟨n894, (defScope s894).names, none, G⟩ (defBody s894) = b_894 := by rfl
theorem bq895 : cSs 60 ⟨n895, (defScope s895).names, none, G⟩ (defBody s895) = b_895 := by rfl
theorem bq896 : cSs 60 ⟨n896, (defScope s896).names, none, G⟩ (defBody s896) = b_896 := by rfl
theorem bq897 : cSs 60 ⟨n897, (defScope s897).names, none, G⟩ (defBody s897) = b_897 := by rfl
theorem bq898 : cSs 60 ⟨n898, (defScope s898).names, none, G⟩ (defBody s898) = b_898 := by rfl
theorem bq899 : cSs 60 ⟨n899, (defScope s899).names, none, G⟩ (defBody s899) = b_899 := by rfl
theorem bq900 : cSs 60 ⟨n900, (defScope s900).names, none, G⟩ (defBody s900) = b_900 := by rfl
theorem bq901 : cSs 60 ⟨n901, (defScope s901).names, none, G⟩ (defBody s901) = b_901 := by rfl
theorem bq902 : cSs 60 ⟨n902, (defScope s902).names, none, G⟩ (defBody s902) = b_902 := by rfl
theorem bq903 : cSs 60 ⟨n903, (defScope s903).names, none, G⟩ (defBody s903) = b_903 := by rfl
theorem bq904 : cSs 60 ⟨n904, (defScope s904).names, none, G⟩ (defBody s904) = b_904 := by rfl
theorem bq905 : cSs 60 ⟨n905, (defScope s905).names, none, G⟩ (defBody s905) = b_905 := by rfl
theorem bq906 : cSs 60 ⟨n906, (defScope s906).names, none, G⟩ (defBody s906) = b_906 := by rfl
theorem bq907 : cSs 60 ⟨n907, (defScope s907).names, none, G⟩ (defBody s907) = b_907 := by rfl
theorem bq908 : cSs 60 ⟨n908, (defScope s908).names, none, G⟩ (defBody s908) = b_908 := by rfl
theorem bq909 : cSs 60 ⟨n909, (defScope s909).names, none, G⟩ (defBody s909) = b_909 := by rfl
theorem bq910 : cSs 60 ⟨n910, (defScope s910).names, none, G⟩ (defBody s910) = b_910 := by rfl
theorem bq911 : cSs 60 ⟨n911, (defScope s911).names, none, G⟩ (defBody s911) = b_911 := by rfl
theorem bq912 : cSs 60 ⟨n912, (defScope s912).names, none, G⟩ (defBody s912) = b_912 := by rfl
theorem bq913 : cSs 60 ⟨n913, (defScope s913).names, none, G⟩ (defBody s913) = b_913 := by rfl
theorem bq914 : cSs 60 ⟨n914, (defScope s914).names, none, G⟩ (defBody s914) = b_914 := by rfl
theorem bq915 : cSs 60 ⟨n915, (defScope s915).names, none, G⟩ (defBody s915) = b_915 := by rfl
theorem bq916 : cSs 60 ⟨n916, (defScope s916).names, none, G⟩ (defBody s916) = b_916 := by rfl
theorem bq917 : cSs 60 ⟨n917, (defScope s917).names, none, G⟩ (defBody s917) = b_917 := by rfl
theorem bq918 : cSs 60 ⟨n918, (defScope s918).names, none, G⟩ (defBody s918) = b_918 := by rfl
theorem bq919 : cSs 60 ⟨n919, (defScope s919).names, none, G⟩ (defBody s919) = b_919 := by rfl
theorem bq920 : cSs 60 ⟨n920, (defScope s920).names, none, G⟩ (defBody s920) = b_920 := by rfl
theorem bq921 : cSs 60 ⟨n921, (defScope s921).names, none, G⟩ (defBody s921) = b_921 := by rfl
theorem bq922 : cSs 60 ⟨n922, (defScope s922).names, none, G⟩ (defBody s922) = b_922 := by rfl
theorem bq923 : cSs 60 ⟨n923, (defScope s923).names, none, G⟩ (defBody s923) = b_923 := by rfl
theorem bq924 : cSs 60 ⟨n924, (defScope s924).names, none, G⟩ (defBody s924) = b_924 := by rfl
theorem bq925 : cSs 60 ⟨n925, (defScope s925).names, none, G⟩ (defBody s925) = b_925 := by rfl
theorem bq926 : cSs 60 ⟨n926, (defScope s926).names, none, G⟩ (defBody s926) = b_926 := by rfl
theorem bq927 : cSs 60 ⟨n927, (defScope s927).names, none, G⟩ (defBody s927) = b_927 := by rfl
theorem bq928 : cSs 60 ⟨n928, (defScope s928).names, none, G⟩ (defBody s928) = b_928 := by rfl
theorem bq929 : cSs 60 ⟨n929, (defScope s929).names, none, G⟩ (defBody s929) = b_929 := by rfl
end K71

set_option Elab.async false
set_option linter.all false
set_option maxRecDepth 100000
set_option maxHeartbeats 8000000
namespace K71
open PySem L2 Tm
theorem sc888 : FnScope n888 ["items"] (defScope s888) := ⟨rfl, rfl, rfl, by decide +kernel, rfl, by decide +kernel, by decide +kernel⟩
theorem here888 {K : PySem.W.Frag} {h : Heap} {mg : Str → Option Value} {a : Addr} {oc : Value} {od an : Option Addr} {osl : Array (Option Value)} {kV doc pm cdv ct : Value}
    (X : K.In h) (Gm : h.Ns mainGlobals mg) (h1 : PySem.W.nsIn K mainGlobals "spaced" = some (some (.ref a)))
    (l : List.lookup a K = some ⟨oc, od, .func (PySem.W.fnOf "spaced" "spaced" (defArgs s888) (defBody s888) (defScope s888) .none kV doc pm an cdv ct), osl⟩) (c : PySem.W.codeIn K cdv "spaced" = true) (k : PySem.W.keepIn K (.ref a) = true) : FnHere K mg prK71 G 60 ("spaced", 888, ["items"]) := by
  refine here_mk X Gm h1 l c k sc888 (fun _ _ _ _ _ _ us hl => match us, hl with | [_], _ => rfl) ?_ (by rw [bq888]; rfl)
  exact fun _ _ _ _ _ _ r hr e => no_kw (by decide +kernel) hr e
theorem sc889 : FnScope n889 ["statements"] (defScope s889) := ⟨rfl, rfl, rfl, by decide +kernel, rfl, by decide +kernel, by decide +kernel⟩
theorem here889 {K : PySem.W.Frag} {h : Heap} {mg : Str → Option Value} {a : Addr} {oc : Value} {od an : Option Addr} {osl : Array (Option Value)} {kV doc pm cdv ct : Value}
    (X : K.In h) (Gm : h.Ns mainGlobals mg) (h1 : PySem.W.nsIn K mainGlobals "show_block" = some (some (.ref a)))
    (l : List.lookup a K = some ⟨oc, od, .func (PySem.W.fnOf "show_block" "show_block" (defArgs s889) (defBody s889) (defScope s889) .none kV doc pm an cdv ct), osl⟩) (c : PySem.W.codeIn K cdv "show_block" = true) (k : PySem.W.keepIn K (.ref a) = true) : FnHere K mg prK71 G 60 ("show_block", 889, ["statements"]) := by
  refine here_mk X Gm h1 l c k sc889 (fun _ _ _ _ _ _ us hl => match us, hl with | [_], _ => rfl) ?_ (by rw [bq889]; rfl)
  exact fun _ _ _ _ _ _ r hr e => no_kw (by decide +kernel) hr e
theorem sc890 : FnScope n890 ["statement"] (defScope s890) := ⟨rfl, rfl, rfl, by decide +kernel, rfl, by decide +kernel, by decide +kernel⟩
theorem here890 {K : PySem.W.Frag} {h : Heap} {mg : Str → Option Value} {a : Addr} {oc : Value} {od an : Option Addr} {osl : Array (Option Value)} {kV doc pm cdv ct : Value}
    (X : K.In h) (Gm : h.Ns mainGlobals mg) (h1 : PySem.W.nsIn K mainGlobals "show_statement" = some (some (.ref a)))
    (l : List.lookup a K = some ⟨oc, od, .func (PySem.W.fnOf "show_statement" "show_statement" (defArgs s890) (defBody s890) (defScope s890) .none kV doc pm an cdv ct), osl⟩) (c : PySem.W.codeIn K cdv "show_statement" = true) (k : PySem.W.keepIn K (.ref a) = true) : FnHere K mg prK71 G 60 ("show_statement", 890, ["statement"]) := by
  refine here_mk X Gm h1 l c k sc890 (fun _ _ _ _ _ _ us hl => match us, hl with | [_], _ => rfl) ?_ (by rw [bq890]; rfl)
  exact fun _ _ _ _ _ _ r hr e => no_kw (by decide +kernel) hr e
theorem sc891 : FnScope n891 ["statements"] (defScope s891) := ⟨rfl, rfl, rfl, by decide +kernel, rfl, by decide +kernel, by decide +kernel⟩
theorem here891 {K : PySem.W.Frag} {h : Heap} {mg : Str → Option Value} {a : Addr} {oc : Value} {od an : Option Addr} {osl : Array (Option Value)} {kV doc pm cdv ct : Value}
    (X : K.In h) (Gm : h.Ns mainGlobals mg) (h1 : PySem.W.nsIn K mainGlobals "show_statements" = some (some (.ref a)))
    (l : List.lookup a K = some ⟨oc, od, .func (PySem.W.fnOf "show_statements" "show_statements" (defArgs s891) (defBody s891) (defScope s891) .none kV doc pm an cdv ct), osl⟩) (c : PySem.W.codeIn K cdv "show_statements" = true) (k : PySem.W.keepIn K (.ref a) = true) : FnHere K mg prK71 G 60 ("show_statements", 891, ["statements"]) := by
  refine here_mk X Gm h1 l c k sc891 (fun _ _ _ _ _ _ us hl => match us, hl with | [_], _ => rfl) ?_ (by rw [bq891]; rfl)
  exact fun _ _ _ _ _ _ r hr e => no_kw (by decide +kernel) hr e
theorem sc892 : FnScope n892 ["program"] (defScope s892) := ⟨rfl, rfl, rfl, by decide +kernel, rfl, by decide +kernel, by decide +kernel⟩
theorem here892 {K : PySem.W.Frag} {h : Heap} {mg : Str → Option Value} {a : Addr} {oc : Value} {od an : Option Addr} {osl : Array (Option Value)} {kV doc pm cdv ct : Value}
    (X : K.In h) (Gm : h.Ns mainGlobals mg) (h1 : PySem.W.nsIn K mainGlobals "show_program" = some (some (.ref a)))
    (l : List.lookup a K = some ⟨oc, od, .func (PySem.W.fnOf "show_program" "show_program" (defArgs s892) (defBody s892) (defScope s892) .none kV doc pm an cdv ct), osl⟩) (c : PySem.W.codeIn K cdv "show_program" = true) (k : PySem.W.keepIn K (.ref a) = true) : FnHere K mg prK71 G 60 ("show_program", 892, ["program"]) := by
  refine here_mk X Gm h1 l c k sc892 (fun _ _ _ _ _ _ us hl => match us, hl with | [_], _ => rfl) ?_ (by rw [bq892]; rfl)
  exact by
    intro _ _ _ _ _ _ r hr e us ws h1 h2
    simp only [G, List.mem_cons, List.not_mem_nil, or_false] at hr
    rcases hr with rfl | rfl
    · exact absurd e (by decide +kernel)
    · match us, ws, h1, h2 with | [], [_], _, _ => rfl

theorem sc15 : FnScope n15 ["value"] (defScope s15) := ⟨rfl, rfl, rfl, by decide +kernel, rfl, by decide +kernel, by decide +kernel⟩
theorem here15 {K : PySem.W.Frag} {h : Heap} {mg : Str → Option Value} {a : Addr} {oc : Value} {od an : Option Addr} {osl : Array (Option Value)} {kV doc pm cdv ct : Value}
    (X : K.In h) (Gm : h.Ns mainGlobals mg) (h1 : PySem.W.nsIn K mainGlobals "is_integer" = some (some (.ref a)))
    (l : List.lookup a K = some ⟨oc, od, .func (PySem.W.fnOf "is_integer" "is_integer" (defArgs s15) (defBody s15) (defScope s15) .none kV doc pm an cdv ct), osl⟩) (c : PySem.W.codeIn K cdv "is_integer" = true) (k : PySem.W.keepIn K (.ref a) = true) : FnHere K mg prK71 G 60 ("is_integer", 15, ["value"]) := by
  refine here_mk X Gm h1 l c k sc15 (fun _ _ _ _ _ _ us hl => match us, hl with | [_], _ => rfl) ?_ (by rw [bq15]; rfl)
  exact fun _ _ _ _ _ _ r hr e => no_kw (by decide +kernel) hr e
theorem sc16 : FnScope n16 ["value", "low", "high"] (defScope s16) := ⟨rfl, rfl, rfl, by decide +kernel, rfl, by decide +kernel, by decide +kernel⟩
theorem here16 {K : PySem.W.Frag} {h : Heap} {mg : Str → Option Value} {a : Addr} {oc : Value} {od an : Option Addr} {osl : Array (Option Value)} {kV doc pm cdv ct : Value}
    (X : K.In h) (Gm : h.Ns mainGlobals mg) (h1 : PySem.W.nsIn K mainGlobals "is_between" = some (some (.ref a)))
    (l : List.lookup a K = some ⟨oc, od, .func (PySem.W.fnOf "is_between" "is_between" (defArgs s16) (defBody s16) (defScope s16) .none kV doc pm an cdv ct), osl⟩) (c : PySem.W.codeIn K cdv "is_between" = true) (k : PySem.W.keepIn K (.ref a) = true) : FnHere K mg prK71 G 60 ("is_between", 16, ["value", "low", "high"]) := by
  refine here_mk X Gm h1 l c k sc16 (fun _ _ _ _ _ _ us hl => match us, hl with | [_, _, _], _ => rfl) ?_ (by rw [bq16]; rfl)
  exact fun _ _ _ _ _ _ r hr e => no_kw (by decide +kernel) hr e
theorem sc17 : FnScope n17 ["value"] (defScope s17) := ⟨rfl, rfl, rfl, by decide +kernel, rfl, by decide +kernel, by decide +kernel⟩
theorem here17 {K : PySem.W.Frag} {h : Heap} {mg : Str → Option Value} {a : Addr} {oc : Value} {od an : Option Addr} {osl : Array (Option Value)} {kV doc pm cdv ct : Value}
    (X : K.In h) (Gm : h.Ns mainGlobals mg) (h1 : PySem.W.nsIn K mainGlobals "is_word" = some (some (.ref a)))
    (l : List.lookup a K = some ⟨oc, od, .func (PySem.W.fnOf "is_word" "is_word" (defArgs s17) (defBody s17) (defScope s17) .none kV doc pm an cdv ct), osl⟩) (c : PySem.W.codeIn K cdv "is_word" = true) (k : PySem.W.keepIn K (.ref a) = true) : FnHere K mg prK71 G 60 ("is_word", 17, ["value"]) := by
  refine here_mk X Gm h1 l c k sc17 (fun _ _ _ _ _ _ us hl => match us, hl with | [_], _ => rfl) ?_ (by rw [bq17]; rfl)
  exact fun _ _ _ _ _ _ r hr e => no_kw (by decide +kernel) hr e
theorem sc129 : FnScope n129 ["value", "texts"] (defScope s129) := ⟨rfl, rfl, rfl, by decide +kernel, rfl, by decide +kernel, by decide +kernel⟩
theorem here129 {K : PySem.W.Frag} {h : Heap} {mg : Str → Option Value} {a : Addr} {oc : Value} {od an : Option Addr} {osl : Array (Option Value)} {kV doc pm cdv ct : Value}
    (X : K.In h) (Gm : h.Ns mainGlobals mg) (h1 : PySem.W.nsIn K mainGlobals "is_one_of" = some (some (.ref a)))
    (l : List.lookup a K = some ⟨oc, od, .func (PySem.W.fnOf "is_one_of" "is_one_of" (defArgs s129) (defBody s129) (defScope s129) .none kV doc pm an cdv ct), osl⟩) (c : PySem.W.codeIn K cdv "is_one_of" = true) (k : PySem.W.keepIn K (.ref a) = true) : FnHere K mg prK71 G 60 ("is_one_of", 129, ["value", "texts"]) := by
  refine here_mk X Gm h1 l c k sc129 (fun _ _ _ _ _ _ us hl => match us, hl with | [_, _], _ => rfl) ?_ (by rw [bq129]; rfl)
  exact fun _ _ _ _ _ _ r hr e => no_kw (by decide +kernel) hr e
theorem sc40 : FnScope n40 ["value"] (defScope s40) := ⟨rfl, rfl, rfl, by decide +kernel, rfl, by decide +kernel, by decide +kernel⟩
theorem here40 {K : PySem.W.Frag} {h : Heap} {mg : Str → Option Value} {a : Addr} {oc : Value} {od an : Option Addr} {osl : Array (Option Value)} {kV doc pm cdv ct : Value}
    (X : K.In h) (Gm : h.Ns mainGlobals mg) (h1 : PySem.W.nsIn K mainGlobals "rebuilt" = some (some (.ref a)))
    (l : List.lookup a K = some ⟨oc, od, .func (PySem.W.fnOf "rebuilt" "rebuilt" (defArgs s40) (defBody s40) (defScope s40) .none kV doc pm an cdv ct), osl⟩) (c : PySem.W.codeIn K cdv "rebuilt" = true) (k : PySem.W.keepIn K (.ref a) = true) : FnHere K mg prK71 G 60 ("rebuilt", 40, ["value"]) := by
  refine here_mk X Gm h1 l c k sc40 (fun _ _ _ _ _ _ us hl => match us, hl with | [_], _ => rfl) ?_ (by rw [bq40]; rfl)
  exact fun _ _ _ _ _ _ r hr e => no_kw (by decide +kernel) hr e
theorem sc893 : FnScope n893 ["text", "most"] (defScope s893) := ⟨rfl, rfl, rfl, by decide +kernel, rfl, by decide +kernel, by decide +kernel⟩
theorem here893 {K : PySem.W.Frag} {h : Heap} {mg : Str → Option Value} {a : Addr} {oc : Value} {od an : Option Addr} {osl : Array (Option Value)} {kV doc pm cdv ct : Value}
    (X : K.In h) (Gm : h.Ns mainGlobals mg) (h1 : PySem.W.nsIn K mainGlobals "is_numeral" = some (some (.ref a)))
    (l : List.lookup a K = some ⟨oc, od, .func (PySem.W.fnOf "is_numeral" "is_numeral" (defArgs s893) (defBody s893) (defScope s893) .none kV doc pm an cdv ct), osl⟩) (c : PySem.W.codeIn K cdv "is_numeral" = true) (k : PySem.W.keepIn K (.ref a) = true) : FnHere K mg prK71 G 60 ("is_numeral", 893, ["text", "most"]) := by
  refine here_mk X Gm h1 l c k sc893 (fun _ _ _ _ _ _ us hl => match us, hl with | [_, _], _ => rfl) ?_ (by rw [bq893]; rfl)
  exact fun _ _ _ _ _ _ r hr e => no_kw (by decide +kernel) hr e
theorem sc894 : FnScope n894 ["name", "kind", "value"] (defScope s894) := ⟨rfl, rfl, rfl, by decide +kernel, rfl, by decide +kernel, by decide +kernel⟩
theorem here894 {K : PySem.W.Frag} {h : Heap} {mg : Str → Option Value} {a : Addr} {oc : Value} {od an : Option Addr} {osl : Array (Option Value)} {kV doc pm cdv ct : Value}
    (X : K.In h) (Gm : h.Ns mainGlobals mg) (h1 : PySem.W.nsIn K mainGlobals "is_part" = some (some (.ref a)))
    (l : List.lookup a K = some ⟨oc, od, .func (PySem.W.fnOf "is_part" "is_part" (defArgs s894) (defBody s894) (defScope s894) .none kV doc pm an cdv ct), osl⟩) (c : PySem.W.codeIn K cdv "is_part" = true) (k : PySem.W.keepIn K (.ref a) = true) : FnHere K mg prK71 G 60 ("is_part", 894, ["name", "kind", "value"]) := by
  refine here_mk X Gm h1 l c k sc894 (fun _ _ _ _ _ _ us hl => match us, hl with | [_, _, _], _ => rfl) ?_ (by rw [bq894]; rfl)
  exact fun _ _ _ _ _ _ r hr e => no_kw (by decide +kernel) hr e
theorem sc895 : FnScope n895 ["value"] (defScope s895) := ⟨rfl, rfl, rfl, by decide +kernel, rfl, by decide +kernel, by decide +kernel⟩
theorem here895 {K : PySem.W.Frag} {h : Heap} {mg : Str → Option Value} {a : Addr} {oc : Value} {od an : Option Addr} {osl : Array (Option Value)} {kV doc pm cdv ct : Value}
    (X : K.In h) (Gm : h.Ns mainGlobals mg) (h1 : PySem.W.nsIn K mainGlobals "is_plain_statement" = some (some (.ref a)))
    (l : List.lookup a K = some ⟨oc, od, .func (PySem.W.fnOf "is_plain_statement" "is_plain_statement" (defArgs s895) (defBody s895) (defScope s895) .none kV doc pm an cdv ct), osl⟩) (c : PySem.W.codeIn K cdv "is_plain_statement" = true) (k : PySem.W.keepIn K (.ref a) = true) : FnHere K mg prK71 G 60 ("is_plain_statement", 895, ["value"]) := by
  refine here_mk X Gm h1 l c k sc895 (fun _ _ _ _ _ _ us hl => match us, hl with | [_], _ => rfl) ?_ (by rw [bq895]; rfl)
  exact fun _ _ _ _ _ _ r hr e => no_kw (by decide +kernel) hr e
theorem sc896 : FnScope n896 ["value", "level"] (defScope s896) := ⟨rfl, rfl, rfl, by decide +kernel, rfl, by decide +kernel, by decide +kernel⟩
theorem here896 {K : PySem.W.Frag} {h : Heap} {mg : Str → Option Value} {a : Addr} {oc : Value} {od an : Option Addr} {osl : Array (Option Value)} {kV doc pm cdv ct : Value}
    (X : K.In h) (Gm : h.Ns mainGlobals mg) (h1 : PySem.W.nsIn K mainGlobals "statements_in" = some (some (.ref a)))
    (l : List.lookup a K = some ⟨oc, od, .func (PySem.W.fnOf "statements_in" "statements_in" (defArgs s896) (defBody s896) (defScope s896) .none kV doc pm an cdv ct), osl⟩) (c : PySem.W.codeIn K cdv "statements_in" = true) (k : PySem.W.keepIn K (.ref a) = true) : FnHere K mg prK71 G 60 ("statements_in", 896, ["value", "level"]) := by
  refine here_mk X Gm h1 l c k sc896 (fun _ _ _ _ _ _ us hl => match us, hl with | [_, _], _ => rfl) ?_ (by rw [bq896]; rfl)
  exact fun _ _ _ _ _ _ r hr e => no_kw (by decide +kernel) hr e
theorem sc897 : FnScope n897 ["value", "level"] (defScope s897) := ⟨rfl, rfl, rfl, by decide +kernel, rfl, by decide +kernel, by decide +kernel⟩
theorem here897 {K : PySem.W.Frag} {h : Heap} {mg : Str → Option Value} {a : Addr} {oc : Value} {od an : Option Addr} {osl : Array (Option Value)} {kV doc pm cdv ct : Value}
    (X : K.In h) (Gm : h.Ns mainGlobals mg) (h1 : PySem.W.nsIn K mainGlobals "statements_of" = some (some (.ref a)))
    (l : List.lookup a K = some ⟨oc, od, .func (PySem.W.fnOf "statements_of" "statements_of" (defArgs s897) (defBody s897) (defScope s897) .none kV doc pm an cdv ct), osl⟩) (c : PySem.W.codeIn K cdv "statements_of" = true) (k : PySem.W.keepIn K (.ref a) = true) : FnHere K mg prK71 G 60 ("statements_of", 897, ["value", "level"]) := by
  refine here_mk X Gm h1 l c k sc897 (fun _ _ _ _ _ _ us hl => match us, hl with | [_, _], _ => rfl) ?_ (by rw [bq897]; rfl)
  exact fun _ _ _ _ _ _ r hr e => no_kw (by decide +kernel) hr e
theorem sc898 : FnScope n898 ["value"] (defScope s898) := ⟨rfl, rfl, rfl, by decide +kernel, rfl, by decide +kernel, by decide +kernel⟩
theorem here898 {K : PySem.W.Frag} {h : Heap} {mg : Str → Option Value} {a : Addr} {oc : Value} {od an : Option Addr} {osl : Array (Option Value)} {kV doc pm cdv ct : Value}
    (X : K.In h) (Gm : h.Ns mainGlobals mg) (h1 : PySem.W.nsIn K mainGlobals "is_hand" = some (some (.ref a)))
    (l : List.lookup a K = some ⟨oc, od, .func (PySem.W.fnOf "is_hand" "is_hand" (defArgs s898) (defBody s898) (defScope s898) .none kV doc pm an cdv ct), osl⟩) (c : PySem.W.codeIn K cdv "is_hand" = true) (k : PySem.W.keepIn K (.ref a) = true) : FnHere K mg prK71 G 60 ("is_hand", 898, ["value"]) := by
  refine here_mk X Gm h1 l c k sc898 (fun _ _ _ _ _ _ us hl => match us, hl with | [_], _ => rfl) ?_ (by rw [bq898]; rfl)
  exact fun _ _ _ _ _ _ r hr e => no_kw (by decide +kernel) hr e
theorem sc899 : FnScope n899 ["value"] (defScope s899) := ⟨rfl, rfl, rfl, by decide +kernel, rfl, by decide +kernel, by decide +kernel⟩
theorem here899 {K : PySem.W.Frag} {h : Heap} {mg : Str → Option Value} {a : Addr} {oc : Value} {od an : Option Addr} {osl : Array (Option Value)} {kV doc pm cdv ct : Value}
    (X : K.In h) (Gm : h.Ns mainGlobals mg) (h1 : PySem.W.nsIn K mainGlobals "is_program_value" = some (some (.ref a)))
    (l : List.lookup a K = some ⟨oc, od, .func (PySem.W.fnOf "is_program_value" "is_program_value" (defArgs s899) (defBody s899) (defScope s899) .none kV doc pm an cdv ct), osl⟩) (c : PySem.W.codeIn K cdv "is_program_value" = true) (k : PySem.W.keepIn K (.ref a) = true) : FnHere K mg prK71 G 60 ("is_program_value", 899, ["value"]) := by
  refine here_mk X Gm h1 l c k sc899 (fun _ _ _ _ _ _ us hl => match us, hl with | [_], _ => rfl) ?_ (by rw [bq899]; rfl)
  exact fun _ _ _ _ _ _ r hr e => no_kw (by decide +kernel) hr e
theorem sc900 : FnScope n900 ["reader"] (defScope s900) := ⟨rfl, rfl, rfl, by decide +kernel, rfl, by decide +kernel, by decide +kernel⟩
theorem here900 {K : PySem.W.Frag} {h : Heap} {mg : Str → Option Value} {a : Addr} {oc : Value} {od an : Option Addr} {osl : Array (Option Value)} {kV doc pm cdv ct : Value}
    (X : K.In h) (Gm : h.Ns mainGlobals mg) (h1 : PySem.W.nsIn K mainGlobals "next_word" = some (some (.ref a)))
    (l : List.lookup a K = some ⟨oc, od, .func (PySem.W.fnOf "next_word" "next_word" (defArgs s900) (defBody s900) (defScope s900) .none kV doc pm an cdv ct), osl⟩) (c : PySem.W.codeIn K cdv "next_word" = true) (k : PySem.W.keepIn K (.ref a) = true) : FnHere K mg prK71 G 60 ("next_word", 900, ["reader"]) := by
  refine here_mk X Gm h1 l c k sc900 (fun _ _ _ _ _ _ us hl => match us, hl with | [_], _ => rfl) ?_ (by rw [bq900]; rfl)
  exact fun _ _ _ _ _ _ r hr e => no_kw (by decide +kernel) hr e
theorem sc901 : FnScope n901 ["reader"] (defScope s901) := ⟨rfl, rfl, rfl, by decide +kernel, rfl, by decide +kernel, by decide +kernel⟩
theorem here901 {K : PySem.W.Frag} {h : Heap} {mg : Str → Option Value} {a : Addr} {oc : Value} {od an : Option Addr} {osl : Array (Option Value)} {kV doc pm cdv ct : Value}
    (X : K.In h) (Gm : h.Ns mainGlobals mg) (h1 : PySem.W.nsIn K mainGlobals "taken_word" = some (some (.ref a)))
    (l : List.lookup a K = some ⟨oc, od, .func (PySem.W.fnOf "taken_word" "taken_word" (defArgs s901) (defBody s901) (defScope s901) .none kV doc pm an cdv ct), osl⟩) (c : PySem.W.codeIn K cdv "taken_word" = true) (k : PySem.W.keepIn K (.ref a) = true) : FnHere K mg prK71 G 60 ("taken_word", 901, ["reader"]) := by
  refine here_mk X Gm h1 l c k sc901 (fun _ _ _ _ _ _ us hl => match us, hl with | [_], _ => rfl) ?_ (by rw [bq901]; rfl)
  exact fun _ _ _ _ _ _ r hr e => no_kw (by decide +kernel) hr e
theorem sc902 : FnScope n902 ["reader", "sign"] (defScope s902) := ⟨rfl, rfl, rfl, by decide +kernel, rfl, by decide +kernel, by decide +kernel⟩
theorem here902 {K : PySem.W.Frag} {h : Heap} {mg : Str → Option Value} {a : Addr} {oc : Value} {od an : Option Addr} {osl : Array (Option Value)} {kV doc pm cdv ct : Value}
    (X : K.In h) (Gm : h.Ns mainGlobals mg) (h1 : PySem.W.nsIn K mainGlobals "take_sign" = some (some (.ref a)))
    (l : List.lookup a K = some ⟨oc, od, .func (PySem.W.fnOf "take_sign" "take_sign" (defArgs s902) (defBody s902) (defScope s902) .none kV doc pm an cdv ct), osl⟩) (c : PySem.W.codeIn K cdv "take_sign" = true) (k : PySem.W.keepIn K (.ref a) = true) : FnHere K mg prK71 G 60 ("take_sign", 902, ["reader", "sign"]) := by
  refine here_mk X Gm h1 l c k sc902 (fun _ _ _ _ _ _ us hl => match us, hl with | [_, _], _ => rfl) ?_ (by rw [bq902]; rfl)
  exact fun _ _ _ _ _ _ r hr e => no_kw (by decide +kernel) hr e
theorem sc903 : FnScope n903 ["reader", "digits"] (defScope s903) := ⟨rfl, rfl, rfl, by decide +kernel, rfl, by decide +kernel, by decide +kernel⟩
theorem here903 {K : PySem.W.Frag} {h : Heap} {mg : Str → Option Value} {a : Addr} {oc : Value} {od an : Option Addr} {osl : Array (Option Value)} {kV doc pm cdv ct : Value}
    (X : K.In h) (Gm : h.Ns mainGlobals mg) (h1 : PySem.W.nsIn K mainGlobals "taken_number" = some (some (.ref a)))
    (l : List.lookup a K = some ⟨oc, od, .func (PySem.W.fnOf "taken_number" "taken_number" (defArgs s903) (defBody s903) (defScope s903) .none kV doc pm an cdv ct), osl⟩) (c : PySem.W.codeIn K cdv "taken_number" = true) (k : PySem.W.keepIn K (.ref a) = true) : FnHere K mg prK71 G 60 ("taken_number", 903, ["reader", "digits"]) := by
  refine here_mk X Gm h1 l c k sc903 (fun _ _ _ _ _ _ us hl => match us, hl with | [_, _], _ => rfl) ?_ (by rw [bq903]; rfl)
  exact fun _ _ _ _ _ _ r hr e => no_kw (by decide +kernel) hr e
theorem sc904 : FnScope n904 ["text"] (defScope s904) := ⟨rfl, rfl, rfl, by decide +kernel, rfl, by decide +kernel, by decide +kernel⟩
theorem here904 {K : PySem.W.Frag} {h : Heap} {mg : Str → Option Value} {a : Addr} {oc : Value} {od an : Option Addr} {osl : Array (Option Value)} {kV doc pm cdv ct : Value}
    (X : K.In h) (Gm : h.Ns mainGlobals mg) (h1 : PySem.W.nsIn K mainGlobals "parsed_program" = some (some (.ref a)))
    (l : List.lookup a K = some ⟨oc, od, .func (PySem.W.fnOf "parsed_program" "parsed_program" (defArgs s904) (defBody s904) (defScope s904) .none kV doc pm an cdv ct), osl⟩) (c : PySem.W.codeIn K cdv "parsed_program" = true) (k : PySem.W.keepIn K (.ref a) = true) : FnHere K mg prK71 G 60 ("parsed_program", 904, ["text"]) := by
  refine here_mk X Gm h1 l c k sc904 (fun _ _ _ _ _ _ us hl => match us, hl with | [_], _ => rfl) ?_ (by rw [bq904]; rfl)
  exact fun _ _ _ _ _ _ r hr e => no_kw (by decide +kernel) hr e
theorem sc905 : FnScope n905 ["text", "part"] (defScope s905) := ⟨rfl, rfl, rfl, by decide +kernel, rfl, by decide +kernel, by decide +kernel⟩
theorem here905 {K : PySem.W.Frag} {h : Heap} {mg : Str → Option Value} {a : Addr} {oc : Value} {od an : Option Addr} {osl : Array (Option Value)} {kV doc pm cdv ct : Value}
    (X : K.In h) (Gm : h.Ns mainGlobals mg) (h1 : PySem.W.nsIn K mainGlobals "parsed_hand" = some (some (.ref a)))
    (l : List.lookup a K = some ⟨oc, od, .func (PySem.W.fnOf "parsed_hand" "parsed_hand" (defArgs s905) (defBody s905) (defScope s905) .none kV doc pm an cdv ct), osl⟩) (c : PySem.W.codeIn K cdv "parsed_hand" = true) (k : PySem.W.keepIn K (.ref a) = true) : FnHere K mg prK71 G 60 ("parsed_hand", 905, ["text", "part"]) := by
  refine here_mk X Gm h1 l c k sc905 (fun _ _ _ _ _ _ us hl => match us, hl with | [_, _], _ => rfl) ?_ (by rw [bq905]; rfl)
  exact fun _ _ _ _ _ _ r hr e => no_kw (by decide +kernel) hr e
theorem sc906 : FnScope n906 ["reader", "depth"] (defScope s906) := ⟨rfl, rfl, rfl, by decide +kernel, rfl, by decide +kernel, by decide +kernel⟩
theorem here906 {K : PySem.W.Frag} {h : Heap} {mg : Str → Option Value} {a : Addr} {oc : Value} {od an : Option Addr} {osl : Array (Option Value)} {kV doc pm cdv ct : Value}
    (X : K.In h) (Gm : h.Ns mainGlobals mg) (h1 : PySem.W.nsIn K mainGlobals "taken_statements" = some (some (.ref a)))
    (l : List.lookup a K = some ⟨oc, od, .func (PySem.W.fnOf "taken_statements" "taken_statements" (defArgs s906) (defBody s906) (defScope s906) .none kV doc pm an cdv ct), osl⟩) (c : PySem.W.codeIn K cdv "taken_statements" = true) (k : PySem.W.keepIn K (.ref a) = true) : FnHere K mg prK71 G 60 ("taken_statements", 906, ["reader", "depth"]) := by
  refine here_mk X Gm h1 l c k sc906 (fun _ _ _ _ _ _ us hl => match us, hl with | [_, _], _ => rfl) ?_ (by rw [bq906]; rfl)
  exact fun _ _ _ _ _ _ r hr e => no_kw (by decide +kernel) hr e
theorem sc907 : FnScope n907 ["reader", "depth"] (defScope s907) := ⟨rfl, rfl, rfl, by decide +kernel, rfl, by decide +kernel, by decide +kernel⟩
theorem here907 {K : PySem.W.Frag} {h : Heap} {mg : Str → Option Value} {a : Addr} {oc : Value} {od an : Option Addr} {osl : Array (Option Value)} {kV doc pm cdv ct : Value}
    (X : K.In h) (Gm : h.Ns mainGlobals mg) (h1 : PySem.W.nsIn K mainGlobals "taken_statement" = some (some (.ref a)))
    (l : List.lookup a K = some ⟨oc, od, .func (PySem.W.fnOf "taken_statement" "taken_statement" (defArgs s907) (defBody s907) (defScope s907) .none kV doc pm an cdv ct), osl⟩) (c : PySem.W.codeIn K cdv "taken_statement" = true) (k : PySem.W.keepIn K (.ref a) = true) : FnHere K mg prK71 G 60 ("taken_statement", 907, ["reader", "depth"]) := by
  refine here_mk X Gm h1 l c k sc907 (fun _ _ _ _ _ _ us hl => match us, hl with | [_, _], _ => rfl) ?_ (by rw [bq907]; rfl)
  exact fun _ _ _ _ _ _ r hr e => no_kw (by decide +kernel) hr e
theorem sc908 : FnScope n908 ["reader", "depth"] (defScope s908) := ⟨rfl, rfl, rfl, by decide +kernel, rfl, by decide +kernel, by decide +kernel⟩
theorem here908 {K : PySem.W.Frag} {h : Heap} {mg : Str → Option Value} {a : Addr} {oc : Value} {od an : Option Addr} {osl : Array (Option Value)} {kV doc pm cdv ct : Value}
    (X : K.In h) (Gm : h.Ns mainGlobals mg) (h1 : PySem.W.nsIn K mainGlobals "taken_block" = some (some (.ref a)))
    (l : List.lookup a K = some ⟨oc, od, .func (PySem.W.fnOf "taken_block" "taken_block" (defArgs s908) (defBody s908) (defScope s908) .none kV doc pm an cdv ct), osl⟩) (c : PySem.W.codeIn K cdv "taken_block" = true) (k : PySem.W.keepIn K (.ref a) = true) : FnHere K mg prK71 G 60 ("taken_block", 908, ["reader", "depth"]) := by
  refine here_mk X Gm h1 l c k sc908 (fun _ _ _ _ _ _ us hl => match us, hl with | [_, _], _ => rfl) ?_ (by rw [bq908]; rfl)
  exact fun _ _ _ _ _ _ r hr e => no_kw (by decide +kernel) hr e
theorem sc909 : FnScope n909 ["text"] (defScope s909) := ⟨rfl, rfl, rfl, by decide +kernel, rfl, by decide +kernel, by decide +kernel⟩
theorem here909 {K : PySem.W.Frag} {h : Heap} {mg : Str → Option Value} {a : Addr} {oc : Value} {od an : Option Addr} {osl : Array (Option Value)} {kV doc pm cdv ct : Value}
    (X : K.In h) (Gm : h.Ns mainGlobals mg) (h1 : PySem.W.nsIn K mainGlobals "check_text" = some (some (.ref a)))
    (l : List.lookup a K = some ⟨oc, od, .func (PySem.W.fnOf "check_text" "check_text" (defArgs s909) (defBody s909) (defScope s909) .none kV doc pm an cdv ct), osl⟩) (c : PySem.W.codeIn K cdv "check_text" = true) (k : PySem.W.keepIn K (.ref a) = true) : FnHere K mg prK71 G 60 ("check_text", 909, ["text"]) := by
  refine here_mk X Gm h1 l c k sc909 (fun _ _ _ _ _ _ us hl => match us, hl with | [_], _ => rfl) ?_ (by rw [bq909]; rfl)
  exact fun _ _ _ _ _ _ r hr e => no_kw (by decide +kernel) hr e
theorem sc910 : FnScope n910 ["text", "shown"] (defScope s910) := ⟨rfl, rfl, rfl, by decide +kernel, rfl, by decide +kernel, by decide +kernel⟩
theorem here910 {K : PySem.W.Frag} {h : Heap} {mg : Str → Option Value} {a : Addr} {oc : Value} {od an : Option Addr} {osl : Array (Option Value)} {kV doc pm cdv ct : Value}
    (X : K.In h) (Gm : h.Ns mainGlobals mg) (h1 : PySem.W.nsIn K mainGlobals "check_shown" = some (some (.ref a)))
    (l : List.lookup a K = some ⟨oc, od, .func (PySem.W.fnOf "check_shown" "check_shown" (defArgs s910) (defBody s910) (defScope s910) .none kV doc pm an cdv ct), osl⟩) (c : PySem.W.codeIn K cdv "check_shown" = true) (k : PySem.W.keepIn K (.ref a) = true) : FnHere K mg prK71 G 60 ("check_shown", 910, ["text", "shown"]) := by
  refine here_mk X Gm h1 l c k sc910 (fun _ _ _ _ _ _ us hl => match us, hl with | [_, _], _ => rfl) ?_ (by rw [bq910]; rfl)
  exact fun _ _ _ _ _ _ r hr e => no_kw (by decide +kernel) hr e
theorem sc911 : FnScope n911 ["text"] (defScope s911) := ⟨rfl, rfl, rfl, by decide +kernel, rfl, by decide +kernel, by decide +kernel⟩
theorem here911 {K : PySem.W.Frag} {h : Heap} {mg : Str → Option Value} {a : Addr} {oc : Value} {od an : Option Addr} {osl : Array (Option Value)} {kV doc pm cdv ct : Value}
    (X : K.In h) (Gm : h.Ns mainGlobals mg) (h1 : PySem.W.nsIn K mainGlobals "read_program" = some (some (.ref a)))
    (l : List.lookup a K = some ⟨oc, od, .func (PySem.W.fnOf "read_program" "read_program" (defArgs s911) (defBody s911) (defScope s911) .none kV doc pm an cdv ct), osl⟩) (c : PySem.W.codeIn K cdv "read_program" = true) (k : PySem.W.keepIn K (.ref a) = true) : FnHere K mg prK71 G 60 ("read_program", 911, ["text"]) := by
  refine here_mk X Gm h1 l c k sc911 (fun _ _ _ _ _ _ us hl => match us, hl with | [_], _ => rfl) ?_ (by rw [bq911]; rfl)
  exact by
    intro _ _ _ _ _ _ r hr e us ws h1 h2
    simp only [G, List.mem_cons, List.not_mem_nil, or_false] at hr
    rcases hr with rfl | rfl
    · match us, ws, h1, h2 with | [], [_], _, _ => rfl
    · exact absurd e (by decide +kernel)

theorem sc912 : FnScope n912 ["script", "k"] (defScope s912) := ⟨rfl, rfl, rfl, by decide +kernel, rfl, by decide +kernel, by decide +kernel⟩
theorem here912 {K : PySem.W.Frag} {h : Heap} {mg : Str → Option Value} {a : Addr} {oc : Value} {od an : Option Addr} {osl : Array (Option Value)} {kV doc pm cdv ct : Value}
    (X : K.In h) (Gm : h.Ns mainGlobals mg) (h1 : PySem.W.nsIn K mainGlobals "_law_well" = some (some (.ref a)))
    (l : List.lookup a K = some ⟨oc, od, .func (PySem.W.fnOf "_law_well" "_law_well" (defArgs s912) (defBody s912) (defScope s912) .none kV doc pm an cdv ct), osl⟩) (c : PySem.W.codeIn K cdv "_law_well" = true) (k : PySem.W.keepIn K (.ref a) = true) : FnHere K mg prK71 G 60 ("_law_well", 912, ["script", "k"]) := by
  refine here_mk X Gm h1 l c k sc912 (fun _ _ _ _ _ _ us hl => match us, hl with | [_, _], _ => rfl) ?_ (by rw [bq912]; rfl)
  exact fun _ _ _ _ _ _ r hr e => no_kw (by decide +kernel) hr e
theorem sc913 : FnScope n913 ["well", "many"] (defScope s913) := ⟨rfl, rfl, rfl, by decide +kernel, rfl, by decide +kernel, by decide +kernel⟩
theorem here913 {K : PySem.W.Frag} {h : Heap} {mg : Str → Option Value} {a : Addr} {oc : Value} {od an : Option Addr} {osl : Array (Option Value)} {kV doc pm cdv ct : Value}
    (X : K.In h) (Gm : h.Ns mainGlobals mg) (h1 : PySem.W.nsIn K mainGlobals "_law_dip" = some (some (.ref a)))
    (l : List.lookup a K = some ⟨oc, od, .func (PySem.W.fnOf "_law_dip" "_law_dip" (defArgs s913) (defBody s913) (defScope s913) .none kV doc pm an cdv ct), osl⟩) (c : PySem.W.codeIn K cdv "_law_dip" = true) (k : PySem.W.keepIn K (.ref a) = true) : FnHere K mg prK71 G 60 ("_law_dip", 913, ["well", "many"]) := by
  refine here_mk X Gm h1 l c k sc913 (fun _ _ _ _ _ _ us hl => match us, hl with | [_, _], _ => rfl) ?_ (by rw [bq913]; rfl)
  exact fun _ _ _ _ _ _ r hr e => no_kw (by decide +kernel) hr e
theorem sc914 : FnScope n914 ["well", "things"] (defScope s914) := ⟨rfl, rfl, rfl, by decide +kernel, rfl, by decide +kernel, by decide +kernel⟩
theorem here914 {K : PySem.W.Frag} {h : Heap} {mg : Str → Option Value} {a : Addr} {oc : Value} {od an : Option Addr} {osl : Array (Option Value)} {kV doc pm cdv ct : Value}
    (X : K.In h) (Gm : h.Ns mainGlobals mg) (h1 : PySem.W.nsIn K mainGlobals "_law_of" = some (some (.ref a)))
    (l : List.lookup a K = some ⟨oc, od, .func (PySem.W.fnOf "_law_of" "_law_of" (defArgs s914) (defBody s914) (defScope s914) .none kV doc pm an cdv ct), osl⟩) (c : PySem.W.codeIn K cdv "_law_of" = true) (k : PySem.W.keepIn K (.ref a) = true) : FnHere K mg prK71 G 60 ("_law_of", 914, ["well", "things"]) := by
  refine here_mk X Gm h1 l c k sc914 (fun _ _ _ _ _ _ us hl => match us, hl with | [_, _], _ => rfl) ?_ (by rw [bq914]; rfl)
  exact fun _ _ _ _ _ _ r hr e => no_kw (by decide +kernel) hr e
theorem sc915 : FnScope n915 ["well"] (defScope s915) := ⟨rfl, rfl, rfl, by decide +kernel, rfl, by decide +kernel, by decide +kernel⟩
theorem here915 {K : PySem.W.Frag} {h : Heap} {mg : Str → Option Value} {a : Addr} {oc : Value} {od an : Option Addr} {osl : Array (Option Value)} {kV doc pm cdv ct : Value}
    (X : K.In h) (Gm : h.Ns mainGlobals mg) (h1 : PySem.W.nsIn K mainGlobals "_law_word" = some (some (.ref a)))
    (l : List.lookup a K = some ⟨oc, od, .func (PySem.W.fnOf "_law_word" "_law_word" (defArgs s915) (defBody s915) (defScope s915) .none kV doc pm an cdv ct), osl⟩) (c : PySem.W.codeIn K cdv "_law_word" = true) (k : PySem.W.keepIn K (.ref a) = true) : FnHere K mg prK71 G 60 ("_law_word", 915, ["well"]) := by
  refine here_mk X Gm h1 l c k sc915 (fun _ _ _ _ _ _ us hl => match us, hl with | [_], _ => rfl) ?_ (by rw [bq915]; rfl)
  exact fun _ _ _ _ _ _ r hr e => no_kw (by decide +kernel) hr e
theorem sc916 : FnScope n916 ["well"] (defScope s916) := ⟨rfl, rfl, rfl, by decide +kernel, rfl, by decide +kernel, by decide +kernel⟩
theorem here916 {K : PySem.W.Frag} {h : Heap} {mg : Str → Option Value} {a : Addr} {oc : Value} {od an : Option Addr} {osl : Array (Option Value)} {kV doc pm cdv ct : Value}
    (X : K.In h) (Gm : h.Ns mainGlobals mg) (h1 : PySem.W.nsIn K mainGlobals "_law_plain" = some (some (.ref a)))
    (l : List.lookup a K = some ⟨oc, od, .func (PySem.W.fnOf "_law_plain" "_law_plain" (defArgs s916) (defBody s916) (defScope s916) .none kV doc pm an cdv ct), osl⟩) (c : PySem.W.codeIn K cdv "_law_plain" = true) (k : PySem.W.keepIn K (.ref a) = true) : FnHere K mg prK71 G 60 ("_law_plain", 916, ["well"]) := by
  refine here_mk X Gm h1 l c k sc916 (fun _ _ _ _ _ _ us hl => match us, hl with | [_], _ => rfl) ?_ (by rw [bq916]; rfl)
  exact fun _ _ _ _ _ _ r hr e => no_kw (by decide +kernel) hr e
theorem sc917 : FnScope n917 ["well", "level", "left"] (defScope s917) := ⟨rfl, rfl, rfl, by decide +kernel, rfl, by decide +kernel, by decide +kernel⟩
theorem here917 {K : PySem.W.Frag} {h : Heap} {mg : Str → Option Value} {a : Addr} {oc : Value} {od an : Option Addr} {osl : Array (Option Value)} {kV doc pm cdv ct : Value}
    (X : K.In h) (Gm : h.Ns mainGlobals mg) (h1 : PySem.W.nsIn K mainGlobals "_law_any" = some (some (.ref a)))
    (l : List.lookup a K = some ⟨oc, od, .func (PySem.W.fnOf "_law_any" "_law_any" (defArgs s917) (defBody s917) (defScope s917) .none kV doc pm an cdv ct), osl⟩) (c : PySem.W.codeIn K cdv "_law_any" = true) (k : PySem.W.keepIn K (.ref a) = true) : FnHere K mg prK71 G 60 ("_law_any", 917, ["well", "level", "left"]) := by
  refine here_mk X Gm h1 l c k sc917 (fun _ _ _ _ _ _ us hl => match us, hl with | [_, _, _], _ => rfl) ?_ (by rw [bq917]; rfl)
  exact fun _ _ _ _ _ _ r hr e => no_kw (by decide +kernel) hr e
theorem sc918 : FnScope n918 ["well", "level", "left"] (defScope s918) := ⟨rfl, rfl, rfl, by decide +kernel, rfl, by decide +kernel, by decide +kernel⟩
theorem here918 {K : PySem.W.Frag} {h : Heap} {mg : Str → Option Value} {a : Addr} {oc : Value} {od an : Option Addr} {osl : Array (Option Value)} {kV doc pm cdv ct : Value}
    (X : K.In h) (Gm : h.Ns mainGlobals mg) (h1 : PySem.W.nsIn K mainGlobals "_law_some" = some (some (.ref a)))
    (l : List.lookup a K = some ⟨oc, od, .func (PySem.W.fnOf "_law_some" "_law_some" (defArgs s918) (defBody s918) (defScope s918) .none kV doc pm an cdv ct), osl⟩) (c : PySem.W.codeIn K cdv "_law_some" = true) (k : PySem.W.keepIn K (.ref a) = true) : FnHere K mg prK71 G 60 ("_law_some", 918, ["well", "level", "left"]) := by
  refine here_mk X Gm h1 l c k sc918 (fun _ _ _ _ _ _ us hl => match us, hl with | [_, _, _], _ => rfl) ?_ (by rw [bq918]; rfl)
  exact fun _ _ _ _ _ _ r hr e => no_kw (by decide +kernel) hr e
theorem sc919 : FnScope n919 ["well"] (defScope s919) := ⟨rfl, rfl, rfl, by decide +kernel, rfl, by decide +kernel, by decide +kernel⟩
theorem here919 {K : PySem.W.Frag} {h : Heap} {mg : Str → Option Value} {a : Addr} {oc : Value} {od an : Option Addr} {osl : Array (Option Value)} {kV doc pm cdv ct : Value}
    (X : K.In h) (Gm : h.Ns mainGlobals mg) (h1 : PySem.W.nsIn K mainGlobals "_law_deep" = some (some (.ref a)))
    (l : List.lookup a K = some ⟨oc, od, .func (PySem.W.fnOf "_law_deep" "_law_deep" (defArgs s919) (defBody s919) (defScope s919) .none kV doc pm an cdv ct), osl⟩) (c : PySem.W.codeIn K cdv "_law_deep" = true) (k : PySem.W.keepIn K (.ref a) = true) : FnHere K mg prK71 G 60 ("_law_deep", 919, ["well"]) := by
  refine here_mk X Gm h1 l c k sc919 (fun _ _ _ _ _ _ us hl => match us, hl with | [_], _ => rfl) ?_ (by rw [bq919]; rfl)
  exact fun _ _ _ _ _ _ r hr e => no_kw (by decide +kernel) hr e
theorem sc920 : FnScope n920 ["well"] (defScope s920) := ⟨rfl, rfl, rfl, by decide +kernel, rfl, by decide +kernel, by decide +kernel⟩
theorem here920 {K : PySem.W.Frag} {h : Heap} {mg : Str → Option Value} {a : Addr} {oc : Value} {od an : Option Addr} {osl : Array (Option Value)} {kV doc pm cdv ct : Value}
    (X : K.In h) (Gm : h.Ns mainGlobals mg) (h1 : PySem.W.nsIn K mainGlobals "_law_hand" = some (some (.ref a)))
    (l : List.lookup a K = some ⟨oc, od, .func (PySem.W.fnOf "_law_hand" "_law_hand" (defArgs s920) (defBody s920) (defScope s920) .none kV doc pm an cdv ct), osl⟩) (c : PySem.W.codeIn K cdv "_law_hand" = true) (k : PySem.W.keepIn K (.ref a) = true) : FnHere K mg prK71 G 60 ("_law_hand", 920, ["well"]) := by
  refine here_mk X Gm h1 l c k sc920 (fun _ _ _ _ _ _ us hl => match us, hl with | [_], _ => rfl) ?_ (by rw [bq920]; rfl)
  exact fun _ _ _ _ _ _ r hr e => no_kw (by decide +kernel) hr e
theorem sc921 : FnScope n921 ["well"] (defScope s921) := ⟨rfl, rfl, rfl, by decide +kernel, rfl, by decide +kernel, by decide +kernel⟩
theorem here921 {K : PySem.W.Frag} {h : Heap} {mg : Str → Option Value} {a : Addr} {oc : Value} {od an : Option Addr} {osl : Array (Option Value)} {kV doc pm cdv ct : Value}
    (X : K.In h) (Gm : h.Ns mainGlobals mg) (h1 : PySem.W.nsIn K mainGlobals "_law_program" = some (some (.ref a)))
    (l : List.lookup a K = some ⟨oc, od, .func (PySem.W.fnOf "_law_program" "_law_program" (defArgs s921) (defBody s921) (defScope s921) .none kV doc pm an cdv ct), osl⟩) (c : PySem.W.codeIn K cdv "_law_program" = true) (k : PySem.W.keepIn K (.ref a) = true) : FnHere K mg prK71 G 60 ("_law_program", 921, ["well"]) := by
  refine here_mk X Gm h1 l c k sc921 (fun _ _ _ _ _ _ us hl => match us, hl with | [_], _ => rfl) ?_ (by rw [bq921]; rfl)
  exact fun _ _ _ _ _ _ r hr e => no_kw (by decide +kernel) hr e
theorem sc922 : FnScope n922 ["statements"] (defScope s922) := ⟨rfl, rfl, rfl, by decide +kernel, rfl, by decide +kernel, by decide +kernel⟩
theorem here922 {K : PySem.W.Frag} {h : Heap} {mg : Str → Option Value} {a : Addr} {oc : Value} {od an : Option Addr} {osl : Array (Option Value)} {kV doc pm cdv ct : Value}
    (X : K.In h) (Gm : h.Ns mainGlobals mg) (h1 : PySem.W.nsIn K mainGlobals "_law_inside" = some (some (.ref a)))
    (l : List.lookup a K = some ⟨oc, od, .func (PySem.W.fnOf "_law_inside" "_law_inside" (defArgs s922) (defBody s922) (defScope s922) .none kV doc pm an cdv ct), osl⟩) (c : PySem.W.codeIn K cdv "_law_inside" = true) (k : PySem.W.keepIn K (.ref a) = true) : FnHere K mg prK71 G 60 ("_law_inside", 922, ["statements"]) := by
  refine here_mk X Gm h1 l c k sc922 (fun _ _ _ _ _ _ us hl => match us, hl with | [_], _ => rfl) ?_ (by rw [bq922]; rfl)
  exact fun _ _ _ _ _ _ r hr e => no_kw (by decide +kernel) hr e
theorem sc923 : FnScope n923 ["one"] (defScope s923) := ⟨rfl, rfl, rfl, by decide +kernel, rfl, by decide +kernel, by decide +kernel⟩
theorem here923 {K : PySem.W.Frag} {h : Heap} {mg : Str → Option Value} {a : Addr} {oc : Value} {od an : Option Addr} {osl : Array (Option Value)} {kV doc pm cdv ct : Value}
    (X : K.In h) (Gm : h.Ns mainGlobals mg) (h1 : PySem.W.nsIn K mainGlobals "_law_line" = some (some (.ref a)))
    (l : List.lookup a K = some ⟨oc, od, .func (PySem.W.fnOf "_law_line" "_law_line" (defArgs s923) (defBody s923) (defScope s923) .none kV doc pm an cdv ct), osl⟩) (c : PySem.W.codeIn K cdv "_law_line" = true) (k : PySem.W.keepIn K (.ref a) = true) : FnHere K mg prK71 G 60 ("_law_line", 923, ["one"]) := by
  refine here_mk X Gm h1 l c k sc923 (fun _ _ _ _ _ _ us hl => match us, hl with | [_], _ => rfl) ?_ (by rw [bq923]; rfl)
  exact fun _ _ _ _ _ _ r hr e => no_kw (by decide +kernel) hr e
theorem sc924 : FnScope n924 ["program"] (defScope s924) := ⟨rfl, rfl, rfl, by decide +kernel, rfl, by decide +kernel, by decide +kernel⟩
theorem here924 {K : PySem.W.Frag} {h : Heap} {mg : Str → Option Value} {a : Addr} {oc : Value} {od an : Option Addr} {osl : Array (Option Value)} {kV doc pm cdv ct : Value}
    (X : K.In h) (Gm : h.Ns mainGlobals mg) (h1 : PySem.W.nsIn K mainGlobals "_law_text" = some (some (.ref a)))
    (l : List.lookup a K = some ⟨oc, od, .func (PySem.W.fnOf "_law_text" "_law_text" (defArgs s924) (defBody s924) (defScope s924) .none kV doc pm an cdv ct), osl⟩) (c : PySem.W.codeIn K cdv "_law_text" = true) (k : PySem.W.keepIn K (.ref a) = true) : FnHere K mg prK71 G 60 ("_law_text", 924, ["program"]) := by
  refine here_mk X Gm h1 l c k sc924 (fun _ _ _ _ _ _ us hl => match us, hl with | [_], _ => rfl) ?_ (by rw [bq924]; rfl)
  exact fun _ _ _ _ _ _ r hr e => no_kw (by decide +kernel) hr e
theorem sc925 : FnScope n925 ["statements"] (defScope s925) := ⟨rfl, rfl, rfl, by decide +kernel, rfl, by decide +kernel, by decide +kernel⟩
theorem here925 {K : PySem.W.Frag} {h : Heap} {mg : Str → Option Value} {a : Addr} {oc : Value} {od an : Option Addr} {osl : Array (Option Value)} {kV doc pm cdv ct : Value}
    (X : K.In h) (Gm : h.Ns mainGlobals mg) (h1 : PySem.W.nsIn K mainGlobals "_law_measure" = some (some (.ref a)))
    (l : List.lookup a K = some ⟨oc, od, .func (PySem.W.fnOf "_law_measure" "_law_measure" (defArgs s925) (defBody s925) (defScope s925) .none kV doc pm an cdv ct), osl⟩) (c : PySem.W.codeIn K cdv "_law_measure" = true) (k : PySem.W.keepIn K (.ref a) = true) : FnHere K mg prK71 G 60 ("_law_measure", 925, ["statements"]) := by
  refine here_mk X Gm h1 l c k sc925 (fun _ _ _ _ _ _ us hl => match us, hl with | [_], _ => rfl) ?_ (by rw [bq925]; rfl)
  exact fun _ _ _ _ _ _ r hr e => no_kw (by decide +kernel) hr e
theorem sc926 : FnScope n926 ["program"] (defScope s926) := ⟨rfl, rfl, rfl, by decide +kernel, rfl, by decide +kernel, by decide +kernel⟩
theorem here926 {K : PySem.W.Frag} {h : Heap} {mg : Str → Option Value} {a : Addr} {oc : Value} {od an : Option Addr} {osl : Array (Option Value)} {kV doc pm cdv ct : Value}
    (X : K.In h) (Gm : h.Ns mainGlobals mg) (h1 : PySem.W.nsIn K mainGlobals "_law_may_pass" = some (some (.ref a)))
    (l : List.lookup a K = some ⟨oc, od, .func (PySem.W.fnOf "_law_may_pass" "_law_may_pass" (defArgs s926) (defBody s926) (defScope s926) .none kV doc pm an cdv ct), osl⟩) (c : PySem.W.codeIn K cdv "_law_may_pass" = true) (k : PySem.W.keepIn K (.ref a) = true) : FnHere K mg prK71 G 60 ("_law_may_pass", 926, ["program"]) := by
  refine here_mk X Gm h1 l c k sc926 (fun _ _ _ _ _ _ us hl => match us, hl with | [_], _ => rfl) ?_ (by rw [bq926]; rfl)
  exact fun _ _ _ _ _ _ r hr e => no_kw (by decide +kernel) hr e
theorem sc927 : FnScope n927 ["program", "text", "named"] (defScope s927) := ⟨rfl, rfl, rfl, by decide +kernel, rfl, by decide +kernel, by decide +kernel⟩
theorem here927 {K : PySem.W.Frag} {h : Heap} {mg : Str → Option Value} {a : Addr} {oc : Value} {od an : Option Addr} {osl : Array (Option Value)} {kV doc pm cdv ct : Value}
    (X : K.In h) (Gm : h.Ns mainGlobals mg) (h1 : PySem.W.nsIn K mainGlobals "_law_right" = some (some (.ref a)))
    (l : List.lookup a K = some ⟨oc, od, .func (PySem.W.fnOf "_law_right" "_law_right" (defArgs s927) (defBody s927) (defScope s927) .none kV doc pm an cdv ct), osl⟩) (c : PySem.W.codeIn K cdv "_law_right" = true) (k : PySem.W.keepIn K (.ref a) = true) : FnHere K mg prK71 G 60 ("_law_right", 927, ["program", "text", "named"]) := by
  refine here_mk X Gm h1 l c k sc927 (fun _ _ _ _ _ _ us hl => match us, hl with | [_, _, _], _ => rfl) ?_ (by rw [bq927]; rfl)
  exact fun _ _ _ _ _ _ r hr e => no_kw (by decide +kernel) hr e
theorem sc928 : FnScope n928 ["script"] (defScope s928) := ⟨rfl, rfl, rfl, by decide +kernel, rfl, by decide +kernel, by decide +kernel⟩
theorem here928 {K : PySem.W.Frag} {h : Heap} {mg : Str → Option Value} {a : Addr} {oc : Value} {od an : Option Addr} {osl : Array (Option Value)} {kV doc pm cdv ct : Value}
    (X : K.In h) (Gm : h.Ns mainGlobals mg) (h1 : PySem.W.nsIn K mainGlobals "law" = some (some (.ref a)))
    (l : List.lookup a K = some ⟨oc, od, .func (PySem.W.fnOf "law" "law" (defArgs s928) (defBody s928) (defScope s928) .none kV doc pm an cdv ct), osl⟩) (c : PySem.W.codeIn K cdv "law" = true) (k : PySem.W.keepIn K (.ref a) = true) : FnHere K mg prK71 G 60 ("law", 928, ["script"]) := by
  refine here_mk X Gm h1 l c k sc928 (fun _ _ _ _ _ _ us hl => match us, hl with | [_], _ => rfl) ?_ (by rw [bq928]; rfl)
  exact fun _ _ _ _ _ _ r hr e => no_kw (by decide +kernel) hr e
theorem sc929 : FnScope n929 ["self", "text", "words"] (defScope s929) := ⟨rfl, rfl, rfl, by decide +kernel, rfl, by decide +kernel, by decide +kernel⟩
theorem here929 {K : PySem.W.Frag} {h : Heap} {mg : Str → Option Value} {C a : Addr} {oc : Value} {od an : Option Addr} {osl : Array (Option Value)} {kV doc pm cdv ct : Value}
    (X : K.In h) (Gm : h.Ns mainGlobals mg) (h1 : PySem.W.nsIn K mainGlobals "Reader" = some (some (.ref C))) (M : Mk K C a)
    (l : List.lookup a K = some ⟨oc, od, .func (PySem.W.fnOf "__init__" "Reader.__init__" (defArgs s929) (defBody s929) (defScope s929) .none kV doc pm an cdv ct), osl⟩) (c : PySem.W.codeIn K cdv "Reader.__init__" = true) (k : PySem.W.keepIn K (.ref a) = true) : ClsHere K mg prK71 G 60 ("Reader", 929, ["self", "text", "words"], ["text", "words", "at"]) :=
  cls_mk X Gm h1 M l c k sc929 (fun _ _ _ _ _ _ us hl => match us, hl with | [_, _, _], _ => rfl) (by rw [bq929]; rfl)
end K71

set_option Elab.async false
set_option linter.all false
set_option maxRecDepth 100000
set_option maxHeartbeats 8000000
namespace K71
open PySem L2 Tm
theorem all_mk {l : PySem.W.OpenLaw} {w : World} {K : PySem.W.Frag} {h : Heap} {mg : Str → Option Value} {fa : Addr} (X : K.In h) (Gm : h.Ns mainGlobals mg) (hfa : mg "law" = some (.ref fa))
    {f888 : Addr} {oc888 : Value} {od888 an888 : Option Addr} {osl888 : Array (Option Value)} {kV888 doc888 pm888 cdv888 ct888 : Value}
    {f889 : Addr} {oc889 : Value} {od889 an889 : Option Addr} {osl889 : Array (Option Value)} {kV889 doc889 pm889 cdv889 ct889 : Value}
    {f890 : Addr} {oc890 : Value} {od890 an890 : Option Addr} {osl890 : Array (Option Value)} {kV890 doc890 pm890 cdv890 ct890 : Value}
    {f891 : Addr} {oc891 : Value} {od891 an891 : Option Addr} {osl891 : Array (Option Value)} {kV891 doc891 pm891 cdv891 ct891 : Value}
    {f892 : Addr} {oc892 : Value} {od892 an892 : Option Addr} {osl892 : Array (Option Value)} {kV892 doc892 pm892 cdv892 ct892 : Value}
    {f15 : Addr} {oc15 : Value} {od15 an15 : Option Addr} {osl15 : Array (Option Value)} {kV15 doc15 pm15 cdv15 ct15 : Value}
    {f16 : Addr} {oc16 : Value} {od16 an16 : Option Addr} {osl16 : Array (Option Value)} {kV16 doc16 pm16 cdv16 ct16 : Value}
    {f17 : Addr} {oc17 : Value} {od17 an17 : Option Addr} {osl17 : Array (Option Value)} {kV17 doc17 pm17 cdv17 ct17 : Value}
    {f129 : Addr} {oc129 : Value} {od129 an129 : Option Addr} {osl129 : Array (Option Value)} {kV129 doc129 pm129 cdv129 ct129 : Value}
    {f40 : Addr} {oc40 : Value} {od40 an40 : Option Addr} {osl40 : Array (Option Value)} {kV40 doc40 pm40 cdv40 ct40 : Value}
    {f893 : Addr} {oc893 : Value} {od893 an893 : Option Addr} {osl893 : Array (Option Value)} {kV893 doc893 pm893 cdv893 ct893 : Value}
    {f894 : Addr} {oc894 : Value} {od894 an894 : Option Addr} {osl894 : Array (Option Value)} {kV894 doc894 pm894 cdv894 ct894 : Value}
    {f895 : Addr} {oc895 : Value} {od895 an895 : Option Addr} {osl895 : Array (Option Value)} {kV895 doc895 pm895 cdv895 ct895 : Value}
    {f896 : Addr} {oc896 : Value} {od896 an896 : Option Addr} {osl896 : Array (Option Value)} {kV896 doc896 pm896 cdv896 ct896 : Value}
    {f897 : Addr} {oc897 : Value} {od897 an897 : Option Addr} {osl897 : Array (Option Value)} {kV897 doc897 pm897 cdv897 ct897 : Value}
    {f898 : Addr} {oc898 : Value} {od898 an898 : Option Addr} {osl898 : Array (Option Value)} {kV898 doc898 pm898 cdv898 ct898 : Value}
    {f899 : Addr} {oc899 : Value} {od899 an899 : Option Addr} {osl899 : Array (Option Value)} {kV899 doc899 pm899 cdv899 ct899 : Value}
    {f900 : Addr} {oc900 : Value} {od900 an900 : Option Addr} {osl900 : Array (Option Value)} {kV900 doc900 pm900 cdv900 ct900 : Value}
    {f901 : Addr} {oc901 : Value} {od901 an901 : Option Addr} {osl901 : Array (Option Value)} {kV901 doc901 pm901 cdv901 ct901 : Value}
    {f902 : Addr} {oc902 : Value} {od902 an902 : Option Addr} {osl902 : Array (Option Value)} {kV902 doc902 pm902 cdv902 ct902 : Value}
    {f903 : Addr} {oc903 : Value} {od903 an903 : Option Addr} {osl903 : Array (Option Value)} {kV903 doc903 pm903 cdv903 ct903 : Value}
    {f904 : Addr} {oc904 : Value} {od904 an904 : Option Addr} {osl904 : Array (Option Value)} {kV904 doc904 pm904 cdv904 ct904 : Value}
    {f905 : Addr} {oc905 : Value} {od905 an905 : Option Addr} {osl905 : Array (Option Value)} {kV905 doc905 pm905 cdv905 ct905 : Value}
    {f906 : Addr} {oc906 : Value} {od906 an906 : Option Addr} {osl906 : Array (Option Value)} {kV906 doc906 pm906 cdv906 ct906 : Value}
    {f907 : Addr} {oc907 : Value} {od907 an907 : Option Addr} {osl907 : Array (Option Value)} {kV907 doc907 pm907 cdv907 ct907 : Value}
    {f908 : Addr} {oc908 : Value} {od908 an908 : Option Addr} {osl908 : Array (Option Value)} {kV908 doc908 pm908 cdv908 ct908 : Value}
    {f909 : Addr} {oc909 : Value} {od909 an909 : Option Addr} {osl909 : Array (Option Value)} {kV909 doc909 pm909 cdv909 ct909 : Value}
    {f910 : Addr} {oc910 : Value} {od910 an910 : Option Addr} {osl910 : Array (Option Value)} {kV910 doc910 pm910 cdv910 ct910 : Value}
    {f911 : Addr} {oc911 : Value} {od911 an911 : Option Addr} {osl911 : Array (Option Value)} {kV911 doc911 pm911 cdv911 ct911 : Value}
    {f912 : Addr} {oc912 : Value} {od912 an912 : Option Addr} {osl912 : Array (Option Value)} {kV912 doc912 pm912 cdv912 ct912 : Value}
    {f913 : Addr} {oc913 : Value} {od913 an913 : Option Addr} {osl913 : Array (Option Value)} {kV913 doc913 pm913 cdv913 ct913 : Value}
    {f914 : Addr} {oc914 : Value} {od914 an914 : Option Addr} {osl914 : Array (Option Value)} {kV914 doc914 pm914 cdv914 ct914 : Value}
    {f915 : Addr} {oc915 : Value} {od915 an915 : Option Addr} {osl915 : Array (Option Value)} {kV915 doc915 pm915 cdv915 ct915 : Value}
    {f916 : Addr} {oc916 : Value} {od916 an916 : Option Addr} {osl916 : Array (Option Value)} {kV916 doc916 pm916 cdv916 ct916 : Value}
    {f917 : Addr} {oc917 : Value} {od917 an917 : Option Addr} {osl917 : Array (Option Value)} {kV917 doc917 pm917 cdv917 ct917 : Value}
    {f918 : Addr} {oc918 : Value} {od918 an918 : Option Addr} {osl918 : Array (Option Value)} {kV918 doc918 pm918 cdv918 ct918 : Value}
    {f919 : Addr} {oc919 : Value} {od919 an919 : Option Addr} {osl919 : Array (Option Value)} {kV919 doc919 pm919 cdv919 ct919 : Value}
    {f920 : Addr} {oc920 : Value} {od920 an920 : Option Addr} {osl920 : Array (Option Value)} {kV920 doc920 pm920 cdv920 ct920 : Value}
    {f921 : Addr} {oc921 : Value} {od921 an921 : Option Addr} {osl921 : Array (Option Value)} {kV921 doc921 pm921 cdv921 ct921 : Value}
    {f922 : Addr} {oc922 : Value} {od922 an922 : Option Addr} {osl922 : Array (Option Value)} {kV922 doc922 pm922 cdv922 ct922 : Value}
    {f923 : Addr} {oc923 : Value} {od923 an923 : Option Addr} {osl923 : Array (Option Value)} {kV923 doc923 pm923 cdv923 ct923 : Value}
    {f924 : Addr} {oc924 : Value} {od924 an924 : Option Addr} {osl924 : Array (Option Value)} {kV924 doc924 pm924 cdv924 ct924 : Value}
    {f925 : Addr} {oc925 : Value} {od925 an925 : Option Addr} {osl925 : Array (Option Value)} {kV925 doc925 pm925 cdv925 ct925 : Value}
    {f926 : Addr} {oc926 : Value} {od926 an926 : Option Addr} {osl926 : Array (Option Value)} {kV926 doc926 pm926 cdv926 ct926 : Value}
    {f927 : Addr} {oc927 : Value} {od927 an927 : Option Addr} {osl927 : Array (Option Value)} {kV927 doc927 pm927 cdv927 ct927 : Value}
    {f928 : Addr} {oc928 : Value} {od928 an928 : Option Addr} {osl928 : Array (Option Value)} {kV928 doc928 pm928 cdv928 ct928 : Value}
    (a888 : PySem.W.nsIn K mainGlobals "spaced" = some (some (.ref f888))) (l888 : List.lookup f888 K = some ⟨oc888, od888, .func (PySem.W.fnOf "spaced" "spaced" (defArgs s888) (defBody s888) (defScope s888) .none kV888 doc888 pm888 an888 cdv888 ct888), osl888⟩) (c888 : PySem.W.codeIn K cdv888 "spaced" = true) (k888 : PySem.W.keepIn K (.ref f888) = true)
    (a889 : PySem.W.nsIn K mainGlobals "show_block" = some (some (.ref f889))) (l889 : List.lookup f889 K = some ⟨oc889, od889, .func (PySem.W.fnOf "show_block" "show_block" (defArgs s889) (defBody s889) (defScope s889) .none kV889 doc889 pm889 an889 cdv889 ct889), osl889⟩) (c889 : PySem.W.codeIn K cdv889 "show_block" = true) (k889 : PySem.W.keepIn K (.ref f889) = true)
    (a890 : PySem.W.nsIn K mainGlobals "show_statement" = some (some (.ref f890))) (l890 : List.lookup f890 K = some ⟨oc890, od890, .func (PySem.W.fnOf "show_statement" "show_statement" (defArgs s890) (defBody s890) (defScope s890) .none kV890 doc890 pm890 an890 cdv890 ct890), osl890⟩) (c890 : PySem.W.codeIn K cdv890 "show_statement" = true) (k890 : PySem.W.keepIn K (.ref f890) = true)
    (a891 : PySem.W.nsIn K mainGlobals "show_statements" = some (some (.ref f891))) (l891 : List.lookup f891 K = some ⟨oc891, od891, .func (PySem.W.fnOf "show_statements" "show_statements" (defArgs s891) (defBody s891) (defScope s891) .none kV891 doc891 pm891 an891 cdv891 ct891), osl891⟩) (c891 : PySem.W.codeIn K cdv891 "show_statements" = true) (k891 : PySem.W.keepIn K (.ref f891) = true)
    (a892 : PySem.W.nsIn K mainGlobals "show_program" = some (some (.ref f892))) (l892 : List.lookup f892 K = some ⟨oc892, od892, .func (PySem.W.fnOf "show_program" "show_program" (defArgs s892) (defBody s892) (defScope s892) .none kV892 doc892 pm892 an892 cdv892 ct892), osl892⟩) (c892 : PySem.W.codeIn K cdv892 "show_program" = true) (k892 : PySem.W.keepIn K (.ref f892) = true)
    (a15 : PySem.W.nsIn K mainGlobals "is_integer" = some (some (.ref f15))) (l15 : List.lookup f15 K = some ⟨oc15, od15, .func (PySem.W.fnOf "is_integer" "is_integer" (defArgs s15) (defBody s15) (defScope s15) .none kV15 doc15 pm15 an15 cdv15 ct15), osl15⟩) (c15 : PySem.W.codeIn K cdv15 "is_integer" = true) (k15 : PySem.W.keepIn K (.ref f15) = true)
    (a16 : PySem.W.nsIn K mainGlobals "is_between" = some (some (.ref f16))) (l16 : List.lookup f16 K = some ⟨oc16, od16, .func (PySem.W.fnOf "is_between" "is_between" (defArgs s16) (defBody s16) (defScope s16) .none kV16 doc16 pm16 an16 cdv16 ct16), osl16⟩) (c16 : PySem.W.codeIn K cdv16 "is_between" = true) (k16 : PySem.W.keepIn K (.ref f16) = true)
    (a17 : PySem.W.nsIn K mainGlobals "is_word" = some (some (.ref f17))) (l17 : List.lookup f17 K = some ⟨oc17, od17, .func (PySem.W.fnOf "is_word" "is_word" (defArgs s17) (defBody s17) (defScope s17) .none kV17 doc17 pm17 an17 cdv17 ct17), osl17⟩) (c17 : PySem.W.codeIn K cdv17 "is_word" = true) (k17 : PySem.W.keepIn K (.ref f17) = true)
    (a129 : PySem.W.nsIn K mainGlobals "is_one_of" = some (some (.ref f129))) (l129 : List.lookup f129 K = some ⟨oc129, od129, .func (PySem.W.fnOf "is_one_of" "is_one_of" (defArgs s129) (defBody s129) (defScope s129) .none kV129 doc129 pm129 an129 cdv129 ct129), osl129⟩) (c129 : PySem.W.codeIn K cdv129 "is_one_of" = true) (k129 : PySem.W.keepIn K (.ref f129) = true)
    (a40 : PySem.W.nsIn K mainGlobals "rebuilt" = some (some (.ref f40))) (l40 : List.lookup f40 K = some ⟨oc40, od40, .func (PySem.W.fnOf "rebuilt" "rebuilt" (defArgs s40) (defBody s40) (defScope s40) .none kV40 doc40 pm40 an40 cdv40 ct40), osl40⟩) (c40 : PySem.W.codeIn K cdv40 "rebuilt" = true) (k40 : PySem.W.keepIn K (.ref f40) = true)
    (a893 : PySem.W.nsIn K mainGlobals "is_numeral" = some (some (.ref f893))) (l893 : List.lookup f893 K = some ⟨oc893, od893, .func (PySem.W.fnOf "is_numeral" "is_numeral" (defArgs s893) (defBody s893) (defScope s893) .none kV893 doc893 pm893 an893 cdv893 ct893), osl893⟩) (c893 : PySem.W.codeIn K cdv893 "is_numeral" = true) (k893 : PySem.W.keepIn K (.ref f893) = true)
    (a894 : PySem.W.nsIn K mainGlobals "is_part" = some (some (.ref f894))) (l894 : List.lookup f894 K = some ⟨oc894, od894, .func (PySem.W.fnOf "is_part" "is_part" (defArgs s894) (defBody s894) (defScope s894) .none kV894 doc894 pm894 an894 cdv894 ct894), osl894⟩) (c894 : PySem.W.codeIn K cdv894 "is_part" = true) (k894 : PySem.W.keepIn K (.ref f894) = true)
    (a895 : PySem.W.nsIn K mainGlobals "is_plain_statement" = some (some (.ref f895))) (l895 : List.lookup f895 K = some ⟨oc895, od895, .func (PySem.W.fnOf "is_plain_statement" "is_plain_statement" (defArgs s895) (defBody s895) (defScope s895) .none kV895 doc895 pm895 an895 cdv895 ct895), osl895⟩) (c895 : PySem.W.codeIn K cdv895 "is_plain_statement" = true) (k895 : PySem.W.keepIn K (.ref f895) = true)
    (a896 : PySem.W.nsIn K mainGlobals "statements_in" = some (some (.ref f896))) (l896 : List.lookup f896 K = some ⟨oc896, od896, .func (PySem.W.fnOf "statements_in" "statements_in" (defArgs s896) (defBody s896) (defScope s896) .none kV896 doc896 pm896 an896 cdv896 ct896), osl896⟩) (c896 : PySem.W.codeIn K cdv896 "statements_in" = true) (k896 : PySem.W.keepIn K (.ref f896) = true)
    (a897 : PySem.W.nsIn K mainGlobals "statements_of" = some (some (.ref f897))) (l897 : List.lookup f897 K = some ⟨oc897, od897, .func (PySem.W.fnOf "statements_of" "statements_of" (defArgs s897) (defBody s897) (defScope s897) .none kV897 doc897 pm897 an897 cdv897 ct897), osl897⟩) (c897 : PySem.W.codeIn K cdv897 "statements_of" = true) (k897 : PySem.W.keepIn K (.ref f897) = true)
    (a898 : PySem.W.nsIn K mainGlobals "is_hand" = some (some (.ref f898))) (l898 : List.lookup f898 K = some ⟨oc898, od898, .func (PySem.W.fnOf "is_hand" "is_hand" (defArgs s898) (defBody s898) (defScope s898) .none kV898 doc898 pm898 an898 cdv898 ct898), osl898⟩) (c898 : PySem.W.codeIn K cdv898 "is_hand" = true) (k898 : PySem.W.keepIn K (.ref f898) = true)
    (a899 : PySem.W.nsIn K mainGlobals "is_program_value" = some (some (.ref f899))) (l899 : List.lookup f899 K = some ⟨oc899, od899, .func (PySem.W.fnOf "is_program_value" "is_program_value" (defArgs s899) (defBody s899) (defScope s899) .none kV899 doc899 pm899 an899 cdv899 ct899), osl899⟩) (c899 : PySem.W.codeIn K cdv899 "is_program_value" = true) (k899 : PySem.W.keepIn K (.ref f899) = true)
    (a900 : PySem.W.nsIn K mainGlobals "next_word" = some (some (.ref f900))) (l900 : List.lookup f900 K = some ⟨oc900, od900, .func (PySem.W.fnOf "next_word" "next_word" (defArgs s900) (defBody s900) (defScope s900) .none kV900 doc900 pm900 an900 cdv900 ct900), osl900⟩) (c900 : PySem.W.codeIn K cdv900 "next_word" = true) (k900 : PySem.W.keepIn K (.ref f900) = true)
    (a901 : PySem.W.nsIn K mainGlobals "taken_word" = some (some (.ref f901))) (l901 : List.lookup f901 K = some ⟨oc901, od901, .func (PySem.W.fnOf "taken_word" "taken_word" (defArgs s901) (defBody s901) (defScope s901) .none kV901 doc901 pm901 an901 cdv901 ct901), osl901⟩) (c901 : PySem.W.codeIn K cdv901 "taken_word" = true) (k901 : PySem.W.keepIn K (.ref f901) = true)
    (a902 : PySem.W.nsIn K mainGlobals "take_sign" = some (some (.ref f902))) (l902 : List.lookup f902 K = some ⟨oc902, od902, .func (PySem.W.fnOf "take_sign" "take_sign" (defArgs s902) (defBody s902) (defScope s902) .none kV902 doc902 pm902 an902 cdv902 ct902), osl902⟩) (c902 : PySem.W.codeIn K cdv902 "take_sign" = true) (k902 : PySem.W.keepIn K (.ref f902) = true)
    (a903 : PySem.W.nsIn K mainGlobals "taken_number" = some (some (.ref f903))) (l903 : List.lookup f903 K = some ⟨oc903, od903, .func (PySem.W.fnOf "taken_number" "taken_number" (defArgs s903) (defBody s903) (defScope s903) .none kV903 doc903 pm903 an903 cdv903 ct903), osl903⟩) (c903 : PySem.W.codeIn K cdv903 "taken_number" = true) (k903 : PySem.W.keepIn K (.ref f903) = true)
    (a904 : PySem.W.nsIn K mainGlobals "parsed_program" = some (some (.ref f904))) (l904 : List.lookup f904 K = some ⟨oc904, od904, .func (PySem.W.fnOf "parsed_program" "parsed_program" (defArgs s904) (defBody s904) (defScope s904) .none kV904 doc904 pm904 an904 cdv904 ct904), osl904⟩) (c904 : PySem.W.codeIn K cdv904 "parsed_program" = true) (k904 : PySem.W.keepIn K (.ref f904) = true)
    (a905 : PySem.W.nsIn K mainGlobals "parsed_hand" = some (some (.ref f905))) (l905 : List.lookup f905 K = some ⟨oc905, od905, .func (PySem.W.fnOf "parsed_hand" "parsed_hand" (defArgs s905) (defBody s905) (defScope s905) .none kV905 doc905 pm905 an905 cdv905 ct905), osl905⟩) (c905 : PySem.W.codeIn K cdv905 "parsed_hand" = true) (k905 : PySem.W.keepIn K (.ref f905) = true)
    (a906 : PySem.W.nsIn K mainGlobals "taken_statements" = some (some (.ref f906))) (l906 : List.lookup f906 K = some ⟨oc906, od906, .func (PySem.W.fnOf "taken_statements" "taken_statements" (defArgs s906) (defBody s906) (defScope s906) .none kV906 doc906 pm906 an906 cdv906 ct906), osl906⟩) (c906 : PySem.W.codeIn K cdv906 "taken_statements" = true) (k906 : PySem.W.keepIn K (.ref f906) = true)
    (a907 : PySem.W.nsIn K mainGlobals "taken_statement" = some (some (.ref f907))) (l907 : List.lookup f907 K = some ⟨oc907, od907, .func (PySem.W.fnOf "taken_statement" "taken_statement" (defArgs s907) (defBody s907) (defScope s907) .none kV907 doc907 pm907 an907 cdv907 ct907), osl907⟩) (c907 : PySem.W.codeIn K cdv907 "taken_statement" = true) (k907 : PySem.W.keepIn K (.ref f907) = true)
    (a908 : PySem.W.nsIn K mainGlobals "taken_block" = some (some (.ref f908))) (l908 : List.lookup f908 K = some ⟨oc908, od908, .func (PySem.W.fnOf "taken_block" "taken_block" (defArgs s908) (defBody s908) (defScope s908) .none kV908 doc908 pm908 an908 cdv908 ct908), osl908⟩) (c908 : PySem.W.codeIn K cdv908 "taken_block" = true) (k908 : PySem.W.keepIn K (.ref f908) = true)
    (a909 : PySem.W.nsIn K mainGlobals "check_text" = some (some (.ref f909))) (l909 : List.lookup f909 K = some ⟨oc909, od909, .func (PySem.W.fnOf "check_text" "check_text" (defArgs s909) (defBody s909) (defScope s909) .none kV909 doc909 pm909 an909 cdv909 ct909), osl909⟩) (c909 : PySem.W.codeIn K cdv909 "check_text" = true) (k909 : PySem.W.keepIn K (.ref f909) = true)
    (a910 : PySem.W.nsIn K mainGlobals "check_shown" = some (some (.ref f910))) (l910 : List.lookup f910 K = some ⟨oc910, od910, .func (PySem.W.fnOf "check_shown" "check_shown" (defArgs s910) (defBody s910) (defScope s910) .none kV910 doc910 pm910 an910 cdv910 ct910), osl910⟩) (c910 : PySem.W.codeIn K cdv910 "check_shown" = true) (k910 : PySem.W.keepIn K (.ref f910) = true)
    (a911 : PySem.W.nsIn K mainGlobals "read_program" = some (some (.ref f911))) (l911 : List.lookup f911 K = some ⟨oc911, od911, .func (PySem.W.fnOf "read_program" "read_program" (defArgs s911) (defBody s911) (defScope s911) .none kV911 doc911 pm911 an911 cdv911 ct911), osl911⟩) (c911 : PySem.W.codeIn K cdv911 "read_program" = true) (k911 : PySem.W.keepIn K (.ref f911) = true)
    (a912 : PySem.W.nsIn K mainGlobals "_law_well" = some (some (.ref f912))) (l912 : List.lookup f912 K = some ⟨oc912, od912, .func (PySem.W.fnOf "_law_well" "_law_well" (defArgs s912) (defBody s912) (defScope s912) .none kV912 doc912 pm912 an912 cdv912 ct912), osl912⟩) (c912 : PySem.W.codeIn K cdv912 "_law_well" = true) (k912 : PySem.W.keepIn K (.ref f912) = true)
    (a913 : PySem.W.nsIn K mainGlobals "_law_dip" = some (some (.ref f913))) (l913 : List.lookup f913 K = some ⟨oc913, od913, .func (PySem.W.fnOf "_law_dip" "_law_dip" (defArgs s913) (defBody s913) (defScope s913) .none kV913 doc913 pm913 an913 cdv913 ct913), osl913⟩) (c913 : PySem.W.codeIn K cdv913 "_law_dip" = true) (k913 : PySem.W.keepIn K (.ref f913) = true)
    (a914 : PySem.W.nsIn K mainGlobals "_law_of" = some (some (.ref f914))) (l914 : List.lookup f914 K = some ⟨oc914, od914, .func (PySem.W.fnOf "_law_of" "_law_of" (defArgs s914) (defBody s914) (defScope s914) .none kV914 doc914 pm914 an914 cdv914 ct914), osl914⟩) (c914 : PySem.W.codeIn K cdv914 "_law_of" = true) (k914 : PySem.W.keepIn K (.ref f914) = true)
    (a915 : PySem.W.nsIn K mainGlobals "_law_word" = some (some (.ref f915))) (l915 : List.lookup f915 K = some ⟨oc915, od915, .func (PySem.W.fnOf "_law_word" "_law_word" (defArgs s915) (defBody s915) (defScope s915) .none kV915 doc915 pm915 an915 cdv915 ct915), osl915⟩) (c915 : PySem.W.codeIn K cdv915 "_law_word" = true) (k915 : PySem.W.keepIn K (.ref f915) = true)
    (a916 : PySem.W.nsIn K mainGlobals "_law_plain" = some (some (.ref f916))) (l916 : List.lookup f916 K = some ⟨oc916, od916, .func (PySem.W.fnOf "_law_plain" "_law_plain" (defArgs s916) (defBody s916) (defScope s916) .none kV916 doc916 pm916 an916 cdv916 ct916), osl916⟩) (c916 : PySem.W.codeIn K cdv916 "_law_plain" = true) (k916 : PySem.W.keepIn K (.ref f916) = true)
    (a917 : PySem.W.nsIn K mainGlobals "_law_any" = some (some (.ref f917))) (l917 : List.lookup f917 K = some ⟨oc917, od917, .func (PySem.W.fnOf "_law_any" "_law_any" (defArgs s917) (defBody s917) (defScope s917) .none kV917 doc917 pm917 an917 cdv917 ct917), osl917⟩) (c917 : PySem.W.codeIn K cdv917 "_law_any" = true) (k917 : PySem.W.keepIn K (.ref f917) = true)
    (a918 : PySem.W.nsIn K mainGlobals "_law_some" = some (some (.ref f918))) (l918 : List.lookup f918 K = some ⟨oc918, od918, .func (PySem.W.fnOf "_law_some" "_law_some" (defArgs s918) (defBody s918) (defScope s918) .none kV918 doc918 pm918 an918 cdv918 ct918), osl918⟩) (c918 : PySem.W.codeIn K cdv918 "_law_some" = true) (k918 : PySem.W.keepIn K (.ref f918) = true)
    (a919 : PySem.W.nsIn K mainGlobals "_law_deep" = some (some (.ref f919))) (l919 : List.lookup f919 K = some ⟨oc919, od919, .func (PySem.W.fnOf "_law_deep" "_law_deep" (defArgs s919) (defBody s919) (defScope s919) .none kV919 doc919 pm919 an919 cdv919 ct919), osl919⟩) (c919 : PySem.W.codeIn K cdv919 "_law_deep" = true) (k919 : PySem.W.keepIn K (.ref f919) = true)
    (a920 : PySem.W.nsIn K mainGlobals "_law_hand" = some (some (.ref f920))) (l920 : List.lookup f920 K = some ⟨oc920, od920, .func (PySem.W.fnOf "_law_hand" "_law_hand" (defArgs s920) (defBody s920) (defScope s920) .none kV920 doc920 pm920 an920 cdv920 ct920), osl920⟩) (c920 : PySem.W.codeIn K cdv920 "_law_hand" = true) (k920 : PySem.W.keepIn K (.ref f920) = true)
    (a921 : PySem.W.nsIn K mainGlobals "_law_program" = some (some (.ref f921))) (l921 : List.lookup f921 K = some ⟨oc921, od921, .func (PySem.W.fnOf "_law_program" "_law_program" (defArgs s921) (defBody s921) (defScope s921) .none kV921 doc921 pm921 an921 cdv921 ct921), osl921⟩) (c921 : PySem.W.codeIn K cdv921 "_law_program" = true) (k921 : PySem.W.keepIn K (.ref f921) = true)
    (a922 : PySem.W.nsIn K mainGlobals "_law_inside" = some (some (.ref f922))) (l922 : List.lookup f922 K = some ⟨oc922, od922, .func (PySem.W.fnOf "_law_inside" "_law_inside" (defArgs s922) (defBody s922) (defScope s922) .none kV922 doc922 pm922 an922 cdv922 ct922), osl922⟩) (c922 : PySem.W.codeIn K cdv922 "_law_inside" = true) (k922 : PySem.W.keepIn K (.ref f922) = true)
    (a923 : PySem.W.nsIn K mainGlobals "_law_line" = some (some (.ref f923))) (l923 : List.lookup f923 K = some ⟨oc923, od923, .func (PySem.W.fnOf "_law_line" "_law_line" (defArgs s923) (defBody s923) (defScope s923) .none kV923 doc923 pm923 an923 cdv923 ct923), osl923⟩) (c923 : PySem.W.codeIn K cdv923 "_law_line" = true) (k923 : PySem.W.keepIn K (.ref f923) = true)
    (a924 : PySem.W.nsIn K mainGlobals "_law_text" = some (some (.ref f924))) (l924 : List.lookup f924 K = some ⟨oc924, od924, .func (PySem.W.fnOf "_law_text" "_law_text" (defArgs s924) (defBody s924) (defScope s924) .none kV924 doc924 pm924 an924 cdv924 ct924), osl924⟩) (c924 : PySem.W.codeIn K cdv924 "_law_text" = true) (k924 : PySem.W.keepIn K (.ref f924) = true)
    (a925 : PySem.W.nsIn K mainGlobals "_law_measure" = some (some (.ref f925))) (l925 : List.lookup f925 K = some ⟨oc925, od925, .func (PySem.W.fnOf "_law_measure" "_law_measure" (defArgs s925) (defBody s925) (defScope s925) .none kV925 doc925 pm925 an925 cdv925 ct925), osl925⟩) (c925 : PySem.W.codeIn K cdv925 "_law_measure" = true) (k925 : PySem.W.keepIn K (.ref f925) = true)
    (a926 : PySem.W.nsIn K mainGlobals "_law_may_pass" = some (some (.ref f926))) (l926 : List.lookup f926 K = some ⟨oc926, od926, .func (PySem.W.fnOf "_law_may_pass" "_law_may_pass" (defArgs s926) (defBody s926) (defScope s926) .none kV926 doc926 pm926 an926 cdv926 ct926), osl926⟩) (c926 : PySem.W.codeIn K cdv926 "_law_may_pass" = true) (k926 : PySem.W.keepIn K (.ref f926) = true)
    (a927 : PySem.W.nsIn K mainGlobals "_law_right" = some (some (.ref f927))) (l927 : List.lookup f927 K = some ⟨oc927, od927, .func (PySem.W.fnOf "_law_right" "_law_right" (defArgs s927) (defBody s927) (defScope s927) .none kV927 doc927 pm927 an927 cdv927 ct927), osl927⟩) (c927 : PySem.W.codeIn K cdv927 "_law_right" = true) (k927 : PySem.W.keepIn K (.ref f927) = true)
    (a928 : PySem.W.nsIn K mainGlobals "law" = some (some (.ref f928))) (l928 : List.lookup f928 K = some ⟨oc928, od928, .func (PySem.W.fnOf "law" "law" (defArgs s928) (defBody s928) (defScope s928) .none kV928 doc928 pm928 an928 cdv928 ct928), osl928⟩) (c928 : PySem.W.codeIn K cdv928 "law" = true) (k928 : PySem.W.keepIn K (.ref f928) = true)
    {C929 f929 : Addr} {oc929 : Value} {od929 an929 : Option Addr} {osl929 : Array (Option Value)} {kV929 doc929 pm929 cdv929 ct929 : Value}
    (a929 : PySem.W.nsIn K mainGlobals "Reader" = some (some (.ref C929))) (mi929 : PySem.W.findIn K (.ref C929) "__init__" = some (some (.ref f929))) (l929 : List.lookup f929 K = some ⟨oc929, od929, .func (PySem.W.fnOf "__init__" "Reader.__init__" (defArgs s929) (defBody s929) (defScope s929) .none kV929 doc929 pm929 an929 cdv929 ct929), osl929⟩) (c929 : PySem.W.codeIn K cdv929 "Reader.__init__" = true) (k929 : PySem.W.keepIn K (.ref f929) = true)
    (mm929 : PySem.W.makesIn K C929 = true) (mf929 : PySem.W.isFn K (.ref f929) = true) (mk929 : PySem.W.keepIn K (.ref C929) = true) (pg929 : PySem.W.plainGet K C929 Str.empty = true) (hd929 : PySem.W.hasDictIn K C929 = true) (po929 : PySem.W.plainOver K C929 = true) (sa929 : PySem.W.findIn K (.ref C929) "__setattr__" = some (some (.builtin "object.__setattr__")))
    (na929_0 : PySem.W.findIn K (.ref C929) "text" = some none)
    (na929_1 : PySem.W.findIn K (.ref C929) "words" = some none)
    (na929_2 : PySem.W.findIn K (.ref C929) "at" = some none)
    {ad6 : Addr} {es6 : Array DictEntry} {ep6 : Nat} (da6 : PySem.W.nsIn K mainGlobals "FORMS" = some (some (.ref ad6))) (dl6 : List.lookup ad6 K = some { cls := .type "dict", data := .dict es6 ep6 }) (lit6 : PySem.W.KeysLit w.params es6.toList) (low6 : (ad6 == sysModules) = false) (dm6 : DMatch K es6.toList (kdK71 6))
    {ad7 : Addr} {es7 : Array DictEntry} {ep7 : Nat} (da7 : PySem.W.nsIn K mainGlobals "MODES" = some (some (.ref ad7))) (dl7 : List.lookup ad7 K = some { cls := .type "dict", data := .dict es7 ep7 }) (lit7 : PySem.W.KeysLit w.params es7.toList) (low7 : (ad7 == sysModules) = false) (dm7 : DMatch K es7.toList (kdK71 7))
    {kc2 : Value} (ca2 : PySem.W.nsIn K mainGlobals "DIGITS" = some (some kc2)) (cr2 : RelV (V.str "0123456789") kc2)
    (z0 : PySem.W.nsIn K mainGlobals "str" = some none)
    (z1 : PySem.W.nsIn K mainGlobals "len" = some none)
    (z2 : PySem.W.nsIn K mainGlobals "isinstance" = some none)
    (z3 : PySem.W.nsIn K mainGlobals "int" = some none)
    (z4 : PySem.W.nsIn K mainGlobals "bool" = some none)
    (z5 : PySem.W.nsIn K mainGlobals "list" = some none)
    (z6 : PySem.W.nsIn K mainGlobals "tuple" = some none)
    (z7 : PySem.W.nsIn K mainGlobals "all" = some none)
    (z8 : PySem.W.nsIn K mainGlobals "zip" = some none)
    (z9 : PySem.W.nsIn K mainGlobals "sum" = some none)
    (z10 : PySem.W.nsIn K mainGlobals "enumerate" = some none)
    (z11 : PySem.W.nsIn K mainGlobals "max" = some none)
    (z12 : PySem.W.nsIn K mainGlobals "abs" = some none)
    (z13 : PySem.W.nsIn K mainGlobals "range" = some none)
    (z14 : PySem.W.nsIn K mainGlobals "min" = some none)
    (z15 : PySem.W.nsIn K mainGlobals "repr" = some none)
    : ∃ fd : FuncData, (∀ (s : Shared) (u : Value), BindsTo s fd ⟨[u], []⟩ [(("script" : Str), u)]) ∧ ∀ (W k : Nat) (base : Heap), K.In base → base.Ns mainGlobals mg → FnG l.prog w K mg base k fa fd ["script"] (spR K 1 (run prK71 W k 928)) := by
  have e := hfa.symm.trans (PySem.W.mg_of X Gm a928)
  cases e
  have T : Stands K mg w prK71 G 60 := by
    refine ⟨fun x f ps hl => ?_, fun x g hl => ?_, fun x g hl => ?_, fun x hx => ?_, fun x a hx => PySem.W.mg_of X Gm hx, fun x i hx => ?_, fun x f ps fl hl => ?_, fun e he C hC => ?_⟩
    · refine (show ∀ e ∈ G.funs, FnHere K mg prK71 G 60 e from ?_) _ (Tm.mem_of_lookup hl)
      exact List.forall_mem_cons.2 ⟨here888 X Gm a888 l888 c888 k888, List.forall_mem_cons.2 ⟨here889 X Gm a889 l889 c889 k889, List.forall_mem_cons.2 ⟨here890 X Gm a890 l890 c890 k890, List.forall_mem_cons.2 ⟨here891 X Gm a891 l891 c891 k891, List.forall_mem_cons.2 ⟨here892 X Gm a892 l892 c892 k892, List.forall_mem_cons.2 ⟨here15 X Gm a15 l15 c15 k15, List.forall_mem_cons.2 ⟨here16 X Gm a16 l16 c16 k16, List.forall_mem_cons.2 ⟨here17 X Gm a17 l17 c17 k17, List.forall_mem_cons.2 ⟨here129 X Gm a129 l129 c129 k129, List.forall_mem_cons.2 ⟨here40 X Gm a40 l40 c40 k40, List.forall_mem_cons.2 ⟨here893 X Gm a893 l893 c893 k893, List.forall_mem_cons.2 ⟨here894 X Gm a894 l894 c894 k894, List.forall_mem_cons.2 ⟨here895 X Gm a895 l895 c895 k895, List.forall_mem_cons.2 ⟨here896 X Gm a896 l896 c896 k896, List.forall_mem_cons.2 ⟨here897 X Gm a897 l897 c897 k897, List.forall_mem_cons.2 ⟨here898 X Gm a898 l898 c898 k898, List.forall_mem_cons.2 ⟨here899 X Gm a899 l899 c899 k899, List.forall_mem_cons.2 ⟨here900 X Gm a900 l900 c900 k900, List.forall_mem_cons.2 ⟨here901 X Gm a901 l901 c901 k901, List.forall_mem_cons.2 ⟨here902 X Gm a902 l902 c902 k902, List.forall_mem_cons.2 ⟨here903 X Gm a903 l903 c903 k903, List.forall_mem_cons.2 ⟨here904 X Gm a904 l904 c904 k904, List.forall_mem_cons.2 ⟨here905 X Gm a905 l905 c905 k905, List.forall_mem_cons.2 ⟨here906 X Gm a906 l906 c906 k906, List.forall_mem_cons.2 ⟨here907 X Gm a907 l907 c907 k907, List.forall_mem_cons.2 ⟨here908 X Gm a908 l908 c908 k908, List.forall_mem_cons.2 ⟨here909 X Gm a909 l909 c909 k909, List.forall_mem_cons.2 ⟨here910 X Gm a910 l910 c910 k910, List.forall_mem_cons.2 ⟨here911 X Gm a911 l911 c911 k911, List.forall_mem_cons.2 ⟨here912 X Gm a912 l912 c912 k912, List.forall_mem_cons.2 ⟨here913 X Gm a913 l913 c913 k913, List.forall_mem_cons.2 ⟨here914 X Gm a914 l914 c914 k914, List.forall_mem_cons.2 ⟨here915 X Gm a915 l915 c915 k915, List.forall_mem_cons.2 ⟨here916 X Gm a916 l916 c916 k916, List.forall_mem_cons.2 ⟨here917 X Gm a917 l917 c917 k917, List.forall_mem_cons.2 ⟨here918 X Gm a918 l918 c918 k918, List.forall_mem_cons.2 ⟨here919 X Gm a919 l919 c919 k919, List.forall_mem_cons.2 ⟨here920 X Gm a920 l920 c920 k920, List.forall_mem_cons.2 ⟨here921 X Gm a921 l921 c921 k921, List.forall_mem_cons.2 ⟨here922 X Gm a922 l922 c922 k922, List.forall_mem_cons.2 ⟨here923 X Gm a923 l923 c923 k923, List.forall_mem_cons.2 ⟨here924 X Gm a924 l924 c924 k924, List.forall_mem_cons.2 ⟨here925 X Gm a925 l925 c925 k925, List.forall_mem_cons.2 ⟨here926 X Gm a926 l926 c926 k926, List.forall_mem_cons.2 ⟨here927 X Gm a927 l927 c927 k927, List.forall_mem_cons.2 ⟨here928 X Gm a928 l928 c928 k928, (fun _ hn => absurd hn List.not_mem_nil)⟩⟩⟩⟩⟩⟩⟩⟩⟩⟩⟩⟩⟩⟩⟩⟩⟩⟩⟩⟩⟩⟩⟩⟩⟩⟩⟩⟩⟩⟩⟩⟩⟩⟩⟩⟩⟩⟩⟩⟩⟩⟩⟩⟩⟩⟩
    · have hm := Tm.mem_of_lookup hl
      simp only [G, List.mem_cons, List.not_mem_nil, or_false, Prod.mk.injEq] at hm
      obtain ⟨rfl, rfl⟩ := hm
      exact ⟨_, .str "0123456789", PySem.W.mg_of X Gm ca2, cr2, fun _ _ => .str _⟩
    · have hm := Tm.mem_of_lookup hl
      simp only [G, List.mem_cons, List.not_mem_nil, or_false, Prod.mk.injEq] at hm
      rcases hm with ⟨rfl, rfl⟩ | ⟨rfl, rfl⟩
      · exact dict_here X Gm da6 dl6 lit6 low6 dm6
      · exact dict_here X Gm da7 dl7 lit7 low7 dm7
    · have hm : x ∈ G.blt := by simpa using hx
      simp only [G, List.mem_cons, List.not_mem_nil, or_false] at hm
      rcases hm with rfl | rfl | rfl | rfl | rfl | rfl | rfl | rfl | rfl | rfl | rfl | rfl | rfl | rfl | rfl | rfl
      · exact PySem.W.mg_none_of X Gm z0
      · exact PySem.W.mg_none_of X Gm z1
      · exact PySem.W.mg_none_of X Gm z2
      · exact PySem.W.mg_none_of X Gm z3
      · exact PySem.W.mg_none_of X Gm z4
      · exact PySem.W.mg_none_of X Gm z5
      · exact PySem.W.mg_none_of X Gm z6
      · exact PySem.W.mg_none_of X Gm z7
      · exact PySem.W.mg_none_of X Gm z8
      · exact PySem.W.mg_none_of X Gm z9
      · exact PySem.W.mg_none_of X Gm z10
      · exact PySem.W.mg_none_of X Gm z11
      · exact PySem.W.mg_none_of X Gm z12
      · exact PySem.W.mg_none_of X Gm z13
      · exact PySem.W.mg_none_of X Gm z14
      · exact PySem.W.mg_none_of X Gm z15
    · cases hx
    · refine (show ∀ e ∈ G.clss, ClsHere K mg prK71 G 60 e from ?_) _ (Tm.mem_of_lookup hl)
      exact List.forall_mem_cons.2 ⟨here929 X Gm a929 ⟨mm929, mi929, mf929, mk929⟩ l929 c929 k929, (fun _ hn => absurd hn List.not_mem_nil)⟩
    · refine (show ∀ e ∈ G.clss, ∀ C, PySem.W.nsIn K mainGlobals e.1 = some (some (.ref C)) → Cls K C ∧ ∀ f ∈ e.2.2.2, NoAttr K C f from ?_) e he C hC
      exact List.forall_mem_cons.2 ⟨fun C hC => by (have e := a929.symm.trans hC; cases e; exact ⟨⟨pg929, hd929, po929, sa929⟩, List.forall_mem_cons.2 ⟨na929_0, List.forall_mem_cons.2 ⟨na929_1, List.forall_mem_cons.2 ⟨na929_2, (fun _ hn => absurd hn List.not_mem_nil)⟩⟩⟩⟩), (fun _ hn => absurd hn List.not_mem_nil)⟩
  exact ⟨_, fun s v => .of_eq rfl, fun W k base _ _ => law_fng T (fun_mk (st := s928) l928 c928 k928) sc928 (by rw [bq928]; rfl) W k⟩
end K71

open PySem PySem.W PyProof.Rows in
set_option maxRecDepth 100000 in
set_option maxHeartbeats 0 in
theorem PySem.Challenge.cw_touchroad_k71_programs_written_and_read_holds : PySem.Challenge.rw_touchroad_k71_programs_written_and_read.Holds := by
  w_on; o_law; k_head; (case hw => w_witness2)
  k_fill
  refine Tm.walk_M (l := PySem.Challenge.rw_touchroad_k71_programs_written_and_read) (q := Tm.prK71) (f := 928) rfl rfl (fun w h Y => PySem.W.kIn_of Y) ?F (fun ns h => Tm.law_run ns h)
  case F =>
    intro w mg fa h KX G hmg
    refine' K71.all_mk KX G hmg ?a888 ?l888 ?c888 ?k888 ?a889 ?l889 ?c889 ?k889 ?a890 ?l890 ?c890 ?k890 ?a891 ?l891 ?c891 ?k891 ?a892 ?l892 ?c892 ?k892 ?a15 ?l15 ?c15 ?k15 ?a16 ?l16 ?c16 ?k16 ?a17 ?l17 ?c17 ?k17 ?a129 ?l129 ?c129 ?k129 ?a40 ?l40 ?c40 ?k40 ?a893 ?l893 ?c893 ?k893 ?a894 ?l894 ?c894 ?k894 ?a895 ?l895 ?c895 ?k895 ?a896 ?l896 ?c896 ?k896 ?a897 ?l897 ?c897 ?k897 ?a898 ?l898 ?c898 ?k898 ?a899 ?l899 ?c899 ?k899 ?a900 ?l900 ?c900 ?k900 ?a901 ?l901 ?c901 ?k901 ?a902 ?l902 ?c902 ?k902 ?a903 ?l903 ?c903 ?k903 ?a904 ?l904 ?c904 ?k904 ?a905 ?l905 ?c905 ?k905 ?a906 ?l906 ?c906 ?k906 ?a907 ?l907 ?c907 ?k907 ?a908 ?l908 ?c908 ?k908 ?a909 ?l909 ?c909 ?k909 ?a910 ?l910 ?c910 ?k910 ?a911 ?l911 ?c911 ?k911 ?a912 ?l912 ?c912 ?k912 ?a913 ?l913 ?c913 ?k913 ?a914 ?l914 ?c914 ?k914 ?a915 ?l915 ?c915 ?k915 ?a916 ?l916 ?c916 ?k916 ?a917 ?l917 ?c917 ?k917 ?a918 ?l918 ?c918 ?k918 ?a919 ?l919 ?c919 ?k919 ?a920 ?l920 ?c920 ?k920 ?a921 ?l921 ?c921 ?k921 ?a922 ?l922 ?c922 ?k922 ?a923 ?l923 ?c923 ?k923 ?a924 ?l924 ?c924 ?k924 ?a925 ?l925 ?c925 ?k925 ?a926 ?l926 ?c926 ?k926 ?a927 ?l927 ?c927 ?k927 ?a928 ?l928 ?c928 ?k928 ?a929 ?mi929 ?l929 ?c929 ?k929 ?mm929 ?mf929 ?mk929 ?pg929 ?hd929 ?po929 ?sa929 ?na929_0 ?na929_1 ?na929_2 ?da6 ?dl6 ?lit6 ?low6 ?dm6 ?da7 ?dl7 ?lit7 ?low7 ?dm7 ?ca2 ?cr2 ?z0 ?z1 ?z2 ?z3 ?z4 ?z5 ?z6 ?z7 ?z8 ?z9 ?z10 ?z11 ?z12 ?z13 ?z14 ?z15
    (case a888 => k_is)
    (case l888 => k_is)
    (case c888 => k_is)
    (case k888 => k_is)
    (case a889 => k_is)
    (case l889 => k_is)
    (case c889 => k_is)
    (case k889 => k_is)
    (case a890 => k_is)
    (case l890 => k_is)
    (case c890 => k_is)
    (case k890 => k_is)
    (case a891 => k_is)
    (case l891 => k_is)
    (case c891 => k_is)
    (case k891 => k_is)
    (case a892 => k_is)
    (case l892 => k_is)
    (case c892 => k_is)
    (case k892 => k_is)
    (case a15 => k_is)
    (case l15 => k_is)
    (case c15 => k_is)
    (case k15 => k_is)
    (case a16 => k_is)
    (case l16 => k_is)
    (case c16 => k_is)
    (case k16 => k_is)
    (case a17 => k_is)
    (case l17 => k_is)
    (case c17 => k_is)
    (case k17 => k_is)
    (case a129 => k_is)
    (case l129 => k_is)
    (case c129 => k_is)
    (case k129 => k_is)
    (case a40 => k_is)
    (case l40 => k_is)
    (case c40 => k_is)
    (case k40 => k_is)
    (case a893 => k_is)
    (case l893 => k_is)
    (case c893 => k_is)
    (case k893 => k_is)
    (case a894 => k_is)
    (case l894 => k_is)
    (case c894 => k_is)
    (case k894 => k_is)
    (case a895 => k_is)
    (case l895 => k_is)
    (case c895 => k_is)
    (case k895 => k_is)
    (case a896 => k_is)
    (case l896 => k_is)
    (case c896 => k_is)
    (case k896 => k_is)
    (case a897 => k_is)
    (case l897 => k_is)
    (case c897 => k_is)
    (case k897 => k_is)
    (case a898 => k_is)
    (case l898 => k_is)
    (case c898 => k_is)
    (case k898 => k_is)
    (case a899 => k_is)
    (case l899 => k_is)
    (case c899 => k_is)
    (case k899 => k_is)
    (case a900 => k_is)
    (case l900 => k_is)
    (case c900 => k_is)
    (case k900 => k_is)
    (case a901 => k_is)
    (case l901 => k_is)
    (case c901 => k_is)
    (case k901 => k_is)
    (case a902 => k_is)
    (case l902 => k_is)
    (case c902 => k_is)
    (case k902 => k_is)
    (case a903 => k_is)
    (case l903 => k_is)
    (case c903 => k_is)
    (case k903 => k_is)
    (case a904 => k_is)
    (case l904 => k_is)
    (case c904 => k_is)
    (case k904 => k_is)
    (case a905 => k_is)
    (case l905 => k_is)
    (case c905 => k_is)
    (case k905 => k_is)
    (case a906 => k_is)
    (case l906 => k_is)
    (case c906 => k_is)
    (case k906 => k_is)
    (case a907 => k_is)
    (case l907 => k_is)
    (case c907 => k_is)
    (case k907 => k_is)
    (case a908 => k_is)
    (case l908 => k_is)
    (case c908 => k_is)
    (case k908 => k_is)
    (case a909 => k_is)
    (case l909 => k_is)
    (case c909 => k_is)
    (case k909 => k_is)
    (case a910 => k_is)
    (case l910 => k_is)
    (case c910 => k_is)
    (case k910 => k_is)
    (case a911 => k_is)
    (case l911 => k_is)
    (case c911 => k_is)
    (case k911 => k_is)
    (case a912 => k_is)
    (case l912 => k_is)
    (case c912 => k_is)
    (case k912 => k_is)
    (case a913 => k_is)
    (case l913 => k_is)
    (case c913 => k_is)
    (case k913 => k_is)
    (case a914 => k_is)
    (case l914 => k_is)
    (case c914 => k_is)
    (case k914 => k_is)
    (case a915 => k_is)
    (case l915 => k_is)
    (case c915 => k_is)
    (case k915 => k_is)
    (case a916 => k_is)
    (case l916 => k_is)
    (case c916 => k_is)
    (case k916 => k_is)
    (case a917 => k_is)
    (case l917 => k_is)
    (case c917 => k_is)
    (case k917 => k_is)
    (case a918 => k_is)
    (case l918 => k_is)
    (case c918 => k_is)
    (case k918 => k_is)
    (case a919 => k_is)
    (case l919 => k_is)
    (case c919 => k_is)
    (case k919 => k_is)
    (case a920 => k_is)
    (case l920 => k_is)
    (case c920 => k_is)
    (case k920 => k_is)
    (case a921 => k_is)
    (case l921 => k_is)
    (case c921 => k_is)
    (case k921 => k_is)
    (case a922 => k_is)
    (case l922 => k_is)
    (case c922 => k_is)
    (case k922 => k_is)
    (case a923 => k_is)
    (case l923 => k_is)
    (case c923 => k_is)
    (case k923 => k_is)
    (case a924 => k_is)
    (case l924 => k_is)
    (case c924 => k_is)
    (case k924 => k_is)
    (case a925 => k_is)
    (case l925 => k_is)
    (case c925 => k_is)
    (case k925 => k_is)
    (case a926 => k_is)
    (case l926 => k_is)
    (case c926 => k_is)
    (case k926 => k_is)
    (case a927 => k_is)
    (case l927 => k_is)
    (case c927 => k_is)
    (case k927 => k_is)
    (case a928 => k_is)
    (case l928 => k_is)
    (case c928 => k_is)
    (case k928 => k_is)
    (case a929 => k_is)
    (case mi929 => k_is)
    (case l929 => k_is)
    (case c929 => k_is)
    (case k929 => k_is)
    (case mm929 => k_is)
    (case mf929 => k_is)
    (case mk929 => k_is)
    (case pg929 => k_is)
    (case hd929 => k_is)
    (case po929 => k_is)
    (case sa929 => k_is)
    (case na929_0 => k_is)
    (case na929_1 => k_is)
    (case na929_2 => k_is)
    (case da6 => k_is)
    (case dl6 => k_is)
    (case lit6 => exact He.keysLit_of (ks := ["set", "add", "sub", "and", "xor", "below", "get", "put", "swap", "addto", "await", "whole"]) rfl)
    (case low6 => rfl)
    (case dm6 =>
      refine' .cons (tok := none) ⟨_, rfl⟩ (v := L2.V.str "vw") ⟨_, rfl⟩ (fun _ _ => Tm.Rep.str "vw") (.cons (tok := none) ⟨_, rfl⟩ (v := L2.V.str "vvv") ⟨_, rfl⟩ (fun _ _ => Tm.Rep.str "vvv") (.cons (tok := none) ⟨_, rfl⟩ (v := L2.V.str "vvv") ⟨_, rfl⟩ (fun _ _ => Tm.Rep.str "vvv") (.cons (tok := none) ⟨_, rfl⟩ (v := L2.V.str "vvv") ⟨_, rfl⟩ (fun _ _ => Tm.Rep.str "vvv") (.cons (tok := none) ⟨_, rfl⟩ (v := L2.V.str "vvv") ⟨_, rfl⟩ (fun _ _ => Tm.Rep.str "vvv") (.cons (tok := none) ⟨_, rfl⟩ (v := L2.V.str "vvv") ⟨_, rfl⟩ (fun _ _ => Tm.Rep.str "vvv") (.cons (tok := none) ⟨_, rfl⟩ (v := L2.V.str "vvwm") ⟨_, rfl⟩ (fun _ _ => Tm.Rep.str "vvwm") (.cons (tok := none) ⟨_, rfl⟩ (v := L2.V.str "vvwm") ⟨_, rfl⟩ (fun _ _ => Tm.Rep.str "vvwm") (.cons (tok := none) ⟨_, rfl⟩ (v := L2.V.str "vvvwm") ⟨_, rfl⟩ (fun _ _ => Tm.Rep.str "vvvwm") (.cons (tok := none) ⟨_, rfl⟩ (v := L2.V.str "vvvwm") ⟨_, rfl⟩ (fun _ _ => Tm.Rep.str "vvvwm") (.cons (tok := none) ⟨_, rfl⟩ (v := L2.V.str "vvwm") ⟨_, rfl⟩ (fun _ _ => Tm.Rep.str "vvwm") (.cons (tok := none) ⟨_, rfl⟩ (v := L2.V.str "") ⟨_, rfl⟩ (fun _ _ => Tm.Rep.str "") (.nil)))))))))))))
    (case da7 => k_is)
    (case dl7 => k_is)
    (case lit7 => exact He.keysLit_of (ks := ["get", "put", "swap", "addto", "await"]) rfl)
    (case low7 => rfl)
    (case dm7 =>
      refine' .cons (tok := none) ⟨_, rfl⟩ (v := L2.V.ref _) rfl (Tm.tup_here (xs := [L2.V.str "loose", L2.V.str "take"]) ?tdm7_0 ?tdm7_0c ?tdm7_0s ?tdm7_0v (fun _ _ => (.cons (Tm.Rep.str "loose") (.cons (Tm.Rep.str "take") .nil)))) (.cons (tok := none) ⟨_, rfl⟩ (v := L2.V.ref _) rfl (Tm.tup_here (xs := [L2.V.str "loose", L2.V.str "give"]) ?tdm7_1 ?tdm7_1c ?tdm7_1s ?tdm7_1v (fun _ _ => (.cons (Tm.Rep.str "loose") (.cons (Tm.Rep.str "give") .nil)))) (.cons (tok := none) ⟨_, rfl⟩ (v := L2.V.ref _) rfl (Tm.tup_here (xs := [L2.V.str "loose", L2.V.str "take", L2.V.str "give", L2.V.str "both"]) ?tdm7_2 ?tdm7_2c ?tdm7_2s ?tdm7_2v (fun _ _ => (.cons (Tm.Rep.str "loose") (.cons (Tm.Rep.str "take") (.cons (Tm.Rep.str "give") (.cons (Tm.Rep.str "both") .nil)))))) (.cons (tok := none) ⟨_, rfl⟩ (v := L2.V.ref _) rfl (Tm.tup_here (xs := [L2.V.str "loose", L2.V.str "take", L2.V.str "give", L2.V.str "both"]) ?tdm7_3 ?tdm7_3c ?tdm7_3s ?tdm7_3v (fun _ _ => (.cons (Tm.Rep.str "loose") (.cons (Tm.Rep.str "take") (.cons (Tm.Rep.str "give") (.cons (Tm.Rep.str "both") .nil)))))) (.cons (tok := none) ⟨_, rfl⟩ (v := L2.V.ref _) rfl (Tm.tup_here (xs := [L2.V.str "loose", L2.V.str "take"]) ?tdm7_4 ?tdm7_4c ?tdm7_4s ?tdm7_4v (fun _ _ => (.cons (Tm.Rep.str "loose") (.cons (Tm.Rep.str "take") .nil)))) (.nil)))))
      (case tdm7_0 => k_is)
      (case tdm7_0c => rfl)
      (case tdm7_0s => exact Nat.le_of_ble_eq_true rfl)
      (case tdm7_0v => exact (.cons ⟨_, rfl⟩ (.cons ⟨_, rfl⟩ .nil)))
      (case tdm7_1 => k_is)
      (case tdm7_1c => rfl)
      (case tdm7_1s => exact Nat.le_of_ble_eq_true rfl)
      (case tdm7_1v => exact (.cons ⟨_, rfl⟩ (.cons ⟨_, rfl⟩ .nil)))
      (case tdm7_2 => k_is)
      (case tdm7_2c => rfl)
      (case tdm7_2s => exact Nat.le_of_ble_eq_true rfl)
      (case tdm7_2v => exact (.cons ⟨_, rfl⟩ (.cons ⟨_, rfl⟩ (.cons ⟨_, rfl⟩ (.cons ⟨_, rfl⟩ .nil)))))
      (case tdm7_3 => k_is)
      (case tdm7_3c => rfl)
      (case tdm7_3s => exact Nat.le_of_ble_eq_true rfl)
      (case tdm7_3v => exact (.cons ⟨_, rfl⟩ (.cons ⟨_, rfl⟩ (.cons ⟨_, rfl⟩ (.cons ⟨_, rfl⟩ .nil)))))
      (case tdm7_4 => k_is)
      (case tdm7_4c => rfl)
      (case tdm7_4s => exact Nat.le_of_ble_eq_true rfl)
      (case tdm7_4v => exact (.cons ⟨_, rfl⟩ (.cons ⟨_, rfl⟩ .nil))))
    (case ca2 => k_is)
    (case cr2 => exact ⟨_, rfl⟩)
    (case z0 => k_is)
    (case z1 => k_is)
    (case z2 => k_is)
    (case z3 => k_is)
    (case z4 => k_is)
    (case z5 => k_is)
    (case z6 => k_is)
    (case z7 => k_is)
    (case z8 => k_is)
    (case z9 => k_is)
    (case z10 => k_is)
    (case z11 => k_is)
    (case z12 => k_is)
    (case z13 => k_is)
    (case z14 => k_is)
    (case z15 => k_is)
