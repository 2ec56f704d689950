import PyProof.Rows.All
import Wide.All
import OpenK.AllK
import Wide.FinOn
import HandS.ForMost
import HandS.Conv
import HandS.Wide
import HandS.WideMore
import HandS.TupAny
import HandS.TupMul
import HandS.Deep
import HandS.Style
import HandS.IsInst
import HandS.RaiseMore
import HandS.Defaults
import HandS.More
import HandS.Dict
import HandS.Rev
import HandS.Zip
import HandS.TryOnly
import HandS.Text
import KE.GoesZip
import KE.GoesMore
import HandS.MapObj
import HandS.Iter
import HandS.Steps
import HandS.HeadHook3
import PySem.Challenge.RW_touchroad_k03_sources_assembled
set_option Elab.async false
set_option linter.all false
set_option maxRecDepth 100000
namespace Tm
open PySem PySem.Spec PyProof.Rows L2

/-! ## values, the store -/
inductive D where
  | non | bl (b : Bool) | int (i : Int) | str (x : Str) | tup (ds : List D) | ref (n : Nat) | fn (x : Str)
inductive O where
  | lst (xs : List D) | ro (xs : List D) | dct (kvs : List (Key × D)) | ins (c : Str) (fs : List (Str × D))
def O.mut : O → Bool
  | .ro _ => false
  | _ => true
abbrev Store := List O
abbrev Env' := List (Option D)

mutual
def D.beq : D → D → Bool
  | .non, .non => true
  | .bl a, .bl b => a == b
  | .int i, .int j => decide (i = j)
  | .str x, .str y => decide (x = y)
  | .tup xs, .tup ys => D.beqs xs ys
  | .ref m, .ref n => Nat.beq m n
  | .fn x, .fn y => decide (x = y)
  | .non, .bl _ | .non, .int _ | .non, .str _ | .non, .tup _ | .non, .ref _ => false
  | .bl _, .non | .bl _, .int _ | .bl _, .str _ | .bl _, .tup _ | .bl _, .ref _ => false
  | .int _, .non | .int _, .bl _ | .int _, .str _ | .int _, .tup _ | .int _, .ref _ => false
  | .str _, .non | .str _, .bl _ | .str _, .int _ | .str _, .tup _ | .str _, .ref _ => false
  | .tup _, .non | .tup _, .bl _ | .tup _, .int _ | .tup _, .str _ | .tup _, .ref _ => false
  | .ref _, .non | .ref _, .bl _ | .ref _, .int _ | .ref _, .str _ | .ref _, .tup _ => false
  | .fn _, .non | .fn _, .bl _ | .fn _, .int _ | .fn _, .str _ | .fn _, .tup _ | .fn _, .ref _ => false
  | .non, .fn _ | .bl _, .fn _ | .int _, .fn _ | .str _, .fn _ | .tup _, .fn _ | .ref _, .fn _ => false
def D.beqs : List D → List D → Bool
  | [], [] => true
  | x :: xs, y :: ys => D.beq x y && D.beqs xs ys
  | [], _ :: _ | _ :: _, [] => false
end
mutual
theorem D.beq_eq : ∀ a b : D, D.beq a b = true → a = b
  | .non, b, h => by cases b <;> simp [D.beq] at h <;> rfl
  | .bl a, b, h => by cases b <;> simp [D.beq] at h; rw [h]
  | .int i, b, h => by cases b <;> simp [D.beq] at h; rw [h]
  | .str i, b, h => by cases b <;> simp [D.beq] at h; rw [h]
  | .tup xs, b, h => by cases b <;> simp [D.beq] at h; rw [D.beqs_eq _ _ h]
  | .ref n, b, h => by cases b <;> simp [D.beq] at h; rw [h]
  | .fn n, b, h => by cases b <;> simp [D.beq] at h; rw [h]
theorem D.beqs_eq : ∀ a b : List D, D.beqs a b = true → a = b
  | [], [], _ => rfl
  | x :: xs, y :: ys, h => by
    simp only [D.beqs, Bool.and_eq_true] at h
    rw [D.beq_eq x y h.1, D.beqs_eq xs ys h.2]
  | [], _ :: _, h => by simp [D.beqs] at h
  | _ :: _, [], h => by simp [D.beqs] at h
end
mutual
theorem D.beq_refl : ∀ a : D, D.beq a a = true
  | .non => rfl
  | .bl a => by simp [D.beq]
  | .int i => by simp [D.beq]
  | .str i => by simp [D.beq]
  | .tup xs => by simp only [D.beq]; exact D.beqs_refl xs
  | .ref n => by simp [D.beq]
  | .fn n => by simp [D.beq]
theorem D.beqs_refl : ∀ a : List D, D.beqs a a = true
  | [] => rfl
  | x :: xs => by simp only [D.beqs, Bool.and_eq_true]; exact ⟨D.beq_refl x, D.beqs_refl xs⟩
end

/-- the data of a value, through the lists of the store to a depth -/
def listAt (S : Store) (n : Nat) : Option (List D) :=
  match S[n]? with
  | some (.lst xs) => some xs
  | some (.ro xs) => some xs
  | _ => none
/-- the entries of a dict of the store -/
def dctAt (S : Store) (n : Nat) : Option (List (Key × D)) :=
  match S[n]? with
  | some (.dct kvs) => some kvs
  | _ => none
/-- an instance of the store: its class, its fields -/
def insAt (S : Store) (n : Nat) : Option (Str × List (Str × D)) :=
  match S[n]? with
  | some (.ins c fs) => some (c, fs)
  | _ => none
def mapO {α β : Type} (f : α → Option β) : List α → Option (List β)
  | [] => some []
  | x :: xs => (f x).bind fun y => (mapO f xs).map fun ys => y :: ys
mutual
def pdG (g : Nat → Option PyData) : D → Option PyData
  | .non => some .none
  | .bl b => some (.bool b)
  | .int i => some (.int i)
  | .str x => some (.str x)
  | .tup ds => (pdsG g ds).map .tuple
  | .ref n => g n
  | .fn _ => none
def pdsG (g : Nat → Option PyData) : List D → Option (List PyData)
  | [] => some []
  | d :: ds => (pdG g d).bind fun x => (pdsG g ds).map fun xs => x :: xs
end
def pdN (S : Store) : Nat → Nat → Option PyData
  | 0, _ => none
  | k + 1, n => (listAt S n).bind fun xs => (pdsG (pdN S k) xs).map .list
/-- lists within lists, to a depth of sixty -/
abbrev pd (S : Store) : D → Option PyData := pdG (pdN S 60)
abbrev pds (S : Store) : List D → Option (List PyData) := pdsG (pdN S 60)

/-! ## what stands for what -/
mutual
inductive Rep (K : PySem.W.Frag) (ρ : List Addr) (H : Hp) : V → D → Prop
  | non : Rep K ρ H .non .non
  | bl (b : Bool) : Rep K ρ H (.bl b) (.bl b)
  | int (i : Int) : Rep K ρ H (.int i) (.int i)
  | str (x : Str) : Rep K ρ H (.str x) (.str x)
  | tup {a : Addr} {vs : List V} {ds : List D} : SqT K H a vs → Reps K ρ H vs ds → Rep K ρ H (.ref a) (.tup ds)
  | ref {a : Addr} {n : Nat} : ρ[n]? = some a → Rep K ρ H (.ref a) (.ref n)
  | fn {a : Addr} {x : Str} : PySem.W.nsIn K mainGlobals x = some (some (.ref a)) → Rep K ρ H (.ref a) (.fn x)
inductive Reps (K : PySem.W.Frag) (ρ : List Addr) (H : Hp) : List V → List D → Prop
  | nil : Reps K ρ H [] []
  | cons {v : V} {vs : List V} {d : D} {ds : List D} : Rep K ρ H v d → Reps K ρ H vs ds → Reps K ρ H (v :: vs) (d :: ds)
end
structure Gro (H H' : Hp) : Prop where
  tup : ∀ a xs, H a = some (.tup xs) → H' a = some (.tup xs)
  frz : ∀ a o u, H a = some (.frz o u) → H' a = some (.frz o u)
  dk : ∀ a ks, H a = some (.dK ks) → ∃ ks', H' a = some (.dK ks')
theorem Gro.refl (H : Hp) : Gro H H := ⟨fun _ _ h => h, fun _ _ _ h => h, fun _ ks h => ⟨ks, h⟩⟩
theorem Gro.trans {H H1 H2 : Hp} (a : Gro H H1) (b : Gro H1 H2) : Gro H H2 :=
  ⟨fun x y h => b.tup x y (a.tup x y h), fun x y z h => b.frz x y z (a.frz x y z h), fun x y h => let ⟨_, q⟩ := a.dk x y h; b.dk x _ q⟩
theorem Gro.new {H : Hp} {p : Addr} {o : HO} (h : H p = none) : Gro H (upd H p o) :=
  ⟨fun a xs e => by rw [upd_ne (ne_of_none e h)]; exact e, fun a o u e => by rw [upd_ne (ne_of_none e h)]; exact e, fun a ks e => ⟨ks, by rw [upd_ne (ne_of_none e h)]; exact e⟩⟩
theorem Gro.mut {H : Hp} {p : Addr} {xs : List V} {o : HO} (h : H p = some (.lst xs)) : Gro H (upd H p o) :=
  ⟨fun a ys e => by rw [upd_ne (ne_of e h (by intro z; cases z))]; exact e, fun a o u e => by rw [upd_ne (ne_of e h (by intro z; cases z))]; exact e,
    fun a ks e => ⟨ks, by rw [upd_ne (ne_of e h (by intro z; cases z))]; exact e⟩⟩
theorem Gro.mutD {H : Hp} {p : Addr} {xs ys : List (Key × V)} (h : H p = some (.dK xs)) : Gro H (upd H p (.dK ys)) :=
  ⟨fun a ys e => by rw [upd_ne (ne_of e h (by intro z; cases z))]; exact e, fun a o u e => by rw [upd_ne (ne_of e h (by intro z; cases z))]; exact e,
    fun a ks e => by
      by_cases q : a = p
      · subst q; exact ⟨ys, upd_same⟩
      · exact ⟨ks, by rw [upd_ne q]; exact e⟩⟩
theorem Gro.mutI {H : Hp} {p : Addr} {C dx : Addr} {xs : List (Str × V)} {o : HO} (h : H p = some (.ins C dx xs)) : Gro H (upd H p o) :=
  ⟨fun a ys e => by rw [upd_ne (ne_of e h (by intro z; cases z))]; exact e, fun a o u e => by rw [upd_ne (ne_of e h (by intro z; cases z))]; exact e,
    fun a ks e => ⟨ks, by rw [upd_ne (ne_of e h (by intro z; cases z))]; exact e⟩⟩
theorem Gro.sqt {K : PySem.W.Frag} {H H' : Hp} {a : Addr} {xs : List V} (g : Gro H H') (h : SqT K H a xs) : SqT K H' a xs := by
  rcases h with (h | ⟨o, h⟩) | h
  · exact .inl (.inl (g.tup _ _ h))
  · exact .inl (.inr ⟨o, g.frz _ _ _ h⟩)
  · exact .inr h
def Pre (ρ ρ' : List Addr) : Prop := ∀ (n : Nat) (a : Addr), ρ[n]? = some a → ρ'[n]? = some a
theorem Pre.refl (ρ : List Addr) : Pre ρ ρ := fun _ _ h => h
theorem Pre.trans {a b c : List Addr} (h : Pre a b) (k : Pre b c) : Pre a c := fun n x e => k n x (h n x e)
theorem Pre.app (ρ : List Addr) (p : Addr) : Pre ρ (ρ ++ [p]) := fun n a e => by
  have := (List.getElem?_eq_some_iff.mp e).1
  rw [List.getElem?_append_left this]; exact e
section
variable {K : PySem.W.Frag} {ρ ρ' : List Addr} {H H' : Hp}
mutual
theorem Rep.mono (g : Gro H H') (q : Pre ρ ρ') : ∀ {v : V} {d : D}, Rep K ρ H v d → Rep K ρ' H' v d
  | _, _, .non => .non
  | _, _, .bl b => .bl b
  | _, _, .int i => .int i
  | _, _, .str x => .str x
  | _, _, .tup h r => .tup (g.sqt h) (Reps.mono g q r)
  | _, _, .ref h => .ref (q _ _ h)
  | _, _, .fn h => .fn h
theorem Reps.mono (g : Gro H H') (q : Pre ρ ρ') : ∀ {v : List V} {d : List D}, Reps K ρ H v d → Reps K ρ' H' v d
  | _, _, .nil => .nil
  | _, _, .cons h r => .cons (Rep.mono g q h) (Reps.mono g q r)
end
theorem Reps.length : ∀ {vs : List V} {ds : List D}, Reps K ρ H vs ds → vs.length = ds.length
  | _, _, .nil => rfl
  | _, _, .cons _ r => by simp [Reps.length r]
theorem Reps.get : ∀ {vs : List V} {ds : List D}, Reps K ρ H vs ds → ∀ {i : Nat} {d : D}, ds[i]? = some d → ∃ v, vs[i]? = some v ∧ Rep K ρ H v d
  | _, _, .nil, i, d, h => by simp at h
  | _, _, .cons r _, 0, d, h => by simp at h; subst h; exact ⟨_, rfl, r⟩
  | _, _, .cons _ t, i + 1, d, h => by
    obtain ⟨v, e, r⟩ := Reps.get t (i := i) (d := d) (by simpa using h)
    exact ⟨v, by simpa using e, r⟩
theorem Reps.get' : ∀ {vs : List V} {ds : List D}, Reps K ρ H vs ds → ∀ {i : Nat} {v : V}, vs[i]? = some v → ∃ d, ds[i]? = some d ∧ Rep K ρ H v d
  | _, _, .nil, i, d, h => by simp at h
  | _, _, .cons r _, 0, d, h => by simp at h; subst h; exact ⟨_, rfl, r⟩
  | _, _, .cons _ t, i + 1, d, h => by
    obtain ⟨v, e, r⟩ := Reps.get' t (i := i) (v := d) (by simpa using h)
    exact ⟨v, by simpa using e, r⟩
theorem Reps.append : ∀ {vs ws : List V} {ds es : List D}, Reps K ρ H vs ds → Reps K ρ H ws es → Reps K ρ H (vs ++ ws) (ds ++ es)
  | _, _, _, _, .nil, t => t
  | _, _, _, _, .cons r q, t => .cons r (Reps.append q t)
theorem Reps.take : ∀ {vs : List V} {ds : List D} (n : Nat), Reps K ρ H vs ds → Reps K ρ H (vs.take n) (ds.take n)
  | _, _, 0, _ => .nil
  | _, _, _ + 1, .nil => .nil
  | _, _, n + 1, .cons r t => .cons r (Reps.take n t)
theorem Reps.drop : ∀ {vs : List V} {ds : List D} (n : Nat), Reps K ρ H vs ds → Reps K ρ H (vs.drop n) (ds.drop n)
  | _, _, 0, r => r
  | _, _, _ + 1, .nil => .nil
  | _, _, n + 1, .cons _ t => Reps.drop n t
theorem Reps.set {v : V} {d : D} (r : Rep K ρ H v d) : ∀ {vs : List V} {ds : List D} (i : Nat), Reps K ρ H vs ds → Reps K ρ H (vs.set i v) (ds.set i d)
  | _, _, _, .nil => .nil
  | _, _, 0, .cons _ t => .cons r t
  | _, _, i + 1, .cons q t => .cons q (Reps.set r i t)
theorem Reps.flat {vs : List V} {ds : List D} (r : Reps K ρ H vs ds) : ∀ n : Nat, Reps K ρ H (List.replicate n vs).flatten (List.replicate n ds).flatten
  | 0 => .nil
  | n + 1 => by simp only [List.replicate_succ, List.flatten_cons]; exact r.append (r.flat n)
theorem rep_int {v : V} {i : Int} (h : Rep K ρ H v (.int i)) : v = .int i := by cases h; rfl
theorem rep_bl {v : V} {i : Bool} (h : Rep K ρ H v (.bl i)) : v = .bl i := by cases h; rfl
theorem rep_str {v : V} {i : Str} (h : Rep K ρ H v (.str i)) : v = .str i := by cases h; rfl
theorem rep_non {v : V} (h : Rep K ρ H v .non) : v = .non := by cases h; rfl
theorem rep_tup {v : V} {ds : List D} (h : Rep K ρ H v (.tup ds)) : ∃ a vs, v = .ref a ∧ SqT K H a vs ∧ Reps K ρ H vs ds := by
  cases h with | tup h r => exact ⟨_, _, rfl, h, r⟩
theorem rep_fn {v : V} {x : Str} (h : Rep K ρ H v (.fn x)) : ∃ a, v = .ref a ∧ PySem.W.nsIn K mainGlobals x = some (some (.ref a)) := by
  cases h with | fn h => exact ⟨_, rfl, h⟩
theorem rep_ref {v : V} {n : Nat} (h : Rep K ρ H v (.ref n)) : ∃ a, v = .ref a ∧ ρ[n]? = some a := by
  cases h with | ref h => exact ⟨_, rfl, h⟩
theorem reps_ints : ∀ (ns : List Int), Reps K ρ H (ns.map V.int) (ns.map D.int)
  | [] => .nil
  | n :: r => .cons (.int n) (reps_ints r)
end

/-- a list that nobody writes -/
def Fix (K : PySem.W.Frag) (H : Hp) (a : Addr) (vs : List V) : Prop := (∃ o, H a = some (.frz o (.lst vs))) ∨ SqL K (fun _ => none) a vs
theorem Fix.sql {K : PySem.W.Frag} {H : Hp} {a : Addr} {vs : List V} (h : Fix K H a vs) : SqL K H a vs := by
  rcases h with ⟨o, h⟩ | (h | ⟨o, h⟩) | h
  · exact .inl (.inr ⟨o, h⟩)
  · cases h
  · cases h
  · exact .inr h
theorem Fix.gro {K : PySem.W.Frag} {H H' : Hp} {a : Addr} {vs : List V} (g : Gro H H') (h : Fix K H a vs) : Fix K H' a vs := by
  rcases h with ⟨o, h⟩ | h
  · exact .inl ⟨o, g.frz _ _ _ h⟩
  · exact .inr h
def ObjR (K : PySem.W.Frag) (ρ : List Addr) (H : Hp) (a : Addr) : O → Prop
  | .lst xs => ∃ vs, H a = some (.lst vs) ∧ Reps K ρ H vs xs
  | .ro xs => ∃ vs, Fix K H a vs ∧ Reps K ρ H vs xs
  | .dct kvs => ∃ (ws : List (Key × V)), H a = some (.dK ws) ∧ ws.map Prod.fst = kvs.map Prod.fst ∧ Reps K ρ H (ws.map Prod.snd) (kvs.map Prod.snd)
  | .ins c fs => ∃ (C dx : Addr) (ws : List (Str × V)), H a = some (.ins C dx ws) ∧ PySem.W.nsIn K mainGlobals c = some (some (.ref C)) ∧ ws.map Prod.fst = fs.map Prod.fst ∧ Reps K ρ H (ws.map Prod.snd) (fs.map Prod.snd)
theorem ObjR.mono {K : PySem.W.Frag} {ρ ρ' : List Addr} {H H' : Hp} {a : Addr} {o : O} (g : Gro H H') (q : Pre ρ ρ') (hs : o.mut = true → H' a = H a) (r : ObjR K ρ H a o) : ObjR K ρ' H' a o := by
  cases o with
  | lst ys => obtain ⟨vs, h1, r⟩ := r; exact ⟨vs, (hs rfl).trans h1, r.mono g q⟩
  | ro ys => obtain ⟨vs, h1, r⟩ := r; exact ⟨vs, h1.gro g, r.mono g q⟩
  | dct ys => obtain ⟨vs, h1, h2, r⟩ := r; exact ⟨vs, (hs rfl).trans h1, h2, r.mono g q⟩
  | ins c ys => obtain ⟨C, dx, ws, h1, h2, h3, r⟩ := r; exact ⟨C, dx, ws, (hs rfl).trans h1, h2, h3, r.mono g q⟩
theorem ObjR.some {K : PySem.W.Frag} {ρ : List Addr} {H : Hp} {a : Addr} {o : O} (hm : o.mut = true) (r : ObjR K ρ H a o) : ∃ u, H a = some u := by
  cases o with
  | lst ys => obtain ⟨vs, h1, r⟩ := r; exact ⟨_, h1⟩
  | ro ys => cases hm
  | dct ys => obtain ⟨vs, h1, h2, r⟩ := r; exact ⟨_, h1⟩
  | ins c ys => obtain ⟨C, dx, ws, h1, h2, h3, r⟩ := r; exact ⟨_, h1⟩
def isMut (S : Store) (n : Nat) : Prop := ∃ o, S[n]? = some o ∧ o.mut = true
structure Sim (K : PySem.W.Frag) (ρ : List Addr) (S : Store) (H : Hp) : Prop where
  len : ρ.length = S.length
  obj : ∀ (n : Nat) (o : O) (a : Addr), S[n]? = some o → ρ[n]? = some a → ObjR K ρ H a o
  inj : ∀ (m n : Nat) (a : Addr), ρ[m]? = some a → ρ[n]? = some a → isMut S m → isMut S n → m = n
section
variable {K : PySem.W.Frag} {ρ ρ' : List Addr} {H H' : Hp} {S : Store}
theorem Sim.at (h : Sim K ρ S H) {n : Nat} {o : O} (e : S[n]? = some o) : ∃ a, ρ[n]? = some a ∧ ObjR K ρ H a o := by
  have hn := (List.getElem?_eq_some_iff.mp e).1
  rw [← h.len] at hn
  exact ⟨ρ[n], by simp [hn], h.obj n o _ e (by simp [hn])⟩
theorem Sim.at' (h : Sim K ρ S H) {n : Nat} {a : Addr} (e : ρ[n]? = some a) : ∃ o, S[n]? = some o ∧ ObjR K ρ H a o := by
  have hn := (List.getElem?_eq_some_iff.mp e).1
  rw [h.len] at hn
  exact ⟨S[n], by simp [hn], h.obj n _ _ (by simp [hn]) e⟩
theorem Sim.list (h : Sim K ρ S H) {n : Nat} {xs : List D} {a : Addr} (e : listAt S n = some xs) (ea : ρ[n]? = some a) : ∃ vs, SqL K H a vs ∧ Reps K ρ H vs xs := by
  unfold listAt at e
  split at e
  · rename_i ys e1
    cases e
    obtain ⟨vs, h1, r⟩ := h.obj n _ a e1 ea
    exact ⟨vs, SqL.of h1, r⟩
  · rename_i ys e1
    cases e
    obtain ⟨vs, h1, r⟩ := h.obj n _ a e1 ea
    exact ⟨vs, h1.sql, r⟩
  · cases e
/-- a tuple is made -/
theorem Sim.tup (h : Sim K ρ S H) {p : Addr} {xs : List V} (hp : H p = none) : Sim K ρ S (upd H p (.tup xs)) := by
  refine ⟨h.len, fun n o a e ea => (h.obj n o a e ea).mono (Gro.new hp) (Pre.refl ρ) fun hm => ?_, h.inj⟩
  obtain ⟨u, hu⟩ := (h.obj n o a e ea).some hm
  exact upd_ne (ne_of_none hu hp)
/-- an object is made -/
theorem Sim.newG (h : Sim K ρ S H) {p : Addr} {o : O} {ho : HO} (hp : H p = none) (r : ObjR K (ρ ++ [p]) (upd H p ho) p o) : Sim K (ρ ++ [p]) (S ++ [o]) (upd H p ho) := by
  have g : Gro H (upd H p ho) := Gro.new hp
  refine ⟨by simp [h.len], fun n o' a e ea => ?_, fun m n a e1 e2 m1 m2 => ?_⟩
  · by_cases hn : n < S.length
    · rw [List.getElem?_append_left hn] at e
      rw [List.getElem?_append_left (by rw [h.len]; exact hn)] at ea
      refine (h.obj n o' a e ea).mono g (Pre.app ρ p) fun hm => ?_
      obtain ⟨u, hu⟩ := (h.obj n o' a e ea).some hm
      exact upd_ne (ne_of_none hu hp)
    · have hl : n = S.length := by
        have := (List.getElem?_eq_some_iff.mp e).1
        simp at this; omega
      subst hl
      rw [List.getElem?_append_right (Nat.le_refl _)] at e
      rw [← h.len, List.getElem?_append_right (Nat.le_refl _)] at ea
      simp at e ea
      subst e; subst ea
      exact r
  · have old : ∀ {m : Nat}, m < S.length → (ρ ++ [p])[m]? = some a → isMut (S ++ [o]) m → ρ[m]? = some a ∧ isMut S m ∧ a ≠ p := by
      intro m hm e1 ⟨ys, m1, m2⟩
      rw [List.getElem?_append_left (by rw [h.len]; exact hm)] at e1
      rw [List.getElem?_append_left hm] at m1
      obtain ⟨u, hu⟩ := (h.obj m _ a m1 e1).some m2
      exact ⟨e1, ⟨ys, m1, m2⟩, ne_of_none hu hp⟩
    have lim : ∀ {m : Nat}, (ρ ++ [p])[m]? = some a → m < S.length ∨ (m = S.length ∧ a = p) := by
      intro m e1
      by_cases hm : m < S.length
      · exact .inl hm
      · have := (List.getElem?_eq_some_iff.mp e1).1
        simp [h.len] at this
        have hm2 : m = S.length := by omega
        subst hm2
        rw [← h.len, List.getElem?_append_right (Nat.le_refl _)] at e1
        simp at e1
        exact .inr ⟨rfl, e1.symm⟩
    rcases lim e1 with k1 | ⟨k1, q1⟩
    · obtain ⟨a1, a2, a3⟩ := old k1 e1 m1
      rcases lim e2 with k2 | ⟨k2, q2⟩
      · obtain ⟨b1, b2, _⟩ := old k2 e2 m2
        exact h.inj m n a a1 b1 a2 b2
      · exact absurd q2 a3
    · rcases lim e2 with k2 | ⟨k2, q2⟩
      · obtain ⟨_, _, b3⟩ := old k2 e2 m2
        exact absurd q1 b3
      · rw [k1, k2]
/-- a list is made -/
theorem Sim.new (h : Sim K ρ S H) {p : Addr} {vs : List V} {xs : List D} (hp : H p = none) (r : Reps K ρ H vs xs) : Sim K (ρ ++ [p]) (S ++ [.lst xs]) (upd H p (.lst vs)) :=
  h.newG hp ⟨vs, upd_same, r.mono (Gro.new hp) (Pre.app ρ p)⟩
/-- a dict is made, empty -/
theorem Sim.newD (h : Sim K ρ S H) {p : Addr} (hp : H p = none) : Sim K (ρ ++ [p]) (S ++ [.dct []]) (upd H p (.dK [])) :=
  h.newG hp ⟨[], upd_same, rfl, .nil⟩
/-- an object is changed -/
theorem Sim.putG (h : Sim K ρ S H) {n : Nat} {p : Addr} {o0 o : O} {ho : HO} (e : S[n]? = some o0) (m0 : o0.mut = true) (ep : ρ[n]? = some p) (g : Gro H (upd H p ho)) (r : ObjR K ρ (upd H p ho) p o) :
    Sim K ρ (S.set n o) (upd H p ho) := by
  have hn := (List.getElem?_eq_some_iff.mp e).1
  have mm : ∀ {m : Nat}, isMut (S.set n o) m → isMut S m := by
    intro m ⟨zs, hm, hz⟩
    by_cases q : n = m
    · subst q; exact ⟨o0, e, m0⟩
    · rw [List.getElem?_set_ne q] at hm; exact ⟨zs, hm, hz⟩
  refine ⟨by simp [h.len], fun m o' a em ea => ?_, fun m k a e1 e2 m1 m2 => h.inj m k a e1 e2 (mm m1) (mm m2)⟩
  by_cases q : n = m
  · subst q
    rw [List.getElem?_set_self hn] at em
    rw [ep] at ea
    cases ea; cases em
    exact r
  · rw [List.getElem?_set_ne q] at em
    exact (h.obj m o' a em ea).mono g (Pre.refl ρ) fun hm => upd_ne fun z => q (h.inj n m p ep (z ▸ ea) ⟨o0, e, m0⟩ ⟨o', em, hm⟩)
/-- a list is changed -/
theorem Sim.put (h : Sim K ρ S H) {n : Nat} {p : Addr} {vs ws : List V} {xs ys : List D} (e : S[n]? = some (.lst xs)) (ep : ρ[n]? = some p) (hp : H p = some (.lst ws)) (r : Reps K ρ H vs ys) :
    Sim K ρ (S.set n (.lst ys)) (upd H p (.lst vs)) :=
  h.putG e rfl ep (Gro.mut hp) ⟨vs, upd_same, r.mono (Gro.mut hp) (Pre.refl ρ)⟩
/-- a dict is changed -/
theorem Sim.putD (h : Sim K ρ S H) {n : Nat} {p : Addr} {ws us : List (Key × V)} {kvs lvs : List (Key × D)} (e : S[n]? = some (.dct kvs)) (ep : ρ[n]? = some p) (hp : H p = some (.dK us)) (hk : ws.map Prod.fst = lvs.map Prod.fst)
    (r : Reps K ρ H (ws.map Prod.snd) (lvs.map Prod.snd)) : Sim K ρ (S.set n (.dct lvs)) (upd H p (.dK ws)) :=
  h.putG e rfl ep (Gro.mutD hp) ⟨ws, upd_same, hk, r.mono (Gro.mutD hp) (Pre.refl ρ)⟩
theorem Sim.dct (h : Sim K ρ S H) {n : Nat} {kvs : List (Key × D)} {a : Addr} (e : dctAt S n = some kvs) (ea : ρ[n]? = some a) : S[n]? = some (.dct kvs) ∧ ∃ (ws : List (Key × V)), H a = some (.dK ws) ∧ ws.map Prod.fst = kvs.map Prod.fst ∧ Reps K ρ H (ws.map Prod.snd) (kvs.map Prod.snd) := by
  unfold dctAt at e
  split at e
  · rename_i ys e1
    cases e
    exact ⟨e1, h.obj n _ a e1 ea⟩
  · cases e
/-- an instance is made, empty; an object that nobody sees comes before it -/
theorem Sim.newI (h : Sim K ρ S H) {p dx C : Addr} {c : Str} (hp : H p = none) (hd : H dx = none) (hne : dx ≠ p) (hc : PySem.W.nsIn K mainGlobals c = some (some (.ref C))) :
    Sim K (ρ ++ [p]) (S ++ [.ins c []]) (upd (upd H dx (.own p)) p (.ins C dx [])) := by
  have h1 : Sim K ρ S (upd H dx (.own p)) := by
    refine ⟨h.len, fun n o a e ea => (h.obj n o a e ea).mono (Gro.new hd) (Pre.refl ρ) fun hm => ?_, h.inj⟩
    obtain ⟨u, hu⟩ := (h.obj n o a e ea).some hm
    exact upd_ne (ne_of_none hu hd)
  exact h1.newG (by rw [upd_ne (Ne.symm hne)]; exact hp) ⟨C, dx, [], upd_same, hc, rfl, .nil⟩
theorem Sim.ins (h : Sim K ρ S H) {n : Nat} {c : Str} {fs : List (Str × D)} {a : Addr} (e : insAt S n = some (c, fs)) (ea : ρ[n]? = some a) :
    S[n]? = some (.ins c fs) ∧ ∃ (C dx : Addr) (ws : List (Str × V)), H a = some (.ins C dx ws) ∧ PySem.W.nsIn K mainGlobals c = some (some (.ref C)) ∧ ws.map Prod.fst = fs.map Prod.fst ∧ Reps K ρ H (ws.map Prod.snd) (fs.map Prod.snd) := by
  unfold insAt at e
  split at e
  · rename_i c' ys e1
    cases e
    exact ⟨e1, h.obj n _ a e1 ea⟩
  · cases e
/-- a field is stored -/
theorem Sim.putI (h : Sim K ρ S H) {n : Nat} {p C dx : Addr} {c : Str} {fs0 fs : List (Str × D)} {us ws : List (Str × V)} (e : S[n]? = some (.ins c fs0)) (ep : ρ[n]? = some p) (hp : H p = some (.ins C dx us)) (hc : PySem.W.nsIn K mainGlobals c = some (some (.ref C)))
    (hk : ws.map Prod.fst = fs.map Prod.fst) (r : Reps K ρ H (ws.map Prod.snd) (fs.map Prod.snd)) : Sim K ρ (S.set n (.ins c fs)) (upd H p (.ins C dx ws)) :=
  h.putG e rfl ep (Gro.mutI hp) ⟨C, dx, ws, upd_same, hc, hk, r.mono (Gro.mutI hp) (Pre.refl ρ)⟩
theorem Rep.of_lookup {f : Str} {d : D} : ∀ {ws : List (Str × V)} {fs : List (Str × D)}, ws.map Prod.fst = fs.map Prod.fst → Reps K ρ H (ws.map Prod.snd) (fs.map Prod.snd) → fs.lookup f = some d → ∃ v, ws.lookup f = some v ∧ Rep K ρ H v d
  | [], [], _, _, h => by cases h
  | [], _ :: _, h, _, _ => by cases h
  | _ :: _, [], h, _, _ => by cases h
  | (x, w) :: ws, (y, e) :: fs, hk, .cons r t, h => by
    simp only [List.map_cons, List.cons.injEq] at hk
    obtain ⟨h1, h2⟩ := hk
    subst h1
    rw [List.lookup_cons] at h ⊢
    split
    · rename_i q; rw [q] at h; cases h; exact ⟨w, rfl, r⟩
    · rename_i q; rw [q] at h; exact Rep.of_lookup h2 t h
end
/-- a field put in, as the model puts it -/
def putFD (f : Str) (d : D) : List (Str × D) → List (Str × D)
  | [] => [(f, d)]
  | (g, e) :: r => if g = f then (g, d) :: r else (g, e) :: putFD f d r
theorem putF_cons (f : Str) (v : V) (g : Str) (w : V) (r : List (Str × V)) : putF f v ((g, w) :: r) = if g = f then (g, v) :: r else (g, w) :: putF f v r := rfl
theorem putF_reps {K : PySem.W.Frag} {ρ : List Addr} {H : Hp} {f : Str} {v : V} {d : D} (rv : Rep K ρ H v d) : ∀ {ws : List (Str × V)} {fs : List (Str × D)}, ws.map Prod.fst = fs.map Prod.fst → Reps K ρ H (ws.map Prod.snd) (fs.map Prod.snd) →
    (putF f v ws).map Prod.fst = (putFD f d fs).map Prod.fst ∧ Reps K ρ H ((putF f v ws).map Prod.snd) ((putFD f d fs).map Prod.snd)
  | [], [], _, _ => ⟨rfl, .cons rv .nil⟩
  | [], _ :: _, h, _ => by cases h
  | _ :: _, [], h, _ => by cases h
  | (x, w) :: ws, (y, e) :: fs, hk, .cons r t => by
    simp only [List.map_cons, List.cons.injEq] at hk
    obtain ⟨h1, h2⟩ := hk
    subst h1
    obtain ⟨a, b⟩ := putF_reps rv (f := f) h2 t
    rw [putF_cons]
    unfold putFD
    by_cases q : x = f
    · rw [if_pos q, if_pos q]
      exact ⟨by simp [h2], .cons rv t⟩
    · rw [if_neg q, if_neg q]
      exact ⟨by simp [a], .cons r b⟩
end Tm

set_option Elab.async false
set_option linter.all false
set_option maxRecDepth 100000
namespace Tm
open PySem PySem.Spec PyProof.Rows L2

/-! ## the core: expressions, targets, statements -/
inductive Bin where
  | add | sub | mul | fdiv | mod | pow | shl | shr | band | bor | bxor
inductive Cmp where
  | eq | ne | lt | le | gt | ge | is_ | isn | in_ | nin
inductive Bi where
  | len | int | abs | max | min | tuple | list | str | repr | sum | all | any
inductive Mt where
  | starts | ends | split | join | extend | popAt | pop | rev | insert
inductive Ty where
  | int | str | tuple | list | bool | dict
inductive Tg where
  | bad | nm (i : Nat) | tp (n : Nat) (t : Tg) | nil | cons (a r : Tg)
inductive C where
  | bad
  | var (i : Nat)
  | lit (d : D)
  | glob (g : Nat)
  | nil | cons (a r : C)
  | tup (a : C) | lst (a : C)
  | bin (op : Bin) (a b : C)
  | neg (a : C)
  | cmp (op : Cmp) (a b : C)
  | chain (o1 o2 : Cmp) (a b c : C)
  | and_ (a b : C) | or_ (a b : C) | not_ (a : C)
  | ife (c a b : C)
  | idx (a b : C)
  | slc (a lo hi : C)
  | absent
  | kget (g : Nat) (a : C) | kin (g : Nat) (neg : Bool) (a : C) | kgetd (g : Nat) (a b : C)
  | call (f : Nat) (perm : List Nat) (a b : C)
  | callv (f a : C)
  | bi (b : Bi) (a : C)
  | isty (a : C) (t : Ty)
  | app (a v : C)
  | mt (m : Mt) (o a : C)
  | dnew
  | fld (o : C) (f : Str) (cs : List Str)
  | mk (x : Str) (f : Nat) (a : C)
  | revl (a : C)
  | disp (ks : List Key) (a : C)
  | lc (it : C) (t : Tg) (cond elt : C) (own : List Nat)
  | itv (a : C) | irng (a : C) | irev (a : C) | ienum (a : C) | izip (a b : C)
inductive St where
  | skip | bad
  | seq (a b : St)
  | asg (t : Tg) (c : C)
  | seti (v o i : C)
  | aug (i : Nat) (op : Bin) (c : C)
  | setf (v o : C) (f : Str) (cs : List Str)
  | augf (o : C) (f : Str) (cs : List Str) (op : Bin) (c : C)
  | drop (c : C)
  | ret (c : C)
  | ifs (c : C) (a b : St)
  | for_ (it : C) (t : Tg) (b : St)
  | whl (c : C) (b : St)
  | brk | cont
inductive Fl where
  | nx | rt (d : D) | bk | ct
structure Pm where
  R : Nat → List D → Store → Option (D × Store)
  gl : Nat → D
  kd : Nat → List (Str × D)
  W : Nat
  fx : Str → Option Nat

/-! ## operators -/
def okI (b : Bool) (d : D) (S : Store) : Option (D × Store) := if b = true then some (d, S) else none
def new (S : Store) (xs : List D) : D × Store := (.ref S.length, S ++ [.lst xs])
def binop : Bin → D → D → Store → Option (D × Store)
  | .add, .int i, .int j, S => some (.int (i + j), S)
  | .add, .str x, .str y, S => okI (decide (x.length + y.length ≤ sizeLine)) (.str (x ++ y)) S
  | .add, .tup xs, .tup ys, S => okI (decide (xs.length + ys.length ≤ sizeLine)) (.tup (xs ++ ys)) S
  | .add, .ref m, .ref n, S => match S[m]?, S[n]? with
    | some (.lst xs), some (.lst ys) => if xs.length + ys.length ≤ sizeLine then some (new S (xs ++ ys)) else none
    | _, _ => none
  | .sub, .int i, .int j, S => some (.int (i - j), S)
  | .mul, .int i, .int j, S => okI (decide (i.natAbs.log2 + j.natAbs.log2 < 1000000) || decide (j.natAbs < 2 ^ 64)) (.int (i * j)) S
  | .mul, .ref n, .int k, S => match S[n]? with
    | some (.lst xs) => if decide (-(2 ^ 63) ≤ k) && decide (k < 2 ^ 63) && decide (xs.length * k.toNat ≤ sizeLine) then some (new S (List.replicate k.toNat xs).flatten) else none
    | _ => none
  | .mul, .tup xs, .int k, S => okI (!xs.isEmpty && decide (2 ≤ k) && decide (k ≤ 1000) && decide (xs.length ≤ 1000)) (.tup (List.replicate k.toNat xs).flatten) S
  | .fdiv, .int i, .int j, S => okI (decide (0 < j) && decide (j.natAbs.log2 < 9000)) (.int (i / j)) S
  | .mod, .int i, .int j, S => okI (decide (0 < j)) (.int (i % j)) S
  | .pow, .int i, .int j, S => okI (decide (0 ≤ j) && decide ((Builtin.Int.intBits i : Int) * j ≤ 2 ^ 27)) (.int (i ^ j.toNat)) S
  | .shl, .int i, .int j, S => okI (decide (0 ≤ j) && decide (j ≤ 1000000) && decide (i.natAbs < 2 ^ 64)) (.int (i * 2 ^ j.toNat)) S
  | .shr, .int i, .int j, S => okI (decide (0 ≤ j)) (.int (i / 2 ^ j.toNat)) S
  | .band, .int i, .int j, S => some (.int (Builtin.bitAnd i j), S)
  | .bor, .int i, .int j, S => some (.int (Builtin.bitOr i j), S)
  | .bxor, .int i, .int j, S => some (.int (Builtin.bitXor i j), S)
  | _, _, _, _ => none
/-- equality: scalars at once, else by data -/
def eqD (S : Store) : D → D → Option Bool
  | .int i, .int j => some (decide (i = j))
  | .str x, .str y => some (decide (x = y))
  | .bl a, .bl b => some (decide (a = b))
  | .non, .non => some true
  | a, b => (pd S a).bind fun x => (pd S b).bind fun y => if SeqAt.shaped x && SeqAt.shaped y then some (PyData.eqv x y) else none
def isScal : D → Bool
  | .non | .bl _ | .int _ | .str _ => true
  | _ => false
def scEq : D → D → Bool
  | .non, .non => true
  | .bl a, .bl b => a == b
  | .int i, .int j => decide (i = j)
  | .str x, .str y => decide (x = y)
  | .bl a, .int j => decide ((if a then 1 else 0) = j)
  | .int i, .bl b => decide (i = (if b then 1 else 0))
  | _, _ => false
def inD (S : Store) (x : D) : D → Option Bool
  | .tup xs => if isScal x && xs.all isScal then some (xs.any fun y => scEq y x) else none
  | .ref n => (listAt S n).bind fun xs =>
    if isScal x && xs.all isScal then some (xs.any fun y => scEq y x)
    else (pd S x).bind fun d => (pds S xs).bind fun ds => if SeqAt.shaped d && SeqAt.shaped (.list ds) then some (ds.any fun z => PyData.eqv z d) else none
  | .str z => match x with
    | .str w => match w.cps.toList with
      | [c] => some (decide (c ∈ z.cps.toList))
      | _ => none
    | _ => none
  | _ => none
def cmpop : Cmp → D → D → Store → Option Bool
  | .eq, a, b, S => eqD S a b
  | .ne, a, b, S => (eqD S a b).map (!·)
  | .lt, .int i, .int j, _ => some (decide (i < j))
  | .le, .int i, .int j, _ => some (decide (i ≤ j))
  | .gt, .int i, .int j, _ => some (decide (j < i))
  | .ge, .int i, .int j, _ => some (decide (j ≤ i))
  | .is_, .non, .non, _ => some true
  | .is_, .bl _, .non, _ | .is_, .int _, .non, _ | .is_, .str _, .non, _ | .is_, .tup _, .non, _ | .is_, .ref _, .non, _ => some false
  | .isn, .non, .non, _ => some false
  | .isn, .bl _, .non, _ | .isn, .int _, .non, _ | .isn, .str _, .non, _ | .isn, .tup _, .non, _ | .isn, .ref _, .non, _ => some true
  | .is_, .bl a, .bl b, _ => some (decide (a = b))
  | .isn, .bl a, .bl b, _ => some (!decide (a = b))
  | .in_, a, b, S => inD S a b
  | .nin, a, b, S => (inD S a b).map (!·)
  | _, _, _, _ => none
def idxop : D → D → Store → Option D
  | .tup xs, .int i, _ => atI xs i
  | .ref n, .int i, S => (listAt S n).bind fun xs => atI xs i
  | .str z, .int i, _ => if z.length ≤ sizeLine then (atI z.cps.toList i).map fun c => .str ⟨#[c]⟩ else none
  | _, _, _ => none
def isAbs : C → Bool
  | .absent => true
  | _ => false
/-- a part of a slice: absent, or an int -/
def part (b : Bool) (S : Store) (r : Option (D × Store)) : Option (Option Int × Store) :=
  if b = true then some (none, S) else r.bind fun x => match x.1 with
    | .int i => some (some i, x.2)
    | _ => none
def cutD (xs : List D) (lo hi : Option Int) : List D := (xs.drop (HT.sIx xs.length 0 lo)).take (HT.sIx xs.length xs.length hi - HT.sIx xs.length 0 lo)
def slcop : D → Option Int → Option Int → Store → Option (D × Store)
  | .tup xs, lo, hi, S => some (.tup (cutD xs lo hi), S)
  | .ref n, lo, hi, S => (listAt S n).map fun xs => new S (cutD xs lo hi)
  | .str z, lo, hi, S => okI (decide (z.length ≤ sizeLine)) (.str (cutS z lo hi)) S
  | _, _, _, _ => none
def intsD : List D → Option (List Int)
  | [] => some []
  | .int i :: r => (intsD r).map fun s => i :: s
  | _ => none
def blsD : List D → Option (List Bool)
  | [] => some []
  | .bl i :: r => (blsD r).map fun s => i :: s
  | _ => none
def biop : Bi → List D → Store → Option (D × Store)
  | .len, [.tup xs], S => some (.int xs.length, S)
  | .len, [.ref n], S => (listAt S n).map fun xs => (.int xs.length, S)
  | .len, [.str z], S => okI (decide (z.length ≤ sizeLine)) (.int z.length) S
  | .int, [.int i], S => some (.int i, S)
  | .int, [.bl b], S => some (.int (if b then 1 else 0), S)
  | .int, [.str a], S => match PySem.intText? a with
    | some n => okI (decide (a.length ≤ 640)) (.int n) S
    | none => none
  | .abs, [.int i], S => some (.int (if i < 0 then -i else i), S)
  | .max, [.int i, .int j], S => some (.int (if j > i then j else i), S)
  | .min, [.int i, .int j], S => some (.int (if j < i then j else i), S)
  | .tuple, [.tup xs], S => some (.tup xs, S)
  | .tuple, [.ref n], S => (listAt S n).map fun xs => (.tup xs, S)
  | .list, [.tup xs], S => some (new S xs)
  | .list, [.ref n], S => (listAt S n).map fun xs => new S xs
  | .str, [.int i], S => okI (decide (i.natAbs.log2 < 1920)) (.str (toString i)) S
  | .str, [.str x], S => some (.str x, S)
  | .repr, [d], S => (pd S d).bind fun x => if x.showable && decide (x.depth ≤ 64) && decide (x.shown.length ≤ sizeLine) then some (.str x.shown, S) else none
  | .sum, [.ref n], S => (listAt S n).bind fun xs => (intsD xs).map fun is => (.int is.sum, S)
  | .all, [.ref n], S => (listAt S n).bind fun xs => (blsD xs).map fun bs => (.bl (bs.all id), S)
  | .any, [.ref n], S => (listAt S n).bind fun xs => (blsD xs).map fun bs => (.bl (bs.any id), S)
  | _, _, _ => none
def tyop : D → Ty → Store → Option Bool
  | .non, _, _ => some false
  | .bl _, t, _ => some (match t with | .int | .bool => true | _ => false)
  | .int _, t, _ => some (match t with | .int => true | _ => false)
  | .str _, t, _ => some (match t with | .str => true | _ => false)
  | .tup _, t, _ => some (match t with | .tuple => true | _ => false)
  | .ref n, t, S => (listAt S n).map fun _ => match t with | .list => true | _ => false
  | .fn _, _, _ => none
def lookK (l : List (Str × D)) (x : Str) : Option D := l.lookup x
def pick {α : Type} (perm : List Nat) (l : List α) : List α := perm.filterMap fun i => l[i]?
def push (n : Nat) (d : D) (S : Store) : Option Store := match S[n]? with
  | some (.lst xs) => if xs.length < sizeLine then some (S.set n (.lst (xs ++ [d]))) else none
  | _ => none
def setS (o i v : D) (S : Store) : Option Store := match o, i with
  | .ref n, .int k => match S[n]? with
    | some (.lst xs) => (ixN xs.length k).map fun j => S.set n (.lst (xs.set j v))
    | _ => none
  | _, _ => none
/-! ### dicts, methods -/
def alt {α : Type} (a b : Option α) : Option α := match a with
  | some x => some x
  | none => b
theorem alt_some {α : Type} {a b : Option α} {x : α} (h : a = some x) : alt a b = some x := by rw [h]; rfl
theorem alt_none {α : Type} {a b : Option α} (h : a = none) : alt a b = b := by rw [h]; rfl
theorem alt_or {α : Type} {a b : Option α} {x : α} (h : alt a b = some x) : a = some x ∨ b = some x := by
  cases a with
  | none => exact .inr h
  | some y => exact .inl h
def augop : Bin → D → D → Option D
  | .add, .int i, .int j => some (.int (i + j))
  | .sub, .int i, .int j => some (.int (i - j))
  | .add, .str x, .str y => if x.length + y.length ≤ sizeLine then some (.str (x ++ y)) else none
  | _, _, _ => none
def keyD : D → Option Key
  | .int i => some (.inl i)
  | .str x => some (.inr x)
  | _ => none
def valD (kvs : List (Key × D)) (k : Key) : Option D := (kvs.find? fun kv => decide (kv.1 = k)).map (·.2)
def putD (kvs : List (Key × D)) (k : Key) (v : D) : List (Key × D) :=
  if (kvs.any fun kv => decide (kv.1 = k)) = true then kvs.map (fun kv => if kv.1 = k then (kv.1, v) else kv) else kvs ++ [(k, v)]
def mergeD (kvs more : List (Key × D)) : List (Key × D) := more.foldl (fun acc kv => putD acc kv.1 kv.2) kvs
def dgetop : D → D → Store → Option D
  | .ref n, k, S => (keyD k).bind fun kk => (dctAt S n).bind fun kvs => valD kvs kk
  | _, _, _ => none
def dinop : Cmp → D → D → Store → Option Bool
  | .in_, k, .ref n, S => (keyD k).bind fun kk => (dctAt S n).map fun kvs => (valD kvs kk).isSome
  | .nin, k, .ref n, S => (keyD k).bind fun kk => (dctAt S n).map fun kvs => !(valD kvs kk).isSome
  | _, _, _, _ => none
def dputS : D → D → D → Store → Option Store
  | .ref n, k, v, S => (keyD k).bind fun kk => (dctAt S n).bind fun kvs => if kvs.length < sizeLine then some (S.set n (.dct (putD kvs kk v))) else none
  | _, _, _, _ => none
def tydop : D → Ty → Store → Option Bool
  | .ref n, t, S => (dctAt S n).map fun _ => match t with | .dict => true | _ => false
  | _, _, _ => none
/-- a list, if anything of the store -/
def okRef (S : Store) : D → Bool
  | .ref n => (listAt S n).isSome
  | _ => true
def putfS (cs : List Str) (f : Str) (o d : D) (S : Store) : Option Store := match o with
  | .ref n => (insAt S n).bind fun r => if cs.contains r.1 = true ∧ r.2.length < 1000 then some (S.set n (.ins r.1 (putFD f d r.2))) else none
  | _ => none
def fldS (cs : List Str) (f : Str) (o : D) (S : Store) : Option D := match o with
  | .ref n => (insAt S n).bind fun r => if cs.contains r.1 = true then r.2.lookup f else none
  | _ => none
def clsS (o : D) (S : Store) : Option Str := match o with
  | .ref n => (insAt S n).map (·.1)
  | _ => none
def strsD : List D → Option (List Str)
  | [] => some []
  | .str i :: r => (strsD r).map fun s => i :: s
  | _ => none
def mtop : Mt → D → List D → Store → Option (D × Store)
  | .starts, .str a, [.str b], S => some (.bl (Txt.startswith a b), S)
  | .ends, .str a, [.str b], S => some (.bl (Txt.endswith a b), S)
  | .split, .str a, [.str b], S => if (b.length == 0) = false ∧ a.length + 2 ≤ sizeLine then some (new S ((Txt.split a b).map D.str)) else none
  | .join, .str a, [.ref n], S => (listAt S n).bind fun xs => (strsD xs).bind fun ys => okI (decide ((ys.map (·.length)).sum + ys.length * a.length ≤ 16777216)) (.str (Txt.join a ys)) S
  | .join, .str a, [.tup xs], S => (strsD xs).bind fun ys => okI (decide ((ys.map (·.length)).sum + ys.length * a.length ≤ 16777216)) (.str (Txt.join a ys)) S
  | .extend, .ref m, [.ref n], S => match S[m]?, S[n]? with
    | some (.lst xs), some (.lst zs) => if xs.length + zs.length ≤ sizeLine then some (.non, S.set m (.lst (xs ++ zs))) else none
    | _, _ => none
  | .popAt, .ref m, [.int i], S => match S[m]? with
    | some (.lst xs) => if -(2 ^ 63) ≤ i ∧ i < 2 ^ 63 then (PySem.seqIndex? i xs.length).bind fun k => (xs[k]?).map fun y => (y, S.set m (.lst (xs.eraseIdx k))) else none
    | _ => none
  | .pop, .ref m, [], S => match S[m]? with
    | some (.lst xs) => (xs[xs.length - 1]?).map fun y => (y, S.set m (.lst xs.dropLast))
    | _ => none
  | .rev, .ref m, [], S => match S[m]? with
    | some (.lst xs) => some (.non, S.set m (.lst xs.reverse))
    | _ => none
  | .insert, .ref m, [.int i, y], S => match S[m]? with
    | some (.lst xs) => if xs.length < sizeLine ∧ 0 ≤ i ∧ i < 2 ^ 63 then some (.non, S.set m (.lst (xs.take i.toNat ++ [y] ++ xs.drop i.toNat))) else none
    | _ => none
  | _, _, _, _ => none
mutual
def bindT : Tg → D → Store → Env' → Option Env'
  | .nm i, d, _, e => if i < e.length then some (e.set i (some d)) else none
  | .tp n t, .tup ds, S, e => if ds.length = n then bindTs t ds S e else none
  | .tp n t, .ref m, S, e => (listAt S m).bind fun ds => if ds.length = n then bindTs t ds S e else none
  | _, _, _, _ => none
def bindTs : Tg → List D → Store → Env' → Option Env'
  | .nil, [], _, e => some e
  | .cons a r, d :: ds, S, e => (bindT a d S e).bind fun e1 => bindTs r ds S e1
  | _, _, _, _ => none
end
def wipeE (e : Env') : List Nat → Env'
  | [] => e
  | v :: vs => (wipeE e vs).set v none

/-! ## what is walked: the items, and the lists that must stay as they are -/
def chk1 (S : Store) : D → Bool
  | .tup [.ref n, .tup xs] => match listAt S n with
    | some ys => D.beqs xs ys
    | none => false
  | _ => false
def chks (S : Store) : List D → Bool
  | [] => true
  | c :: r => chk1 S c && chks S r
def itD (items cks : List D) : D := .tup [.tup items, .tup cks]
def charsD (z : Str) : List D := z.cps.toList.map fun c => D.str ⟨#[c]⟩
def itOf (S : Store) : D → Option (List D × List D)
  | .tup xs => some (xs, [])
  | .ref n => (listAt S n).map fun xs => (xs, [.tup [.ref n, .tup xs]])
  | .str z => some (charsD z, [])
  | _ => none
def itOfR (S : Store) : D → Option (List D × List D)
  | .tup xs => some (xs, [])
  | .ref n => (listAt S n).map fun xs => (xs, [.tup [.ref n, .tup xs]])
  | _ => none
def itOfL (S : Store) : D → Option (List D × List D)
  | .ref n => (listAt S n).map fun xs => (xs, [.tup [.ref n, .tup xs]])
  | _ => none
def rng (lo : Int) (n : Nat) : List D := (List.range n).map fun (i : Nat) => D.int (lo + (i : Int))
def rngs : List D → Option (List D)
  | [.int j] => if decide (-(2 ^ 62) ≤ j) && decide (j < 2 ^ 62) then some (rng 0 j.toNat) else none
  | [.int i, .int j] => if decide (-(2 ^ 62) ≤ i) && decide (i < 2 ^ 62) && decide (-(2 ^ 62) ≤ j) && decide (j < 2 ^ 62) then some (rng i (j - i).toNat) else none
  | _ => none
def enumF : Nat → List D → List D
  | _, [] => []
  | i, d :: ds => .tup [.int (i : Int), d] :: enumF (i + 1) ds
def zipF : List D → List D → List D
  | d :: ds, f :: fs => .tup [d, f] :: zipF ds fs
  | _, _ => []

def forL (bod : Env' → Store → Option (Fl × Env' × Store)) (t : Tg) (cks : List D) : List D → Env' → Store → Option (Fl × Env' × Store)
  | [], e, S => if chks S cks = true then some (.nx, e, S) else none
  | d :: ds, e, S => if chks S cks = true then
      (bindT t d S e).bind fun e1 => (bod e1 S).bind fun r => match r.1 with
        | .nx | .ct => forL bod t cks ds r.2.1 r.2.2
        | .bk => some (.nx, r.2.1, r.2.2)
        | .rt v => some (.rt v, r.2.1, r.2.2)
    else none
def lcL (cnd elt : Env' → Store → Option (D × Store)) (t : Tg) (cks : List D) (w : Env') (n : Nat) : List D → Store → Option Store
  | [], S => if chks S cks = true then some S else none
  | d :: ds, S => if chks S cks = true then
      (bindT t d S w).bind fun e1 => (cnd e1 S).bind fun b => match b.1 with
        | .bl true => (elt e1 b.2).bind fun y => (push n y.1 y.2).bind fun S' => lcL cnd elt t cks w n ds S'
        | .bl false => lcL cnd elt t cks w n ds b.2
        | _ => none
    else none
def whL (cnd : Env' → Store → Option (D × Store)) (bod : Env' → Store → Option (Fl × Env' × Store)) : Nat → Env' → Store → Option (Fl × Env' × Store)
  | 0, _, _ => none
  | k + 1, e, S => (cnd e S).bind fun b => match b.1 with
    | .bl true => (bod e b.2).bind fun r => match r.1 with
      | .nx | .ct => whL cnd bod k r.2.1 r.2.2
      | .bk => some (.nx, r.2.1, r.2.2)
      | .rt v => some (.rt v, r.2.1, r.2.2)
    | .bl false => some (.nx, e, b.2)
    | _ => none

/-! ## the machine -/
def ev (p : Pm) : C → Env' → Store → Option (D × Store)
  | .bad, _, _ => none
  | .absent, _, _ => none
  | .var i, e, S => match e[i]? with
    | some (some d) => some (d, S)
    | _ => none
  | .lit d, _, S => if isScal d then some (d, S) else none
  | .glob g, _, S => some (p.gl g, S)
  | .nil, _, S => some (.tup [], S)
  | .cons a r, e, S => (ev p a e S).bind fun x => (ev p r e x.2).bind fun y => match y.1 with
    | .tup ds => some (.tup (x.1 :: ds), y.2)
    | _ => none
  | .tup a, e, S => (ev p a e S).bind fun x => match x.1 with
    | .tup ds => okI (decide (ds.length ≤ sizeLine)) (.tup ds) x.2
    | _ => none
  | .lst a, e, S => (ev p a e S).bind fun x => match x.1 with
    | .tup ds => if ds.length ≤ sizeLine then some (new x.2 ds) else none
    | _ => none
  | .bin op a b, e, S => (ev p a e S).bind fun x => (ev p b e x.2).bind fun y => binop op x.1 y.1 y.2
  | .neg a, e, S => (ev p a e S).bind fun x => match x.1 with
    | .int i => some (.int (-i), x.2)
    | _ => none
  | .cmp op a b, e, S => (ev p a e S).bind fun x => (ev p b e x.2).bind fun y => (alt (cmpop op x.1 y.1 y.2) (dinop op x.1 y.1 y.2)).map fun r => (.bl r, y.2)
  | .chain o1 o2 a b c, e, S => (ev p a e S).bind fun x => (ev p b e x.2).bind fun y => (cmpop o1 x.1 y.1 y.2).bind fun r =>
      if r = true then (ev p c e y.2).bind fun z => (cmpop o2 y.1 z.1 z.2).map fun q => (.bl q, z.2) else some (.bl false, y.2)
  | .and_ a b, e, S => (ev p a e S).bind fun x => match x.1 with
    | .bl true => ev p b e x.2
    | .bl false => some (.bl false, x.2)
    | _ => none
  | .or_ a b, e, S => (ev p a e S).bind fun x => match x.1 with
    | .bl true => some (.bl true, x.2)
    | .bl false => ev p b e x.2
    | _ => none
  | .not_ a, e, S => (ev p a e S).bind fun x => match x.1 with
    | .bl b => some (.bl (!b), x.2)
    | _ => none
  | .ife c a b, e, S => (ev p c e S).bind fun x => match x.1 with
    | .bl true => ev p a e x.2
    | .bl false => ev p b e x.2
    | _ => none
  | .idx a b, e, S => (ev p a e S).bind fun x => (ev p b e x.2).bind fun y => (alt (idxop x.1 y.1 y.2) (dgetop x.1 y.1 y.2)).map fun d => (d, y.2)
  | .slc a lo hi, e, S => (ev p a e S).bind fun x => (part (isAbs lo) x.2 (ev p lo e x.2)).bind fun y => (part (isAbs hi) y.2 (ev p hi e y.2)).bind fun z =>
      slcop x.1 y.1 z.1 z.2
  | .kget g a, e, S => (ev p a e S).bind fun x => match x.1 with
    | .str z => (lookK (p.kd g) z).map fun d => (d, x.2)
    | _ => none
  | .kin g neg a, e, S => (ev p a e S).bind fun x => match x.1 with
    | .str z => some (.bl (if neg then !(lookK (p.kd g) z).isSome else (lookK (p.kd g) z).isSome), x.2)
    | _ => none
  | .kgetd g a b, e, S => (ev p a e S).bind fun x => (ev p b e x.2).bind fun y => match x.1 with
    | .str z => some ((lookK (p.kd g) z).getD y.1, y.2)
    | _ => none
  | .call f perm a b, e, S => (ev p a e S).bind fun x => (ev p b e x.2).bind fun y => match x.1, y.1 with
    | .tup ds, .tup fs => p.R f (pick perm (ds ++ fs)) y.2
    | _, _ => none
  | .callv f a, e, S => (ev p f e S).bind fun x => (ev p a e x.2).bind fun y => match x.1, y.1 with
    | .fn z, .tup ds => (p.fx z).bind fun i => p.R i ds y.2
    | _, _ => none
  | .bi b a, e, S => (ev p a e S).bind fun x => match x.1 with
    | .tup ds => biop b ds x.2
    | _ => none
  | .isty a t, e, S => (ev p a e S).bind fun x => (alt (tyop x.1 t x.2) (tydop x.1 t x.2)).map fun b => (.bl b, x.2)
  | .app a v, e, S => (ev p a e S).bind fun x => (ev p v e x.2).bind fun y => match x.1 with
    | .ref n => if okRef x.2 x.1 = true then (push n y.1 y.2).map fun S' => (.non, S') else none
    | _ => none
  | .mt m o a, e, S => (ev p o e S).bind fun x => (ev p a e x.2).bind fun y => match y.1 with
    | .tup ds => if okRef x.2 x.1 = true then mtop m x.1 ds y.2 else none
    | _ => none
  | .dnew, _, S => some (.ref S.length, S ++ [.dct []])
  | .fld o f cs, e, S => (ev p o e S).bind fun x => (fldS cs f x.1 x.2).map fun d => (d, x.2)
  | .mk x f a, e, S => (ev p a e S).bind fun y => match y.1 with
    | .tup ds => (p.R f (.ref y.2.length :: ds) (y.2 ++ [.ins x []])).bind fun z => match z.1 with
      | .non => some (.ref y.2.length, z.2)
      | _ => none
    | _ => none
  | .revl a, e, S => (ev p a e S).bind fun x => match x.1 with
    | .ref n => (listAt x.2 n).map fun xs => new x.2 xs.reverse
    | _ => none
  | .disp ks a, e, S => (ev p a e (S ++ [.dct []])).bind fun x => match x.1 with
    | .tup ds => match dctAt x.2 S.length with
      | some [] => if ds.length = ks.length ∧ ks.length ≤ 15 then some (.ref S.length, x.2.set S.length (.dct (mergeD [] (ks.zip ds)))) else none
      | _ => none
    | _ => none
  | .itv a, e, S => (ev p a e S).bind fun x => (itOf x.2 x.1).map fun r => (itD r.1 r.2, x.2)
  | .irng a, e, S => (ev p a e S).bind fun x => match x.1 with
    | .tup ds => (rngs ds).map fun r => (itD r [], x.2)
    | _ => none
  | .irev a, e, S => (ev p a e S).bind fun x => (itOfR x.2 x.1).map fun r => (itD r.1.reverse r.2, x.2)
  | .ienum a, e, S => (ev p a e S).bind fun x => (itOfL x.2 x.1).map fun r => (itD (enumF 0 r.1) r.2, x.2)
  | .izip a b, e, S => (ev p a e S).bind fun x => (ev p b e x.2).bind fun y => match x.1, y.1 with
    | .tup xs, .tup ys => some (itD (zipF xs ys) [], y.2)
    | .str z, .tup xs => some (itD (zipF (z.cps.toList.map fun c => D.str ⟨#[c]⟩) xs) [], y.2)
    | .tup xs, .str z => some (itD (zipF xs (z.cps.toList.map fun c => D.str ⟨#[c]⟩)) [], y.2)
    | .ref m, .ref n => (listAt y.2 m).bind fun xs => (listAt y.2 n).map fun ys => (itD (zipF xs ys) ([.tup [.ref m, .tup xs]] ++ [.tup [.ref n, .tup ys]]), y.2)
    | .ref m, .str z => (listAt y.2 m).map fun xs => (itD (zipF xs (z.cps.toList.map fun c => D.str ⟨#[c]⟩)) [.tup [.ref m, .tup xs]], y.2)
    | _, _ => none
  | .lc it t cond elt own, e, S => (ev p it e S).bind fun x => match x.1 with
    | .tup [.tup items, .tup cks] => (lcL (ev p cond) (ev p elt) t cks (wipeE e own) x.2.length items (x.2 ++ [.lst []])).map fun S' => (.ref x.2.length, S')
    | _ => none

def ex (p : Pm) : St → Env' → Store → Option (Fl × Env' × Store)
  | .skip, e, S => some (.nx, e, S)
  | .bad, _, _ => none
  | .seq a b, e, S => (ex p a e S).bind fun r => match r.1 with
    | .nx => ex p b r.2.1 r.2.2
    | f => some (f, r.2.1, r.2.2)
  | .asg t c, e, S => (ev p c e S).bind fun x => (bindT t x.1 x.2 e).map fun e1 => (.nx, e1, x.2)
  | .seti v o i, e, S => (ev p v e S).bind fun x => (ev p o e x.2).bind fun y => (ev p i e y.2).bind fun z => (alt (setS y.1 z.1 x.1 z.2) (dputS y.1 z.1 x.1 z.2)).map fun S' => (.nx, e, S')
  | .aug i op c, e, S => match e[i]? with
    | some (some d) => (ev p c e S).bind fun x => (augop op d x.1).map fun r => (.nx, e.set i (some r), x.2)
    | _ => none
  | .setf v o f cs, e, S => (ev p v e S).bind fun x => (ev p o e x.2).bind fun y => (putfS cs f y.1 x.1 y.2).map fun S' => (.nx, e, S')
  | .augf o f cs op c, e, S => (ev p o e S).bind fun x => (fldS cs f x.1 x.2).bind fun d => (ev p c e x.2).bind fun y => (augop op d y.1).bind fun z =>
      if clsS x.1 x.2 = clsS x.1 y.2 then (putfS cs f x.1 z y.2).map fun S' => (.nx, e, S') else none
  | .drop c, e, S => (ev p c e S).map fun x => (.nx, e, x.2)
  | .ret c, e, S => (ev p c e S).map fun x => (.rt x.1, e, x.2)
  | .ifs c a b, e, S => (ev p c e S).bind fun x => match x.1 with
    | .bl true => ex p a e x.2
    | .bl false => ex p b e x.2
    | _ => none
  | .for_ it t b, e, S => (ev p it e S).bind fun x => match x.1 with
    | .tup [.tup items, .tup cks] => forL (ex p b) t cks items e x.2
    | _ => none
  | .whl c b, e, S => whL (ev p c) (ex p b) p.W e S
  | .brk, e, S => some (.bk, e, S)
  | .cont, e, S => some (.ct, e, S)
end Tm

set_option Elab.async false
set_option linter.all false
set_option maxRecDepth 100000
namespace Tm
open PySem PySem.Spec PyProof.Rows L2

/-! ## from the text to the core -/
structure Gx where
  funs : List (Str × Nat × List Str)
  cons : List (Str × Nat)
  dics : List (Str × Nat)
  blt : List Str
  kws : List (Str × Nat × List Str × List Nat)
  clss : List (Str × Nat × List Str × List Str) := []
/-- the classes of which it is known that they have no such name of their own -/
def clsFor (G : Gx) (f : Str) : List Str := (G.clss.filter fun q => q.2.2.2.contains f).map (·.1)
/-- the def at a place of a class's body -/
def inCls (s : Stmt) (j : Nat) : Stmt := match s with
  | .ClassDef _ _ _ body _ _ _ _ _ _ _ => body.getD j (.Pass ⟨0, 0, 0, 0⟩)
  | _ => .Pass ⟨0, 0, 0, 0⟩
structure Cc where
  N : List Str
  names : List (Str × NameKind)
  own : Option (List (Str × NameKind))
  G : Gx
def Cc.fnOk (c : Cc) (x : Str) : Bool := match c.own with
  | none => true
  | some nm => nm.lookup x == some .cell || c.names.lookup x == some .local
def ixOf : List Str → Str → Option Nat
  | [], _ => none
  | y :: r, x => if y = x then some 0 else (ixOf r x).map (· + 1)
theorem ixOf_get : ∀ {l : List Str} {x : Str} {i : Nat}, ixOf l x = some i → l[i]? = some x
  | [], _, _, h => by simp [ixOf] at h
  | y :: r, x, i, h => by
    unfold ixOf at h
    split at h
    · rename_i e; cases h; simp [e]
    · cases e : ixOf r x with
      | none => rw [e] at h; simp at h
      | some j => rw [e] at h; simp at h; subst h; simpa using ixOf_get e
def badName (x : Str) : Bool := x == ("__debug__" : Str) || x == ("__classdict__" : Str) || x == ("__name__" : Str)
def visB (c : Cc) (x : Str) : Bool := match c.names.lookup x with
  | some .local | some .cell | some .free => true
  | _ => false
def locB (c : Cc) (x : Str) : Bool := (match c.names.lookup x with
  | some .local | some .cell => true
  | _ => false) && c.fnOk x
def glB (c : Cc) (x : Str) : Bool := match c.names.lookup x with
  | some .globalImplicit => !badName x
  | _ => false
/-- a built-in name that nothing hides -/
def bltB (c : Cc) (x : Str) : Bool := glB c x && c.G.blt.contains x
def cName (c : Cc) (x : Str) : C :=
  if badName x then .bad
  else if visB c x then (match ixOf c.N x with | some i => .var i | none => .bad)
  else if glB c x then (match c.G.cons.lookup x with | some g => .glob g | none => .bad)
  else .bad
def cConst : Const → C
  | .none => .lit .non
  | .bool b => .lit (.bl b)
  | .int i => .lit (.int i)
  | .str s => .lit (.str s)
  | _ => .bad
def cBin : Operator → Option Bin
  | .Add => some .add | .Sub => some .sub | .Mult => some .mul | .FloorDiv => some .fdiv | .Mod => some .mod | .Pow => some .pow
  | .LShift => some .shl | .RShift => some .shr | .BitAnd => some .band | .BitOr => some .bor | .BitXor => some .bxor
  | _ => none
def cCmp : CmpOp → Cmp
  | .Eq => .eq | .NotEq => .ne | .Lt => .lt | .LtE => .le | .Gt => .gt | .GtE => .ge | .Is => .is_ | .IsNot => .isn | .In => .in_ | .NotIn => .nin
def notSet : Expr → Bool
  | .Set .. => false
  | _ => true
def isSlice : Expr → Bool
  | .Slice .. => true
  | _ => false
def notStar : Expr → Bool
  | .Starred .. => false
  | _ => true
def plainBase : Expr → Bool
  | .Name .. | .Subscript .. | .Constant .. => true
  | _ => false
def mt0 (m : Str) : Option Mt := if m = "pop" then some .pop else if m = "reverse" then some .rev else none
def mt1 (m : Str) : Option Mt :=
  if m = "startswith" then some .starts else if m = "endswith" then some .ends else if m = "split" then some .split else if m = "join" then some .join
  else if m = "extend" then some .extend else if m = "pop" then some .popAt else none
def mt2 (m : Str) : Option Mt := if m = "insert" then some .insert else none
def isTup : Expr → Bool
  | .Tuple .. => true
  | _ => false
/-- the module's dicts by name -/
def dicOf (c : Cc) : Expr → Option Nat
  | .Name x _ => if glB c x then c.G.dics.lookup x else none
  | _ => none
def tyOf (c : Cc) : Expr → Option Ty
  | .Name x _ => if bltB c x then
      (if x = "int" then some .int else if x = "str" then some .str else if x = "tuple" then some .tuple else if x = "list" then some .list
       else if x = "bool" then some .bool else if x = "dict" then some .dict else none) else none
  | _ => none
def biOf (x : Str) : Option Bi :=
  if x = "len" then some .len else if x = "int" then some .int else if x = "abs" then some .abs else if x = "max" then some .max
  else if x = "min" then some .min else if x = "tuple" then some .tuple else if x = "list" then some .list else if x = "str" then some .str
  else if x = "repr" then some .repr else if x = "sum" then some .sum else if x = "all" then some .all else if x = "any" then some .any else none
def kwNames : List Keyword → Option (List Str)
  | [] => some []
  | ⟨some x, _, _⟩ :: r => (kwNames r).map fun s => x :: s
  | ⟨none, _, _⟩ :: _ => none
/-- f(..) by its name -/
def cCall (c : Cc) (x : Str) (nargs : Nat) (a : C) : C :=
  if glB c x then (match c.G.funs.lookup x with
    | some (f, ps) => if nargs = ps.length then .call f (List.range nargs) a .nil else .bad
    | none => if c.G.blt.contains x then (match biOf x with | some b => .bi b a | none => .bad) else .bad)
  else .bad
def cIsTy (a : C) : Option Ty → C
  | some t => .isty a t
  | none => .bad
mutual
def cTg (n : Nat) (c : Cc) : Expr → Tg
  | .Name x _ => if locB c x then (match ixOf c.N x with | some i => .nm i | none => .bad) else .bad
  | .Tuple es _ _ => match n with
    | 0 => .bad
    | k + 1 => .tp es.length (cTgs k c es)
  | _ => .bad
def cTgs (n : Nat) (c : Cc) : List Expr → Tg
  | [] => .nil
  | e :: es => match n with
    | 0 => .bad
    | k + 1 => if notStar e then .cons (cTg k c e) (cTgs k c es) else .bad
end
/-- the slots that a target stores -/
def tgIn (own : List Nat) : Tg → Bool
  | .nm i => own.contains i
  | .tp _ t => tgIn own t
  | .nil => true
  | .cons a r => tgIn own a && tgIn own r
  | .bad => true
def relN (sc scope : List (Str × NameKind)) : List (Str × NameKind) :=
  scope.map fun (n, k) => if (k == NameKind.free && sc.lookup n == some .cell) then (n, NameKind.cell) else (n, k)
def ownOf (N : List Str) (names : List (Str × NameKind)) : List (Str × Nat) :=
  names.filterMap fun (n, k) => match k with
    | .local | .cell => (ixOf N n).map fun i => (n, i)
    | _ => none
def blkCc (c : Cc) (names : List (Str × NameKind)) : Cc := { N := c.N, names := relN c.names names, own := some names, G := c.G }

mutual
def cE (n : Nat) (c : Cc) (e : Expr) : C := match n with
  | 0 => .bad
  | n + 1 => match e with
    | .Name x _ => cName c x
    | .Constant k _ _ => cConst k
    | .BinOp a op b _ => match cBin op with
      | some o => .bin o (cE n c a) (cE n c b)
      | none => .bad
    | .UnaryOp op a _ => match op with
      | .USub => .neg (cE n c a)
      | .Not => .not_ (cE n c a)
      | _ => .bad
    | .Compare a ops bs _ => match ops, bs with
      | [op], [b] => if notSet b then (match dicOf c b with
          | some g => (match op with | .In => .kin g false (cE n c a) | .NotIn => .kin g true (cE n c a) | _ => .bad)
          | none => .cmp (cCmp op) (cE n c a) (cE n c b)) else .bad
      | [o1, o2], [b, d] => if !notSet d then .bad else .chain (cCmp o1) (cCmp o2) (cE n c a) (cE n c b) (cE n c d)
      | _, _ => .bad
    | .BoolOp op es _ => match op, es with
      | .And, a :: r => cAnd n c a r
      | .Or, a :: r => cOr n c a r
      | _, _ => .bad
    | .IfExp t a b _ => .ife (cT n c t) (cE n c a) (cE n c b)
    | .Tuple es _ _ => .tup (cEs n c es)
    | .List es _ => .lst (cEs n c es)
    | .Subscript a b _ => match b with
      | .Slice lo hi st _ => (match st with
        | none => .slc (cE n c a) (cO n c lo) (cO n c hi)
        | some (.UnaryOp .USub (.Constant (.int 1) _ _) _) => (match lo, hi with
          | none, none => .revl (cE n c a)
          | _, _ => .bad)
        | some _ => .bad)
      | b => (match dicOf c a with
        | some g => .kget g (cE n c b)
        | none => .idx (cE n c a) (cE n c b))
    | .Call f es kws ps => match kws with
      | [] => (match f with
        | .Name x _ => if x = ("isinstance" : Str) then (if bltB c x then (match es with
              | [a, t] => if notStar a then cIsTy (cE n c a) (tyOf c t) else .bad
              | _ => .bad) else .bad)
            else if es.length = 0 then .bad else if (glB c x && (c.G.clss.lookup x).isSome) then (match c.G.clss.lookup x with
              | some (f, ps, _) => if es.length + 1 = ps.length then .mk x f (cEs n c es) else .bad
              | none => .bad)
            else if visB c x then .callv (cName c x) (cEs n c es) else cCall c x es.length (cEs n c es)
        | .Attribute o m ap => if !(ap.endLine == ps.line) then .bad else if m = ("append" : Str) then (match es with
              | [v] => if notStar v && plainBase o then .app (cE n c o) (cE n c v) else .bad
              | _ => .bad)
            else if m = ("get" : Str) then (match dicOf c o, es with
              | some g, [a, b] => if notStar a && notStar b then .kgetd g (cE n c a) (cE n c b) else .bad
              | _, _ => .bad)
            else if !plainBase o then .bad else (match es with
              | [] => (match mt0 m with | some q => .mt q (cE n c o) .nil | none => .bad)
              | [a] => if notStar a then (match mt1 m with | some q => .mt q (cE n c o) (.cons (cE n c a) .nil) | none => .bad) else .bad
              | [a, b] => if notStar a && notStar b then (match mt2 m with | some q => .mt q (cE n c o) (.cons (cE n c a) (.cons (cE n c b) .nil)) | none => .bad) else .bad
              | _ => .bad)
        | _ => .bad)
      | kws => (match f with
        | .Name x _ => if glB c x && es.all notStar then (match c.G.funs.lookup x, kwNames kws with
            | some (f, ps), some ks => (match c.G.kws.find? (fun q => q.1 = x && q.2.1 = es.length && q.2.2.1 = ks) with
              | some q => .call f q.2.2.2 (cEs n c es) (cKs n c kws)
              | none => .bad)
            | _, _ => .bad) else .bad
        | _ => .bad)
    | .Attribute o f _ => if !plainBase o then .bad else .fld (cE n c o) f (clsFor c.G f)
    | .Dict ks vs _ => (match ks, vs with
      | [], [] => .dnew
      | _, _ => .bad)
    | .ListComp elt gs scope _ => match gs with
      | [⟨tg, it, ifs, 0⟩] =>
        let own := ownOf c.N scope.names
        let b := blkCc c scope.names
        let t := cTg n b tg
        if blkC c.N { kind := .function, names := c.names, isGenerator := false, isCoroutine := false } scope own && tgIn (own.map (·.2)) t && notSet it then
          .lc (cI n c (isTup tg) it) t (match ifs with | [] => .lit (.bl true) | [f] => cT n b f | _ => .bad) (cE n b elt) (own.map (·.2))
        else .bad
      | _ => .bad
    | _ => .bad
def cEs (n : Nat) (c : Cc) (es : List Expr) : C := match n with
  | 0 => .bad
  | n + 1 => match es with
    | [] => .nil
    | e :: r => if notStar e then .cons (cE n c e) (cEs n c r) else .bad
def cKs (n : Nat) (c : Cc) (ks : List Keyword) : C := match n with
  | 0 => .bad
  | n + 1 => match ks with
    | [] => .nil
    | ⟨_, e, _⟩ :: r => .cons (cE n c e) (cKs n c r)
def cAnd (n : Nat) (c : Cc) (a : Expr) (r : List Expr) : C := match n with
  | 0 => .bad
  | n + 1 => match r with
    | [] => cE n c a
    | b :: s => .and_ (cE n c a) (cAnd n c b s)
def cOr (n : Nat) (c : Cc) (a : Expr) (r : List Expr) : C := match n with
  | 0 => .bad
  | n + 1 => match r with
    | [] => cE n c a
    | b :: s => .or_ (cE n c a) (cOr n c b s)
/-- a test -/
def cT (n : Nat) (c : Cc) (e : Expr) : C := match n with
  | 0 => .bad
  | n + 1 => match e with
    | .BoolOp op es _ => match op, es with
      | .And, a :: r => cTAnd n c a r
      | .Or, a :: r => cTOr n c a r
      | _, _ => .bad
    | .UnaryOp op a _ => match op with
      | .Not => .not_ (cT n c a)
      | _ => .bad
    | .IfExp .. => .bad
    | .Compare a ops bs _ => match ops, bs with
      | [op], [b] => if notSet b then (match dicOf c b with
          | some g => (match op with | .In => .kin g false (cE n c a) | .NotIn => .kin g true (cE n c a) | _ => .bad)
          | none => .cmp (cCmp op) (cE n c a) (cE n c b)) else .bad
      | [o1, o2], [b, d] => if !notSet d then .bad else .chain (cCmp o1) (cCmp o2) (cE n c a) (cE n c b) (cE n c d)
      | _, _ => .bad
    | e => cE n c e
def cTAnd (n : Nat) (c : Cc) (a : Expr) (r : List Expr) : C := match n with
  | 0 => .bad
  | n + 1 => match r with
    | [] => cT n c a
    | b :: s => .and_ (cT n c a) (cTAnd n c b s)
def cTOr (n : Nat) (c : Cc) (a : Expr) (r : List Expr) : C := match n with
  | 0 => .bad
  | n + 1 => match r with
    | [] => cT n c a
    | b :: s => .or_ (cT n c a) (cTOr n c b s)
def cO (n : Nat) (c : Cc) (e : Option Expr) : C := match n with
  | 0 => .bad
  | n + 1 => match e with
    | none => .absent
    | some e => if isAbs (cE n c e) then .bad else cE n c e
/-- what is walked -/
def cI (n : Nat) (c : Cc) (tp : Bool) (e : Expr) : C := match n with
  | 0 => .bad
  | n + 1 => match e with
    | .Call f es kws _ => match f, kws with
      | .Name x _, [] =>
        if x = ("range" : Str) then (if bltB c x && (es.length == 1 || es.length == 2) then .irng (cEs n c es) else .bad)
        else if x = ("reversed" : Str) then (match es with | [a] => if bltB c x && notStar a then .irev (cE n c a) else .bad | _ => .bad)
        else if x = ("enumerate" : Str) then (match es with | [a] => if tp && bltB c x && notStar a then .ienum (cE n c a) else .bad | _ => .bad)
        else if x = ("zip" : Str) then (match es with | [a, b] => if tp && bltB c x && notStar a && notStar b then .izip (cE n c a) (cE n c b) else .bad | _ => .bad)
        else .itv (cE n c e)
      | _, _ => .itv (cE n c e)
    | e => .itv (cE n c e)
end
end Tm

set_option Elab.async false
set_option linter.all false
set_option maxRecDepth 100000
set_option maxHeartbeats 4000000
namespace Tm
open PySem PySem.Spec PyProof.Rows L2

theorem op_powW {X : Cx} : OpR X (binaryOp .Pow) (rI (fun i j => 0 ≤ j ∧ (Builtin.Int.intBits i : Int) * j ≤ 2 ^ 27) fun i j => .int (i ^ j.toNat)) := opI fun _ _ _ _ _ _ _ hc q => pow_int hc.1 hc.2 q
theorem bits_lt {i : Int} {n : Nat} (h : i.natAbs < 2 ^ n) : Builtin.Int.intBits i ≤ n := by
  unfold Builtin.Int.intBits
  by_cases q : i = 0
  · rw [if_pos (by simp [q])]; exact Nat.zero_le _
  · rw [if_neg (by simp [q])]
    have h0 : i.natAbs ≠ 0 := by omega
    have := (Nat.log2_lt h0).2 h
    omega
/-! ## data -/
section
variable {K : PySem.W.Frag} {ρ : List Addr} {H : Hp} {S : Store}
mutual
theorem dpG {g : Nat → Option PyData} (hg : ∀ (n : Nat) (a : Addr) (x : PyData), ρ[n]? = some a → g n = some x → Dp K H (.ref a) x) : ∀ {v : V} {d : D}, Rep K ρ H v d → ∀ {x : PyData}, pdG g d = some x → Dp K H v x
  | _, _, .non, x, h => by simp only [pdG, Option.some.injEq] at h; subst h; exact .non
  | _, _, .bl b, x, h => by simp only [pdG, Option.some.injEq] at h; subst h; exact .bl b
  | _, _, .int i, x, h => by simp only [pdG, Option.some.injEq] at h; subst h; exact .int i
  | _, _, .str z, x, h => by simp only [pdG, Option.some.injEq] at h; subst h; exact .str z
  | _, _, .fn _, x, h => by simp only [pdG] at h; cases h
  | _, _, .tup ht r, x, h => by
    simp only [pdG, Option.map_eq_some_iff] at h
    obtain ⟨xs, h1, rfl⟩ := h
    exact .tup ht (dpsG hg r h1)
  | _, _, .ref e, x, h => by
    simp only [pdG] at h
    exact hg _ _ _ e h
theorem dpsG {g : Nat → Option PyData} (hg : ∀ (n : Nat) (a : Addr) (x : PyData), ρ[n]? = some a → g n = some x → Dp K H (.ref a) x) : ∀ {vs : List V} {ds : List D}, Reps K ρ H vs ds → ∀ {xs : List PyData}, pdsG g ds = some xs → DpAll K H vs xs
  | _, _, .nil, xs, h => by simp only [pdsG, Option.some.injEq] at h; subst h; exact .nil
  | _, _, .cons r t, xs, h => by
    simp only [pdsG, Option.bind_eq_some_iff, Option.map_eq_some_iff] at h
    obtain ⟨y, h1, ys, h2, rfl⟩ := h
    exact .cons (dpG hg r h1) (dpsG hg t h2)
end
theorem dpN (sm : Sim K ρ S H) : ∀ (k n : Nat) (a : Addr) (x : PyData), ρ[n]? = some a → pdN S k n = some x → Dp K H (.ref a) x
  | 0, n, a, x, _, h => by simp [pdN] at h
  | k + 1, n, a, x, e, h => by
    simp only [pdN, Option.bind_eq_some_iff, Option.map_eq_some_iff] at h
    obtain ⟨xs, h1, ys, h2, rfl⟩ := h
    obtain ⟨vs, hs, r⟩ := sm.list h1 e
    exact .lst hs (dpsG (fun n a x => dpN sm k n a x) r h2)
theorem dp_of (sm : Sim K ρ S H) {v : V} {d : D} {x : PyData} (r : Rep K ρ H v d) (h : pd S d = some x) : Dp K H v x := dpG (dpN sm 60) r h
theorem dps_of (sm : Sim K ρ S H) {vs : List V} {ds : List D} {xs : List PyData} (r : Reps K ρ H vs ds) (h : pds S ds = some xs) : DpAll K H vs xs := dpsG (dpN sm 60) r h
theorem rep_scal {v : V} {d : D} (r : Rep K ρ H v d) (h : isScal d = true) : flatV v = true := by
  cases r <;> first | rfl | simp [isScal] at h
theorem reps_scal : ∀ {vs : List V} {ds : List D}, Reps K ρ H vs ds → ds.all isScal = true → vs.all flatV = true
  | _, _, .nil, _ => rfl
  | _, _, .cons r t, h => by
    simp only [List.all_cons, Bool.and_eq_true] at h ⊢
    exact ⟨rep_scal r h.1, reps_scal t h.2⟩
theorem scEq_eqV {v w : V} {d f : D} (r : Rep K ρ H v d) (q : Rep K ρ H w f) (hd : isScal d = true) (hf : isScal f = true) : eqV v w = scEq d f := by
  cases r <;> cases q <;> first | rfl | (simp [isScal] at hd; done) | (simp [isScal] at hf; done) | (simp [eqV, scEq]; done) | skip
end

/-! ## operators -/
/-- what follows, once d is the answer and S' the store -/
def Aft (K : PySem.W.Frag) (ρ : List Addr) (H : Hp) (S' : Store) (d : D) (Q : VK) : Prop :=
  ∀ (ρ' : List Addr) (H' : Hp) (v : V), Pre ρ ρ' → Gro H H' → Sim K ρ' S' H' → Rep K ρ' H' v d → Q v H'
section
variable {K : PySem.W.Frag} {ρ ρ' : List Addr} {H H' : Hp} {S S' : Store} {d : D} {Q : VK}
theorem Aft.mono (k : Aft K ρ H S' d Q) (p : Pre ρ ρ') (g : Gro H H') : Aft K ρ' H' S' d Q := fun _ _ v p' g' s r => k _ _ v (p.trans p') (g.trans g') s r
theorem Aft.here (k : Aft K ρ H S' d Q) (s : Sim K ρ S' H) {v : V} (r : Rep K ρ H v d) : Q v H := k ρ H v (Pre.refl ρ) (Gro.refl H) s r
/-- a tuple is made -/
theorem Aft.tup {ds : List D} {vs : List V} (k : Aft K ρ H S' (.tup ds) Q) (s : Sim K ρ S' H) (r : Reps K ρ H vs ds) {p : Addr} (hp : H p = none) : Q (.ref p) (upd H p (.tup vs)) :=
  k ρ _ _ (Pre.refl ρ) (Gro.new hp) (s.tup hp) (.tup (SqT.of upd_same) (r.mono (Gro.new hp) (Pre.refl ρ)))
/-- a list is made -/
theorem Aft.lst {ds : List D} {vs : List V} (k : Aft K ρ H (S ++ [.lst ds]) (.ref S.length) Q) (s : Sim K ρ S H) (r : Reps K ρ H vs ds) {p : Addr} (hp : H p = none) : Q (.ref p) (upd H p (.lst vs)) :=
  k (ρ ++ [p]) _ _ (Pre.app ρ p) (Gro.new hp) (s.new hp r) (.ref (by rw [← s.len, List.getElem?_append_right (Nat.le_refl _)]; simp))
end
theorem okI_some {b : Bool} {d : D} {S : Store} {x : D × Store} (h : okI b d S = some x) : b = true ∧ x = (d, S) := by
  unfold okI at h
  split at h
  · exact ⟨by assumption, (Option.some.inj h).symm⟩
  · cases h
/-- a two-place operation by the machine's own f -/
def rOp (K : PySem.W.Frag) (f : D → D → Store → Option (D × Store)) : R2 := fun v w H Q => ∃ (ρ : List Addr) (S : Store) (a b d : D) (S' : Store), Sim K ρ S H ∧ Rep K ρ H v a ∧ Rep K ρ H w b ∧ f a b S = some (d, S') ∧ Aft K ρ H S' d Q
section
variable {X : Cx}
theorem op_bin {o : Operator} {b : Bin} (hb : cBin o = some b) : OpR X (binaryOp o) (rOp X.K (binop b)) := by
  intro pins s σ H x y v u Q I rx ry h
  obtain ⟨ρ, S, da, db, d, S', sm, ra, rb, e, k⟩ := h
  cases o <;> simp only [cBin, Option.some.injEq, reduceCtorEq] at hb <;> subst hb
  · -- Add
    cases ra with
    | int i => cases rb with
      | int j => cases e; exact op_add pins s σ H _ _ v u Q I rx ry ⟨i, j, rfl, rfl, k.here sm (.int _)⟩
      | _ => cases e
    | str i => cases rb with
      | str j =>
        obtain ⟨c, e⟩ := okI_some e
        cases e
        exact op_add_str pins s σ H _ _ v u Q I rx ry ⟨i, j, rfl, rfl, of_decide_eq_true c, k.here sm (.str _)⟩
      | _ => cases e
    | tup h1 r1 => cases rb with
      | tup h2 r2 =>
        obtain ⟨c, e⟩ := okI_some e
        cases e
        have c := of_decide_eq_true c
        rw [← r1.length, ← r2.length] at c
        refine op_catA pins s σ H _ _ v u Q I rx ry ⟨_, _, _, _, rfl, rfl, h1, h2, c, fun z => ?_, fun _ z => ?_, fun _ _ p hp => k.tup sm (r1.append r2) hp⟩
        · subst z
          cases r1
          exact k.here sm (.tup h2 r2)
        · subst z
          cases r2
          exact k.here sm (.tup h1 (by rw [List.append_nil]; exact r1))
      | _ => cases e
    | ref e1 => cases rb with
      | ref e2 =>
        simp only [binop] at e
        split at e
        · rename_i xs ys q1 q2
          split at e
          · rename_i c
            cases e
            obtain ⟨vs, h1, r1⟩ := sm.obj _ _ _ q1 e1
            obtain ⟨ws, h2, r2⟩ := sm.obj _ _ _ q2 e2
            refine op_cat pins s σ H _ _ v u Q I rx ry ⟨_, _, vs, ws, rfl, rfl, h1, h2, by rw [r1.length, r2.length]; exact c, fun p hp => k.lst sm (r1.append r2) hp⟩
          · cases e
        · cases e
      | _ => cases e
    | _ => cases e
  · cases ra with
    | int i => cases rb with
      | int j => cases e; exact op_sub pins s σ H _ _ v u Q I rx ry ⟨i, j, rfl, rfl, k.here sm (.int _)⟩
      | _ => cases e
    | _ => cases e
  · -- Mult
    cases ra with
    | int i => cases rb with
      | int j =>
        obtain ⟨c, e⟩ := okI_some e
        cases e
        rw [Bool.or_eq_true, decide_eq_true_eq, decide_eq_true_eq] at c
        rcases c with c' | c'
        · exact op_mulW pins s σ H _ _ v u Q I rx ry ⟨i, j, rfl, rfl, c', k.here sm (.int _)⟩
        · exact op_mul pins s σ H _ _ v u Q I rx ry ⟨i, j, rfl, rfl, .inr ⟨by omega, by omega⟩, k.here sm (.int _)⟩
      | _ => cases e
    | tup h1 r1 => cases rb with
      | int j =>
        obtain ⟨c, e⟩ := okI_some e
        cases e
        simp only [Bool.and_eq_true, decide_eq_true_eq, Bool.not_eq_true', List.isEmpty_eq_false_iff] at c
        obtain ⟨⟨⟨c0, c1⟩, c2⟩, c3⟩ := c
        refine op_repT pins s σ H _ _ v u Q I rx ry ⟨_, j, _, rfl, rfl, h1, fun z => ?_, c1, c2, by rw [r1.length]; exact c3, fun p hp => k.tup sm (r1.flat _) hp⟩
        subst z
        cases r1
        exact c0 rfl
      | _ => cases e
    | ref e1 => cases rb with
      | int j =>
        simp only [binop] at e
        split at e
        · rename_i xs q1
          split at e
          · rename_i c
            cases e
            simp only [Bool.and_eq_true, decide_eq_true_eq] at c
            obtain ⟨⟨c1, c2⟩, c3⟩ := c
            obtain ⟨vs, h1, r1⟩ := sm.obj _ _ _ q1 e1
            refine op_rep pins s σ H _ _ v u Q I rx ry ⟨_, j, vs, rfl, rfl, h1, c1, c2, by rw [r1.length]; exact c3, fun p hp => k.lst sm (r1.flat _) hp⟩
          · cases e
        · cases e
      | _ => cases e
    | _ => cases e
  · cases ra with
    | int i => cases rb with
      | int j => 
        obtain ⟨c, e⟩ := okI_some e
        cases e
        simp only [Bool.and_eq_true, decide_eq_true_eq] at c
        exact op_mod pins s σ H _ _ v u Q I rx ry ⟨i, j, rfl, rfl, c, k.here sm (.int _)⟩
      | _ => cases e
    | _ => cases e
  · cases ra with
    | int i => cases rb with
      | int j => 
        obtain ⟨c, e⟩ := okI_some e
        cases e
        simp only [Bool.and_eq_true, decide_eq_true_eq] at c
        exact op_powW pins s σ H _ _ v u Q I rx ry ⟨i, j, rfl, rfl, c, k.here sm (.int _)⟩
      | _ => cases e
    | _ => cases e
  · cases ra with
    | int i => cases rb with
      | int j => 
        obtain ⟨c, e⟩ := okI_some e
        cases e
        simp only [Bool.and_eq_true, decide_eq_true_eq] at c
        exact op_shl pins s σ H _ _ v u Q I rx ry ⟨i, j, rfl, rfl, ⟨c.1.1, c.1.2, c.2⟩, k.here sm (.int _)⟩
      | _ => cases e
    | _ => cases e
  · cases ra with
    | int i => cases rb with
      | int j => 
        obtain ⟨c, e⟩ := okI_some e
        cases e
        simp only [Bool.and_eq_true, decide_eq_true_eq] at c
        exact op_shr pins s σ H _ _ v u Q I rx ry ⟨i, j, rfl, rfl, c, k.here sm (.int _)⟩
      | _ => cases e
    | _ => cases e
  · cases ra with
    | int i => cases rb with
      | int j => cases e; exact op_or pins s σ H _ _ v u Q I rx ry ⟨i, j, rfl, rfl, k.here sm (.int _)⟩
      | _ => cases e
    | _ => cases e
  · cases ra with
    | int i => cases rb with
      | int j => cases e; exact op_xor pins s σ H _ _ v u Q I rx ry ⟨i, j, rfl, rfl, k.here sm (.int _)⟩
      | _ => cases e
    | _ => cases e
  · cases ra with
    | int i => cases rb with
      | int j => cases e; exact op_and pins s σ H _ _ v u Q I rx ry ⟨i, j, rfl, rfl, k.here sm (.int _)⟩
      | _ => cases e
    | _ => cases e
  · cases ra with
    | int i => cases rb with
      | int j => 
        obtain ⟨c, e⟩ := okI_some e
        cases e
        simp only [Bool.and_eq_true, decide_eq_true_eq] at c
        exact op_fdivW pins s σ H _ _ v u Q I rx ry ⟨i, j, rfl, rfl, ⟨c.1, c.2⟩, k.here sm (.int _)⟩
      | _ => cases e
    | _ => cases e

/-- a comparison by the machine's own f -/
def rCmp (K : PySem.W.Frag) (f : D → D → Store → Option Bool) : R2 := fun v w H Q => ∃ (ρ : List Addr) (S : Store) (a b : D) (r : Bool), Sim K ρ S H ∧ Rep K ρ H v a ∧ Rep K ρ H w b ∧ f a b S = some r ∧ Q (.bl r) H
theorem op_eqM (hu : X.A.units + 64 < cLine) : OpR X (compareOp .Eq) (rCmp X.K fun a b S => eqD S a b) := by
  intro pins s σ H x y v u Q I rx ry h
  obtain ⟨ρ, S, da, db, r, sm, ra, rb, e, k⟩ := h
  have deep : ∀ {p q : PyData}, pd S da = some p → pd S db = some q → SeqAt.shaped p = true → SeqAt.shaped q = true → PyData.eqv p q = r → wpAny (model X.prog X.w) X.A (compareOp .Eq v u) (EP X pins σ Q) X.xe s := fun {p q} hp hq sp sq er => by
    subst er
    exact op_eqD hu pins s σ H x y v u Q I rx ry ⟨p, q, dp_of sm ra hp, dp_of sm rb hq, sp, sq, k⟩
  have gen : (pd S da).bind (fun x => (pd S db).bind fun y => if (SeqAt.shaped x && SeqAt.shaped y) = true then some (PyData.eqv x y) else none) = some r → wpAny (model X.prog X.w) X.A (compareOp .Eq v u) (EP X pins σ Q) X.xe s := fun g => by
    simp only [Option.bind_eq_some_iff] at g
    obtain ⟨p, hp, q, hq, g⟩ := g
    split at g
    · rename_i c
      rw [Bool.and_eq_true] at c
      exact deep hp hq c.1 c.2 (Option.some.inj g)
    · cases g
  cases ra with
  | int i => cases rb with
    | int j => cases e; exact op_eq pins s σ H _ _ v u Q I rx ry ⟨rfl, by rw [show decide (V.int i = V.int j) = decide (i = j) by simp]; exact k⟩
    | _ => exact gen e
  | str i => cases rb with
    | str j => cases e; exact op_eq pins s σ H _ _ v u Q I rx ry ⟨rfl, by rw [show decide (V.str i = V.str j) = decide (i = j) by simp]; exact k⟩
    | _ => exact gen e
  | bl i => cases rb with
    | bl j => cases e; exact op_eq pins s σ H _ _ v u Q I rx ry ⟨rfl, by rw [show decide (V.bl i = V.bl j) = decide (i = j) by simp]; exact k⟩
    | _ => exact gen e
  | non => cases rb with
    | non => cases e; exact op_eq pins s σ H _ _ v u Q I rx ry ⟨rfl, k⟩
    | _ => exact gen e
  | tup h1 r1 => exact gen (by cases rb <;> exact e)
  | ref h1 => exact gen (by cases rb <;> exact e)
  | fn h1 => exact gen (by cases rb <;> exact e)
theorem op_neM (hu : X.A.units + 64 < cLine) : OpR X (compareOp .NotEq) (rCmp X.K fun a b S => (eqD S a b).map (!·)) := by
  intro pins s σ H x y v u Q I rx ry h
  obtain ⟨ρ, S, da, db, r, sm, ra, rb, e, k⟩ := h
  simp only [Option.map_eq_some_iff] at e
  obtain ⟨r, e, rfl⟩ := e
  have gen : (pd S da).bind (fun x => (pd S db).bind fun y => if (SeqAt.shaped x && SeqAt.shaped y) = true then some (PyData.eqv x y) else none) = some r → wpAny (model X.prog X.w) X.A (compareOp .NotEq v u) (EP X pins σ Q) X.xe s := fun g => by
    simp only [Option.bind_eq_some_iff] at g
    obtain ⟨p, hp, q, hq, g⟩ := g
    split at g
    · rename_i c
      rw [Bool.and_eq_true] at c
      have er := Option.some.inj g
      subst er
      exact op_neD hu pins s σ H x y v u Q I rx ry ⟨p, q, dp_of sm ra hp, dp_of sm rb hq, c.1, c.2, k⟩
    · cases g
  cases ra with
  | int i => cases rb with
    | int j => cases e; exact op_ne pins s σ H _ _ v u Q I rx ry ⟨rfl, by rw [show decide (V.int i = V.int j) = decide (i = j) by simp]; exact k⟩
    | _ => exact gen e
  | str i => cases rb with
    | str j => cases e; exact op_ne pins s σ H _ _ v u Q I rx ry ⟨rfl, by rw [show decide (V.str i = V.str j) = decide (i = j) by simp]; exact k⟩
    | _ => exact gen e
  | bl i => cases rb with
    | bl j => cases e; exact op_ne pins s σ H _ _ v u Q I rx ry ⟨rfl, by rw [show decide (V.bl i = V.bl j) = decide (i = j) by simp]; exact k⟩
    | _ => exact gen e
  | non => cases rb with
    | non => cases e; exact op_ne pins s σ H _ _ v u Q I rx ry ⟨rfl, k⟩
    | _ => exact gen e
  | tup h1 r1 => exact gen (by cases rb <;> exact e)
  | ref h1 => exact gen (by cases rb <;> exact e)
  | fn h1 => exact gen (by cases rb <;> exact e)
theorem any_scEq {K : PySem.W.Frag} {ρ : List Addr} {H : Hp} {x : V} {d : D} (rx : Rep K ρ H x d) (hx : isScal d = true) : ∀ {vs : List V} {ds : List D}, Reps K ρ H vs ds → ds.all isScal = true → inV x vs = ds.any fun y => scEq y d
  | _, _, .nil, _ => rfl
  | _, _, .cons r t, h => by
    simp only [List.all_cons, Bool.and_eq_true] at h
    have q := any_scEq rx hx t h.2
    unfold inV at q ⊢
    rw [List.any_cons, List.any_cons, q, scEq_eqV r rx h.1 hx]
/-- x in y, x not in y by one proof: n is the sign -/
theorem op_inM (hu : X.A.units + 65 < cLine) : OpR X (compareOp .In) (rCmp X.K fun a b S => inD S a b) := by
  intro pins s σ H x y v u Q I rx ry h
  obtain ⟨ρ, S, da, db, r, sm, ra, rb, e, k⟩ := h
  cases rb with
  | tup h1 r1 =>
    simp only [inD] at e
    split at e
    · rename_i c
      rw [Bool.and_eq_true] at c
      cases e
      refine op_in_seq pins s σ H _ _ v u Q I rx ry ⟨_, _, rfl, .inr h1, rep_scal ra c.1, reps_scal r1 c.2, ?_⟩
      show Q (.bl (inV _ _)) H
      rw [any_scEq ra c.1 r1 c.2]
      exact k
    · cases e
  | ref h1 =>
    simp only [inD, Option.bind_eq_some_iff] at e
    obtain ⟨ys, hl, e⟩ := e
    obtain ⟨vs, hq, r1⟩ := sm.list hl h1
    split at e
    · rename_i c
      rw [Bool.and_eq_true] at c
      cases e
      refine op_in_seq pins s σ H _ _ v u Q I rx ry ⟨_, _, rfl, .inl hq, rep_scal ra c.1, reps_scal r1 c.2, ?_⟩
      show Q (.bl (inV _ _)) H
      rw [any_scEq ra c.1 r1 c.2]
      exact k
    · simp only [Option.bind_eq_some_iff] at e
      obtain ⟨p, hp, q, hqs, e⟩ := e
      split at e
      · rename_i c
        rw [Bool.and_eq_true] at c
        cases e
        exact op_inD hu pins s σ H _ _ v u Q I rx ry ⟨p, q, dp_of sm ra hp, .lst hq (dps_of sm r1 hqs), c.1, c.2, k⟩
      · cases e
  | str z =>
    cases ra with
    | str w =>
      simp only [inD] at e
      split at e
      · rename_i c hc
        cases e
        have hw : w = ⟨#[c]⟩ := by
          cases w with | mk a => cases a with | mk l => simp at hc; rw [hc]
        refine op_in_sign pins s σ H _ _ v u Q I rx ry ⟨c, z, by rw [hw], rfl, k⟩
      · cases e
    | _ => cases e
  | _ => cases e
theorem op_ninM (hu : X.A.units + 65 < cLine) : OpR X (compareOp .NotIn) (rCmp X.K fun a b S => (inD S a b).map (!·)) := by
  intro pins s σ H x y v u Q I rx ry h
  obtain ⟨ρ, S, da, db, r, sm, ra, rb, e, k⟩ := h
  simp only [Option.map_eq_some_iff] at e
  obtain ⟨r, e, rfl⟩ := e
  cases rb with
  | tup h1 r1 =>
    simp only [inD] at e
    split at e
    · rename_i c
      rw [Bool.and_eq_true] at c
      cases e
      refine op_notIn_seq pins s σ H _ _ v u Q I rx ry ⟨_, _, rfl, .inr h1, rep_scal ra c.1, reps_scal r1 c.2, ?_⟩
      show Q (.bl (!inV _ _)) H
      rw [any_scEq ra c.1 r1 c.2]
      exact k
    · cases e
  | ref h1 =>
    simp only [inD, Option.bind_eq_some_iff] at e
    obtain ⟨ys, hl, e⟩ := e
    obtain ⟨vs, hq, r1⟩ := sm.list hl h1
    split at e
    · rename_i c
      rw [Bool.and_eq_true] at c
      cases e
      refine op_notIn_seq pins s σ H _ _ v u Q I rx ry ⟨_, _, rfl, .inl hq, rep_scal ra c.1, reps_scal r1 c.2, ?_⟩
      show Q (.bl (!inV _ _)) H
      rw [any_scEq ra c.1 r1 c.2]
      exact k
    · simp only [Option.bind_eq_some_iff] at e
      obtain ⟨p, hp, q, hqs, e⟩ := e
      split at e
      · rename_i c
        rw [Bool.and_eq_true] at c
        cases e
        exact op_notInD hu pins s σ H _ _ v u Q I rx ry ⟨p, q, dp_of sm ra hp, .lst hq (dps_of sm r1 hqs), c.1, c.2, k⟩
      · cases e
  | str z =>
    cases ra with
    | str w =>
      simp only [inD] at e
      split at e
      · rename_i c hc
        cases e
        have hw : w = ⟨#[c]⟩ := by
          cases w with | mk a => cases a with | mk l => simp at hc; rw [hc]
        refine op_notIn_sign pins s σ H _ _ v u Q I rx ry ⟨c, z, by rw [hw], rfl, k⟩
      · cases e
    | _ => cases e
  | _ => cases e
theorem op_cmpM (hu : X.A.units + 65 < cLine) (o : CmpOp) : OpR X (compareOp o) (rCmp X.K (cmpop (cCmp o))) := by
  cases o with
  | Eq => exact op_eqM (Nat.lt_trans (Nat.lt_succ_self _) hu)
  | NotEq => exact op_neM (Nat.lt_trans (Nat.lt_succ_self _) hu)
  | In => exact op_inM hu
  | NotIn => exact op_ninM hu
  | Lt | LtE | Gt | GtE =>
    intro pins s σ H x y v u Q I rx ry h
    obtain ⟨ρ, S, da, db, r, sm, ra, rb, e, k⟩ := h
    cases ra with
    | int i => cases rb with
      | int j =>
        cases e
        first
          | exact op_lt pins s σ H _ _ v u Q I rx ry ⟨i, j, rfl, rfl, k⟩
          | exact op_le pins s σ H _ _ v u Q I rx ry ⟨i, j, rfl, rfl, k⟩
          | exact op_gt pins s σ H _ _ v u Q I rx ry ⟨i, j, rfl, rfl, k⟩
          | exact op_ge pins s σ H _ _ v u Q I rx ry ⟨i, j, rfl, rfl, k⟩
      | _ => cases e
    | _ => cases e
  | Is =>
    intro pins s σ H x y v u Q I rx ry h
    obtain ⟨ρ, S, da, db, r, sm, ra, rb, e, k⟩ := h
    cases rb with
    | non => refine op_isN pins s σ H _ _ v u Q I rx ry ⟨rfl, ?_⟩; cases ra <;> first | (cases e; exact k) | cases e
    | bl b => cases ra with
      | bl a => cases e; exact op_isBl pins s σ H _ _ v u Q I rx ry ⟨a, b, rfl, rfl, k⟩
      | _ => cases e
    | _ => cases ra <;> cases e
  | IsNot =>
    intro pins s σ H x y v u Q I rx ry h
    obtain ⟨ρ, S, da, db, r, sm, ra, rb, e, k⟩ := h
    cases rb with
    | non => refine op_notN pins s σ H _ _ v u Q I rx ry ⟨rfl, ?_⟩; cases ra <;> first | (cases e; exact k) | cases e
    | bl b => cases ra with
      | bl a => cases e; exact op_notBl pins s σ H _ _ v u Q I rx ry ⟨a, b, rfl, rfl, k⟩
      | _ => cases e
    | _ => cases ra <;> cases e
end
end Tm

set_option Elab.async false
set_option linter.all false
set_option maxRecDepth 100000
set_option maxHeartbeats 4000000
namespace Tm
open PySem PySem.Spec PyProof.Rows L2
section
variable {K : PySem.W.Frag} {ρ : List Addr} {H : Hp} {S : Store}
theorem atI_rep {vs : List V} {ds : List D} (r : Reps K ρ H vs ds) {i : Int} {d : D} (e : atI ds i = some d) : ∃ v, atI vs i = some v ∧ Rep K ρ H v d := by
  unfold atI at e ⊢
  rw [r.length]
  simp only [Option.bind_eq_some_iff] at e ⊢
  obtain ⟨j, h1, h2⟩ := e
  obtain ⟨v, h3, h4⟩ := r.get h2
  exact ⟨v, ⟨j, h1, h3⟩, h4⟩
theorem cut_rep {vs : List V} {ds : List D} (r : Reps K ρ H vs ds) (lo hi : Option Int) : Reps K ρ H (cutV vs lo hi) (cutD ds lo hi) := by
  unfold cutV cutD
  rw [r.length]
  exact (r.drop _).take _
theorem intsD_rep : ∀ {vs : List V} {ds : List D} {is : List Int}, Reps K ρ H vs ds → intsD ds = some is → vs = is.map V.int
  | _, _, is, .nil, h => by simp [intsD] at h; subst h; rfl
  | _, _, is, .cons (d := d) r t, h => by
    cases r <;> simp only [intsD, Option.map_eq_some_iff, reduceCtorEq] at h
    obtain ⟨js, h1, rfl⟩ := h
    rw [intsD_rep t h1]; rfl
theorem blsD_rep : ∀ {vs : List V} {ds : List D} {is : List Bool}, Reps K ρ H vs ds → blsD ds = some is → vs = is.map V.bl
  | _, _, is, .nil, h => by simp [blsD] at h; subst h; rfl
  | _, _, is, .cons (d := d) r t, h => by
    cases r <;> simp only [blsD, Option.map_eq_some_iff, reduceCtorEq] at h
    obtain ⟨js, h1, rfl⟩ := h
    rw [blsD_rep t h1]; rfl
end
/-- o[i] -/
def rIxM (K : PySem.W.Frag) : R2 := fun v w H Q => ∃ (ρ : List Addr) (S : Store) (a b d : D), Sim K ρ S H ∧ Rep K ρ H v a ∧ Rep K ρ H w b ∧ idxop a b S = some d ∧ ∀ x, Rep K ρ H x d → Q x H
/-- o[lo:hi] -/
def rSlM (K : PySem.W.Frag) : V → Option Int → Option Int → Hp → VK → Prop := fun v lo hi H Q => ∃ (ρ : List Addr) (S : Store) (a d : D) (S' : Store), Sim K ρ S H ∧ Rep K ρ H v a ∧ slcop a lo hi S = some (d, S') ∧ Aft K ρ H S' d Q
/-- a call by the machine's own f -/
def rCall (K : PySem.W.Frag) (f : List D → Store → Option (D × Store)) : List V → Hp → VK → Prop := fun vs H Q => ∃ (ρ : List Addr) (S : Store) (ds : List D) (d : D) (S' : Store), Sim K ρ S H ∧ Reps K ρ H vs ds ∧ f ds S = some (d, S') ∧ Aft K ρ H S' d Q
section
variable {X : Cx}
theorem ix_M : IxR X (rIxM X.K) := by
  intro ve se pins s σ H x y v u Q I rx ry h hs
  obtain ⟨ρ, S, a, b, d, sm, ra, rb, e, k⟩ := h
  cases rb with
  | int i =>
    cases ra with
    | tup h1 r1 =>
      obtain ⟨z, hz, rz⟩ := atI_rep r1 e
      exact ix_tup ve se pins s σ H _ _ v u Q I rx ry ⟨_, _, i, z, rfl, rfl, h1, hz, k z rz⟩ hs
    | ref h1 =>
      simp only [idxop, Option.bind_eq_some_iff] at e
      obtain ⟨ys, hl, e⟩ := e
      obtain ⟨vs, hq, r1⟩ := sm.list hl h1
      obtain ⟨z, hz, rz⟩ := atI_rep r1 e
      exact ix_list ve se pins s σ H _ _ v u Q I rx ry ⟨_, _, i, z, rfl, rfl, hq, hz, k z rz⟩ hs
    | str z =>
      simp only [idxop] at e
      split at e
      · rename_i c
        simp only [Option.map_eq_some_iff] at e
        obtain ⟨ch, hc, rfl⟩ := e
        exact ix_str ve se pins s σ H _ _ v u Q I rx ry ⟨z, i, ch, rfl, rfl, c, hc, k _ (.str _)⟩ hs
      · cases e
    | _ => cases e
  | _ => cases ra <;> cases e
theorem sl_M : SlR X (rSlM X.K) := by
  intro pins s σ H x v vl vu lo hi sl Q I rx hs pl pu h
  obtain ⟨ρ, S, a, d, S', sm, ra, e, k⟩ := h
  cases ra with
  | tup h1 r1 =>
    cases e
    refine sl_tupA pins s σ H _ v vl vu lo hi sl Q I rx hs pl pu ⟨_, _, rfl, h1, fun z => ?_, fun _ p hp => k.tup sm (cut_rep r1 lo hi) hp⟩
    refine k.here sm (.tup h1 ?_)
    have q := cut_rep r1 lo hi
    unfold cutV at q
    rw [z.2, z.1] at q
    simpa using q
  | ref h1 =>
    simp only [slcop, Option.map_eq_some_iff] at e
    obtain ⟨ys, hl, e⟩ := e
    cases e
    obtain ⟨vs, hq, r1⟩ := sm.list hl h1
    exact sl_list pins s σ H _ v vl vu lo hi sl Q I rx hs pl pu ⟨_, vs, rfl, hq, fun p hp => k.lst sm (cut_rep r1 lo hi) hp⟩
  | str z =>
    obtain ⟨c, e⟩ := okI_some e
    cases e
    exact sl_str pins s σ H _ v vl vu lo hi sl Q I rx hs pl pu ⟨z, rfl, of_decide_eq_true c, k.here sm (.str _)⟩
  | _ => cases e

/-! ## built-in functions -/
def biVal : Bi → Value
  | .len => .builtin "len" | .int => .type "int" | .abs => .builtin "abs" | .max => .builtin "max" | .min => .builtin "min" | .tuple => .type "tuple" | .list => .type "list"
  | .str => .type "str" | .repr => .builtin "repr" | .sum => .builtin "sum" | .all => .builtin "all" | .any => .builtin "any"
mutual
theorem dp_nodict {K : PySem.W.Frag} {H : Hp} : ∀ {v : V} {d : PyData}, Dp K H v d → d.hasDict = false
  | _, _, .non => rfl
  | _, _, .bl _ => rfl
  | _, _, .int _ => rfl
  | _, _, .str _ => rfl
  | _, _, .lst _ r => by unfold PyData.hasDict; exact dps_nodict r
  | _, _, .tup _ r => by unfold PyData.hasDict; exact dps_nodict r
theorem dps_nodict {K : PySem.W.Frag} {H : Hp} : ∀ {v : List V} {d : List PyData}, DpAll K H v d → PyData.hasDictAll d = false
  | _, _, .nil => rfl
  | _, _, .cons r t => by unfold PyData.hasDictAll; rw [dp_nodict r, dps_nodict t]; rfl
end
theorem cr_M (hc : X.calm = true) (hg : X.A.guards = some []) (hu : X.A.units + 200 < cLine) (b : Bi) : CallR X (biVal b) (rCall X.K (biop b)) := by
  intro pins s σ H xs us Q I r h
  obtain ⟨ρ, S, ds, d, S', sm, rs, e, k⟩ := h
  cases rs with
  | nil => cases b <;> cases e
  | cons r1 t1 =>
    cases t1 with
    | nil =>
      cases b with
      | len =>
        cases r1 with
        | tup h1 q1 => cases e; exact call_len_seq pins s σ H _ us Q I r ⟨_, _, rfl, .inr h1, by rw [q1.length]; exact k.here sm (.int _)⟩
        | ref h1 =>
          simp only [biop, Option.map_eq_some_iff] at e
          obtain ⟨ys, hl, e⟩ := e
          cases e
          obtain ⟨vs, hq, q1⟩ := sm.list hl h1
          exact call_len_seq pins s σ H _ us Q I r ⟨_, _, rfl, .inl hq, by rw [q1.length]; exact k.here sm (.int _)⟩
        | str z =>
          obtain ⟨c, e⟩ := okI_some e
          cases e
          exact call_len_str pins s σ H _ us Q I r ⟨z, rfl, of_decide_eq_true c, k.here sm (.int _)⟩
        | _ => cases e
      | int =>
        cases r1 with
        | int i => cases e; exact call_int1 pins s σ H _ us Q I r (.inl ⟨i, rfl, k.here sm (.int _)⟩)
        | bl b => cases e; exact call_int1 pins s σ H _ us Q I r (.inr ⟨b, rfl, k.here sm (.int _)⟩)
        | str z =>
          simp only [biop] at e
          split at e
          · rename_i n hn
            obtain ⟨c, e⟩ := okI_some e
            cases e
            exact call_int_str pins s σ H _ us Q I r ⟨z, n, rfl, hn, of_decide_eq_true c, k.here sm (.int _)⟩
          · cases e
        | _ => cases e
      | abs =>
        cases r1 with
        | int i => cases e; exact call_abs pins s σ H _ us Q I r ⟨i, rfl, k.here sm (.int _)⟩
        | _ => cases e
      | max => cases r1 <;> cases e
      | min => cases r1 <;> cases e
      | tuple =>
        cases r1 with
        | tup h1 q1 => cases e; exact call_tuple_of pins s σ H _ us Q I r ⟨_, _, rfl, .inr ⟨h1, k.here sm (.tup h1 q1)⟩⟩
        | ref h1 =>
          simp only [biop, Option.map_eq_some_iff] at e
          obtain ⟨ys, hl, e⟩ := e
          cases e
          obtain ⟨vs, hq, q1⟩ := sm.list hl h1
          exact call_tuple_of pins s σ H _ us Q I r ⟨_, _, rfl, .inl ⟨hq, fun p hp => k.tup sm q1 hp⟩⟩
        | _ => cases e
      | list =>
        cases r1 with
        | tup h1 q1 => cases e; exact call_list_of pins s σ H _ us Q I r ⟨_, _, rfl, .inr h1, fun p hp => k.lst sm q1 hp⟩
        | ref h1 =>
          simp only [biop, Option.map_eq_some_iff] at e
          obtain ⟨ys, hl, e⟩ := e
          cases e
          obtain ⟨vs, hq, q1⟩ := sm.list hl h1
          exact call_list_of pins s σ H _ us Q I r ⟨_, _, rfl, .inl hq, fun p hp => k.lst sm q1 hp⟩
        | _ => cases e
      | str =>
        cases r1 with
        | int i =>
          obtain ⟨c, e⟩ := okI_some e
          cases e
          exact call_str_int pins s σ H _ us Q I r ⟨i, rfl, of_decide_eq_true c, k.here sm (.str _)⟩
        | str z => cases e; exact SkE.call_str_str pins s σ H _ us Q I r ⟨_, rfl, k.here sm (.str _)⟩
        | _ => cases e
      | sum =>
        cases r1 with
        | ref h1 =>
          simp only [biop, Option.bind_eq_some_iff, Option.map_eq_some_iff] at e
          obtain ⟨ys, hl, is, hi, e⟩ := e
          cases e
          obtain ⟨vs, hq, q1⟩ := sm.list hl h1
          rw [intsD_rep q1 hi] at hq
          exact cr_sum hc pins s σ H _ us Q I r ⟨_, is, rfl, hq, k.here sm (.int _)⟩
        | _ => cases e
      | all =>
        cases r1 with
        | ref h1 =>
          simp only [biop, Option.bind_eq_some_iff, Option.map_eq_some_iff] at e
          obtain ⟨ys, hl, is, hi, e⟩ := e
          cases e
          obtain ⟨vs, hq, q1⟩ := sm.list hl h1
          rw [blsD_rep q1 hi] at hq
          exact cr_all hc pins s σ H _ us Q I r ⟨_, is, rfl, hq, k.here sm (.bl _)⟩
        | _ => cases e
      | any =>
        cases r1 with
        | ref h1 =>
          simp only [biop, Option.bind_eq_some_iff, Option.map_eq_some_iff] at e
          obtain ⟨ys, hl, is, hi, e⟩ := e
          cases e
          obtain ⟨vs, hq, q1⟩ := sm.list hl h1
          rw [blsD_rep q1 hi] at hq
          exact cr_any hc pins s σ H _ us Q I r ⟨_, is, rfl, hq, k.here sm (.bl _)⟩
        | _ => cases e
      | repr =>
        simp only [biop, Option.bind_eq_some_iff] at e
        obtain ⟨x, hx, e⟩ := e
        split at e
        · rename_i c
          simp only [Bool.and_eq_true, decide_eq_true_eq] at c
          cases e
          have hd := dp_of sm r1 hx
          have far : ∀ {a : Addr} {u : Value}, RelV (.ref a) u → Dp X.K H (.ref a) x → wpAny (model X.prog X.w) X.A (call (.builtin "repr") [u]) (EP X pins σ Q) X.xe s := fun {a u} ru hd => by
            obtain ⟨as, rd⟩ := Dp.reads I _ _ _ hd ru
            cases ru
            exact repr_of_reads' rd c.1.1 (fun z => by rw [dp_nodict hd] at z; cases z) hg (by have := c.1.2; omega) (fun _ _ e => e)
              (fun h' tk t' hk => ⟨.str x.shown, H, I.kept (t' := t') hk, ⟨tk, rfl⟩, k.here sm (.str _)⟩) c.2
          cases r with
          | cons ru rt =>
            cases rt
            cases r1 with
            | non =>
              cases ru
              simp only [pdG, Option.some.injEq] at hx
              subst hx
              exact PySem.P.repr_of_none ⟨.str _, H, I.tok _, ⟨_, rfl⟩, k.here sm (.str _)⟩
            | bl b =>
              cases ru
              simp only [pdG, Option.some.injEq] at hx
              subst hx
              exact PySem.P.repr_of_bool ⟨.str _, H, I.tok _, ⟨_, rfl⟩, k.here sm (.str _)⟩
            | int i =>
              obtain ⟨t, rfl⟩ := ru
              simp only [pdG, Option.some.injEq] at hx
              subst hx
              exact PySem.P.repr_of_int (of_decide_eq_true c.1.1) ⟨.str _, H, I.tok _, ⟨_, rfl⟩, k.here sm (.str _)⟩
            | str z =>
              obtain ⟨t, rfl⟩ := ru
              simp only [pdG, Option.some.injEq] at hx
              subst hx
              exact PySem.P.repr_of_str (hsz := c.2) ⟨.str _, H, I.tok _, ⟨_, rfl⟩, k.here sm (.str _)⟩
            | tup h1 q1 => exact far ru hd
            | ref h1 => exact far ru hd
            | fn h1 => simp only [pdG] at hx; cases hx
        · cases e
    | cons r2 t2 =>
      cases t2 with
      | nil =>
        cases b with
        | max =>
          cases r1 with
          | int i => cases r2 with
            | int j => cases e; exact call_max2 hc pins s σ H _ us Q I r ⟨i, j, rfl, k.here sm (.int _)⟩
            | _ => cases e
          | _ => cases e
        | min =>
          cases r1 with
          | int i => cases r2 with
            | int j => cases e; exact call_min2 hc pins s σ H _ us Q I r ⟨i, j, rfl, k.here sm (.int _)⟩
            | _ => cases e
          | _ => cases e
        | _ => simp [biop] at e
      | cons _ _ => cases b <;> simp [biop] at e
end
end Tm

set_option Elab.async false
set_option linter.all false
set_option maxRecDepth 100000
set_option maxHeartbeats 4000000
namespace Tm
open PySem PySem.Spec PyProof.Rows L2

/-! ## room, by a class's call too -/
def RoomM (k : Nat) (B : Around) : Prop := ∃ A : Around, Room k A ∧ (B = A ∨ ∃ (C : Addr) (us : List Value) (kw : List (Str × Value)), B = A.under (.builtin "type.__call__" ⟨.ref C :: us, kw⟩))
theorem RoomM.of {k : Nat} {A : Around} (h : Room k A) : RoomM k A := ⟨A, h, .inl rfl⟩
theorem RoomM.deeper {k : Nat} {B : Around} (h : RoomM (k + 1) B) (env : Env) : Room k (B.deeper env) := by
  obtain ⟨A, r, h⟩ := h
  rcases h with rfl | ⟨C, us, kw, rfl⟩
  · exact r.deeper env
  · have d := r.dp
    have u := r.un
    refine ⟨r.hd, ?_, ?_⟩
    · show (A.under _).depth + 1 + 3 * k + 5 < _
      rw [make_depth]; omega
    · show (A.under _).units + 3 + 16 * k + 200 < _
      rw [make_units]; omega
theorem RoomM.hd {k : Nat} {B : Around} (h : RoomM k B) : B.handled = none := by
  obtain ⟨A, r, h⟩ := h
  rcases h with rfl | ⟨C, us, kw, rfl⟩
  · exact r.hd
  · exact r.hd
theorem RoomM.depth {k : Nat} {B : Around} (h : RoomM k B) : B.depth < recursionLimit := by
  obtain ⟨A, r, h⟩ := h
  have d := r.dp
  rcases h with rfl | ⟨C, us, kw, rfl⟩
  · omega
  · rw [make_depth]; omega
/-! ## a def's promise where no text of an object is under way -/
structure FnG (P : Program) (w : World) (K : PySem.W.Frag) (mg : Str → Option Value) (base : Heap) (k : Nat) (f : Addr) (fd : FuncData) (ps : List Str) (sp : Sp) : Prop where
  many : ∀ vs H Q, sp vs H Q E0 → vs.length = ps.length
  go : ∀ (B : Around) (out : List Env) (t : Shared) (H : Hp) (as : Args) (us : List Value) (vs : List V) (Q : VK), RoomM k B → B.guards = some [] → Env0 P w K mg base B out t H →
    BindsTo t fd as (ps.zip us) → Vals vs us → sp vs H Q E0 → codeAny (model P w) B (.call (.ref f) as) (CR CX0 out P w H t Q E0) t
/-- the body of a def: its term and what it asks -/
theorem fnG_of {P : Program} {w : World} {K : PySem.W.Frag} {mg : Str → Option Value} {base : Heap} {k : Nat} {x qual : Str} {st : Stmt} {f : Addr} {fd : FuncData} {N ps : List Str} {sp : Sp}
    (F : Fun K x qual st f fd) (S : FnScope N ps (defScope st)) (many : ∀ vs H Q, sp vs H Q E0 → vs.length = ps.length)
    (body : ∀ (cdv : Value) (B : Around) (out : List Env) (t : Shared) (H : Hp) (vs : List V) (Q : VK), Room k (B.deeper (envOfC qual (defScope st) t.heap.objs.size f cdv)) → B.guards = some [] → sp vs H Q E0 →
      ∃ r, PSs (cxOf CX0 P w K mg base N qual (defScope st) f cdv B out t H E0).nox (defBody st) r ∧ r { nx := fun _ H' => Q .non H', rt := Q } (start N vs) H) : FnG P w K mg base (k + 1) f fd ps sp := by
  obtain ⟨oc, od, kV, doc, pm, an, cdv, ct, osl, hfd, lk, hcd⟩ := F.ex
  subst hfd
  refine ⟨many, fun B out t H as us vs Q room gd e0 bd rel h => ?_⟩
  have hlen := many _ _ _ h
  have kin : K.In t.heap := e0.mod.kin.keeps (fun b o e => (e0.bs b o e).1)
  have nolim : t.heap.NoLimit := e0.mod.nolimit.keeps (fun b o e => (e0.bs b o e).1)
  have kinds : ∀ y ∈ ps.zip us, (defScope st).names.lookup y.1 = some .local ∨ ((defScope st).names.lookup y.1 = some .cell ∧ ((cellsFrom (t.heap.objs.size + 1) (defScope st).names []).lookup y.1).isSome = true) := by
    rintro ⟨n, v⟩ hy
    rcases S.par n (List.of_mem_zip hy).1 with q | q
    · left; exact q
    · right; exact ⟨q, PySem.W.cellsFrom_some _ _ _ (Or.inl q)⟩
  apply codeAny_call_function room.depth (kin _ _ lk) rfl S.co S.gen rfl (PySem.W.codeRec_of kin hcd)
  apply bd
  apply wpAny_newFunctionEnv_cells S.kind kinds
  intro env he t1 ic
  subst he
  refine ⟨nolim.keeps ic.toInCall.keep, ?_⟩
  apply codeAny_func
  obtain ⟨r, hr, hq⟩ := body cdv B out t H vs Q (room.deeper _) gd h
  have J := inv_start (CX := CX0) (E := E0) S room.hd e0 hlen rel ic
  have fin : ∀ {σ' : L2.St} {H' : Hp} {v : V} {u : Value} {t' : Shared}, Inv (cxOf CX0 P w K mg base N qual (defScope st) f cdv B out t H E0) [] σ' H' t' → RelV v u → Q v H' → CE out P w H t Q u t' := by
    intro σ' H' v u t' J rv q
    exact ⟨v, H', J.os, J.bare, J.base, J.hok, rv, q⟩
  apply wpAny_mono (hr.nox.run [] t1 _ H _ J hq)
  · intro fl t' hs
    match fl, hs with
    | .ret u, ⟨v, σ', H', J', rv, q⟩ => exact fin J' rv q
    | .next, ⟨σ', H', J', q⟩ => exact fin (v := V.non) (u := Value.none) J' rfl q
    | .brk, ⟨_, _, _, q⟩ => exact q.elim
    | .cont, ⟨_, _, _, q⟩ => exact q.elim
  · exact fun e t' hs => hs
section
variable {X : Cx} {k : Nat} {f : Addr} {fd : FuncData} {ps : List Str} {sp : Sp}
/-- a call of such a def, its arguments bound -/
theorem callG {pins : List (Addr × Obj)} {σ : L2.St} {H : Hp} {t : Shared} {Q : VK} {us : List Value} {kw : List (Str × Value)} {bs : List Value} {vs : List V} (F : FnG X.prog X.w X.K X.mg X.base k f fd ps sp) (room : Room k X.A) (gd : X.A.guards = some [])
    (bd : BindsTo t fd ⟨us, kw⟩ (ps.zip bs)) (I : Inv X pins σ H t) (rel : Vals vs bs) (h : sp vs H Q E0) : wpAny (model X.prog X.w) X.A (call (.ref f) us kw) (EP X pins σ Q) X.xe t := by
  apply wpAny_call
  apply codeAny_mono (F.go X.A X.stack t H ⟨us, kw⟩ bs vs Q (.of room) gd I.env0 bd rel h)
  intro res t' hq
  match res, hq with
  | .ok (.ret u), hq => exact I.after hq
/-- an object of an own class is made, its first def called -/
theorem makeG {pins : List (Addr × Obj)} {σ : L2.St} {H : Hp} {t : Shared} {Q : VK} {us : List Value} {vs : List V} {C : Addr} (M : Mk X.K C f) (F : FnG X.prog X.w X.K X.mg X.base k f fd ps sp) (room : Room k X.A) (gd : X.A.guards = some [])
    (hb : Binds X.K fd ps []) (I : Inv X pins σ H t) (rel : Vals vs us)
    (h : ∀ (x dx : Addr), H x = none → H dx = none → dx ≠ x → sp (.ref x :: vs) (upd (upd H dx (.own x)) x (.ins C dx [])) (fun v H2 => v = .non ∧ Q (.ref x) H2) E0) :
    wpAny (model X.prog X.w) X.A (call (.ref C) us) (EP X pins σ Q) X.xe t := by
  have hq := h (t.heap.objs.size + 1) t.heap.objs.size (HOk.fresh I.hok (Nat.le_succ _)) (HOk.fresh I.hok (Nat.le_refl _)) (Nat.ne_of_lt (Nat.lt_succ_self _))
  have I2 := Inv.made (C := C) I
  have r2 : Vals (V.ref (t.heap.objs.size + 1) :: vs) (Value.ref (t.heap.objs.size + 1) :: us) := .cons rfl rel
  have hl : (Value.ref (t.heap.objs.size + 1) :: (us ++ ([] : List Value))).length = ps.length := by
    have e1 := F.many _ _ _ hq
    have e2 := r2.length
    simp only [List.append_nil]
    omega
  have bd := hb _ (Value.ref (t.heap.objs.size + 1) :: us) (Inv.kIn I2) hl
  rw [List.append_nil] at bd
  refine wpAny_call (make_map (Inv.kIn I) M.makes M.init (beq_iff_eq.mp M.fn) (codeAny_mono (F.go _ X.stack _ _ _ _ _ _ ⟨X.A, room, .inr ⟨C, us, [], rfl⟩⟩ ?_ (Env0.make (Inv.env0 I2) C us []) bd r2 hq) ?_))
  · have e : ((Code.builtin "type.__call__" ⟨Value.ref C :: us, []⟩).guards : List Code) = [] := rfl
    show pushGuards (Code.builtin "type.__call__" ⟨Value.ref C :: us, []⟩).guards X.A.guards = some []
    rw [gd, e]; rfl
  · intro res t' hq'
    match res, hq' with
    | .ok (.ret u), hq' =>
      obtain ⟨v, H', I3, rv, ev, q3⟩ := Inv.after I2 hq'
      subst ev
      exact ⟨rv, V.ref (t.heap.objs.size + 1), H', I3, rfl, q3⟩
end
end Tm

set_option Elab.async false
set_option linter.all false
set_option maxRecDepth 100000
set_option maxHeartbeats 4000000
namespace Tm
open PySem PySem.Spec PyProof.Rows L2

/-! ## the machine's runs as readings -/
def EnvR (K : PySem.W.Frag) (ρ : List Addr) (H : Hp) (e : Env') (σ : L2.St) : Prop := e.length = σ.length ∧ ∀ (i : Nat) (d : D), e[i]? = some (some d) → ∃ v, σ[i]? = some (some v) ∧ Rep K ρ H v d
theorem EnvR.mono {K : PySem.W.Frag} {ρ ρ' : List Addr} {H H' : Hp} {e : Env'} {σ : L2.St} (h : EnvR K ρ H e σ) (p : Pre ρ ρ') (g : Gro H H') : EnvR K ρ' H' e σ :=
  ⟨h.1, fun i d q => let ⟨v, a, r⟩ := h.2 i d q; ⟨v, a, r.mono g p⟩⟩
def tE (p : Pm) (K : PySem.W.Frag) (c : C) : TE := fun σ H Q => ∃ (ρ : List Addr) (S : Store) (e : Env') (x : D × Store), Sim K ρ S H ∧ EnvR K ρ H e σ ∧ ev p c e S = some x ∧ Aft K ρ H x.2 x.1 Q
def AftA (K : PySem.W.Frag) (ρ : List Addr) (H : Hp) (S' : Store) (ds : List D) (Q : List V → Hp → Prop) : Prop :=
  ∀ (ρ' : List Addr) (H' : Hp) (vs : List V), Pre ρ ρ' → Gro H H' → Sim K ρ' S' H' → Reps K ρ' H' vs ds → Q vs H'
def tA (p : Pm) (K : PySem.W.Frag) (c : C) : TA := fun σ H Q => ∃ (ρ : List Addr) (S : Store) (e : Env') (ds : List D) (S' : Store), Sim K ρ S H ∧ EnvR K ρ H e σ ∧ ev p c e S = some (.tup ds, S') ∧ AftA K ρ H S' ds Q
def AftT (K : PySem.W.Frag) (ρ : List Addr) (H : Hp) (S' : Store) (b : Bool) (Q : Bool → Hp → Prop) : Prop :=
  ∀ (ρ' : List Addr) (H' : Hp), Pre ρ ρ' → Gro H H' → Sim K ρ' S' H' → Q b H'
def tTs (p : Pm) (K : PySem.W.Frag) (c : C) : TT := fun σ H Q => ∃ (ρ : List Addr) (S : Store) (e : Env') (b : Bool) (S' : Store), Sim K ρ S H ∧ EnvR K ρ H e σ ∧ ev p c e S = some (.bl b, S') ∧ AftT K ρ H S' b Q
def tO' (p : Pm) (K : PySem.W.Frag) (c : C) : TO := fun σ H Q => ∃ (ρ : List Addr) (S : Store) (e : Env') (x : Option Int × Store), Sim K ρ S H ∧ EnvR K ρ H e σ ∧ part (isAbs c) S (ev p c e S) = some x ∧
  ∀ (ρ' : List Addr) (H' : Hp), Pre ρ ρ' → Gro H H' → Sim K ρ' x.2 H' → Q x.1 H'
/-- what a walk of the items is -/
def ItOk (K : PySem.W.Frag) (ρ : List Addr) (H : Hp) (items cks : List D) (J : It) : Prop :=
  ∀ (ρ2 : List Addr) (S2 : Store) (H2 : Hp), Pre ρ ρ2 → Gro H H2 → Sim K ρ2 S2 H2 → chks S2 cks = true →
    ∀ i : Nat, (i = items.length → J.stop i H2) ∧ ∀ d, items[i]? = some d → J.go i H2 ∧ ∀ x H3, J.yld i H2 x H3 → Gro H2 H3 ∧ Sim K ρ2 S2 H3 ∧ Rep K ρ2 H3 x d
def tI (p : Pm) (K : PySem.W.Frag) (c : C) : TI := fun σ H R => ∃ (ρ : List Addr) (S : Store) (e : Env') (items cks : List D) (S' : Store), Sim K ρ S H ∧ EnvR K ρ H e σ ∧ ev p c e S = some (itD items cks, S') ∧
  ∀ (ρ' : List Addr) (H' : Hp) (J : It), Pre ρ ρ' → Gro H H' → Sim K ρ' S' H' → ItOk K ρ' H' items cks J → R J H'

theorem PE.imp {X : Cx} {e : Expr} {t t' : TE} (h : PE X e t) (f : ∀ σ H Q, t' σ H Q → t σ H Q) : PE X e t' := ⟨fun pins s σ H Q I q => h.run pins s σ H Q I (f σ H Q q)⟩
theorem PE.by2 {X : Cx} {e : Expr} {t t1 t2 : TE} (h1 : PE X e t1) (h2 : PE X e t2) (f : ∀ σ H Q, t σ H Q → t1 σ H Q ∨ t2 σ H Q) : PE X e t :=
  ⟨fun pins s σ H Q I q => (f σ H Q q).elim (h1.run pins s σ H Q I) (h2.run pins s σ H Q I)⟩
theorem PT.by2 {X : Cx} {e : Expr} {t t1 t2 : TT} (h1 : PT X e t1) (h2 : PT X e t2) (f : ∀ σ H Q, t σ H Q → t1 σ H Q ∨ t2 σ H Q) : PT X e t :=
  ⟨fun pins s σ H Q I q => (f σ H Q q).elim (h1.run pins s σ H Q I) (h2.run pins s σ H Q I)⟩
theorem PT.imp {X : Cx} {e : Expr} {t t' : TT} (h : PT X e t) (f : ∀ σ H Q, t' σ H Q → t σ H Q) : PT X e t' := ⟨fun pins s σ H Q I q => h.run pins s σ H Q I (f σ H Q q)⟩
theorem PW.imp {X : Cx} {e : Expr} {t t' : TT} (h : PW X e t) (f : ∀ σ H Q, t' σ H Q → t σ H Q) : PW X e t' := ⟨fun wh pins s σ H Q I q => h.run wh pins s σ H Q I (f σ H Q q)⟩
theorem PA.imp {X : Cx} {e : List Expr} {t t' : TA} (h : PA X e t) (f : ∀ σ H Q, t' σ H Q → t σ H Q) : PA X e t' := ⟨fun pos pins s σ H Q I q => h.run pos pins s σ H Q I (f σ H Q q)⟩
theorem PO.imp {X : Cx} {e : Option Expr} {t t' : TO} (h : PO X e t) (f : ∀ σ H Q, t' σ H Q → t σ H Q) : PO X e t' := ⟨fun pins s σ H Q I q => h.run pins s σ H Q I (f σ H Q q)⟩
theorem PI.imp {X : Cx} {tg e : Expr} {t t' : TI} (h : PI X tg e t) (f : ∀ σ H Q, t' σ H Q → t σ H Q) : PI X tg e t' := ⟨fun pins s σ H Q I q => h.run pins s σ H Q I (f σ H Q q)⟩

/-! ## one step after another -/
section
variable {p : Pm} {K : PySem.W.Frag} {ρ : List Addr} {S : Store} {H : Hp} {e : Env'} {σ : L2.St} {a b : C} {x y : D × Store}
theorem st1 (sm : Sim K ρ S H) (en : EnvR K ρ H e σ) (ha : ev p a e S = some x) {Q : VK} (k : ∀ (ρ' : List Addr) (H' : Hp) (v : V), Pre ρ ρ' → Gro H H' → Sim K ρ' x.2 H' → EnvR K ρ' H' e σ → Rep K ρ' H' v x.1 → Q v H') : tE p K a σ H Q :=
  ⟨ρ, S, e, x, sm, en, ha, fun ρ' H' v p1 g1 s1 r1 => k ρ' H' v p1 g1 s1 (en.mono p1 g1) r1⟩
theorem st2 (sm : Sim K ρ S H) (en : EnvR K ρ H e σ) (ha : ev p a e S = some x) (hb : ev p b e x.2 = some y) {R : V → V → Hp → Prop}
    (k : ∀ (ρ' : List Addr) (H' : Hp) (v w : V), Pre ρ ρ' → Gro H H' → Sim K ρ' y.2 H' → EnvR K ρ' H' e σ → Rep K ρ' H' v x.1 → Rep K ρ' H' w y.1 → R v w H') : tE p K a σ H fun v H1 => tE p K b σ H1 fun w H2 => R v w H2 :=
  st1 sm en ha fun ρ1 H1 v p1 g1 s1 e1 r1 => st1 s1 e1 hb fun ρ2 H2 w p2 g2 s2 e2 r2 => k ρ2 H2 v w (p1.trans p2) (g1.trans g2) s2 e2 (r1.mono g2 p2) r2
theorem stT (sm : Sim K ρ S H) (en : EnvR K ρ H e σ) {q : Bool} {S' : Store} (ha : ev p a e S = some (.bl q, S')) {Q : Bool → Hp → Prop} (k : ∀ (ρ' : List Addr) (H' : Hp), Pre ρ ρ' → Gro H H' → Sim K ρ' S' H' → EnvR K ρ' H' e σ → Q q H') : tTs p K a σ H Q :=
  ⟨ρ, S, e, q, S', sm, en, ha, fun ρ' H' p1 g1 s1 => k ρ' H' p1 g1 s1 (en.mono p1 g1)⟩
end

/-! ## what the context of a body must be -/
/-- what all of the machine's functions ask: as many arguments as parameters -/
def Arity (R : Nat → List D → Store → Option (D × Store)) (f n : Nat) : Prop := ∀ ds S x, R f ds S = some x → ds.length = n
/-- what a def of the machine promises -/
def spR (K : PySem.W.Frag) (n : Nat) (f : List D → Store → Option (D × Store)) : Sp := fun vs H Q _ => vs.length = n ∧ rCall K f vs H Q
structure GMat (P : Program) (w : World) (K : PySem.W.Frag) (mg : Str → Option Value) (base : Heap) (p : Pm) (G : Gx) (k : Nat) : Prop where
  funs : ∀ (x : Str) (f : Nat) (ps : List Str), G.funs.lookup x = some (f, ps) → ∃ (a : Addr) (fd : FuncData), mg x = some (.ref a) ∧ PySem.W.keepIn K (.ref a) = true ∧ FnG P w K mg base k a fd ps (spR K ps.length (p.R f)) ∧ Binds K fd ps [] ∧
    ∀ q ∈ G.kws, q.1 = x → ∀ (t : Shared) (us ws : List Value), us.length = q.2.1 → ws.length = q.2.2.1.length → BindsTo t fd ⟨us, q.2.2.1.zip ws⟩ (ps.zip (pick q.2.2.2 (us ++ ws)))
  cons : ∀ (x : Str) (g : Nat), G.cons.lookup x = some g → ∃ (u : Value) (v : V), mg x = some u ∧ RelV v u ∧ ∀ ρ H, Rep K ρ H v (p.gl g)
  dics : ∀ (x : Str) (g : Nat), G.dics.lookup x = some g → ∃ (a : Addr) (es : Array DictEntry) (n : Nat), mg x = some (.ref a) ∧ KDict K w a es n ∧
    ∀ z : Str, match lookK (p.kd g) z with
      | none => PySem.W.nsIn K a z = some none
      | some d => ∃ (u : Value) (v : V), PySem.W.nsIn K a z = some (some u) ∧ RelV v u ∧ ∀ ρ H, Rep K ρ H v d
  blt : ∀ x : Str, G.blt.contains x = true → mg x = none
  ar : ∀ (x : Str) (f : Nat) (ps : List Str), G.funs.lookup x = some (f, ps) → Arity p.R f ps.length
  fnv : ∀ (x : Str) (a : Addr), PySem.W.nsIn K mainGlobals x = some (some (.ref a)) → mg x = some (.ref a)
  fxs : ∀ (x : Str) (i : Nat), p.fx x = some i → ∃ ps, G.funs.lookup x = some (i, ps)
  clss : ∀ (x : Str) (f : Nat) (ps fl : List Str), G.clss.lookup x = some (f, ps, fl) → ∃ (C fa : Addr) (fd : FuncData), mg x = some (.ref C) ∧ PySem.W.nsIn K mainGlobals x = some (some (.ref C)) ∧ Mk K C fa ∧ FnG P w K mg base k fa fd ps (spR K ps.length (p.R f)) ∧ Binds K fd ps [] ∧ Arity p.R f ps.length
  flds : ∀ e ∈ G.clss, ∀ C, PySem.W.nsIn K mainGlobals e.1 = some (some (.ref C)) → Cls K C ∧ ∀ f ∈ e.2.2.2, NoAttr K C f
structure Mat (X : Cx) (p : Pm) (c : Cc) (k : Nat) : Prop where
  hN : X.N = c.N
  nd : c.N.Nodup
  sc : X.env.scope.names = c.names
  kind : X.env.scope.kind = .function
  calm : X.calm = true
  gd : X.A.guards = some []
  room : Room k X.A
  xe : X.xe = fun _ _ => False
  fn : ∀ x : Str, c.fnOk x = true → X.fn x = true ∨ X.env.scope.names.lookup x = some .local
  glob : GMat X.prog X.w X.K X.mg X.base p c.G k
section
variable {X : Cx} {p : Pm} {c : Cc} {k : Nat} {e : Expr}
theorem Mat.hu (M : Mat X p c k) : X.A.units + 200 < cLine := by have := M.room.un; omega
theorem Mat.vis (M : Mat X p c k) {x : Str} (h : visB c x = true) : Vis X.env.scope x := by
  unfold Vis
  rw [M.sc]
  unfold visB at h
  split at h <;> first | (exact .inl (by assumption)) | (exact .inr (.inl (by assumption))) | (exact .inr (.inr (by assumption))) | cases h
theorem Mat.loc (M : Mat X p c k) {x : Str} (h : locB c x = true) : L2.Loc X.env.scope x ∧ (X.fn x = true ∨ X.env.scope.names.lookup x = some .local) := by
  unfold locB at h
  rw [Bool.and_eq_true] at h
  refine ⟨?_, M.fn x h.2⟩
  unfold L2.Loc
  rw [M.sc]
  have h1 := h.1
  split at h1 <;> first | (exact .inl (by assumption)) | (exact .inr (by assumption)) | cases h1
theorem Mat.gl (M : Mat X p c k) {x : Str} (h : glB c x = true) : Gl X x ∧ badName x = false := by
  unfold glB at h
  split at h
  · rename_i q
    refine ⟨?_, by simpa using h⟩
    unfold Gl Env.kindOf
    rw [M.sc]
    exact q
  · cases h
theorem Mat.bl (M : Mat X p c k) {x : Str} (h : bltB c x = true) : Gl X x ∧ X.mg x = none ∧ badName x = false := by
  unfold bltB at h
  rw [Bool.and_eq_true] at h
  exact ⟨(M.gl h.1).1, M.glob.blt x h.2, (M.gl h.1).2⟩
theorem bad3 {x : Str} (h : badName x = false) : (x == ("__debug__" : Str)) = false ∧ (x == ("__classdict__" : Str)) = false ∧ x ≠ ("__name__" : Str) := by
  unfold badName at h
  simp only [Bool.or_eq_false_iff] at h
  exact ⟨h.1.1, h.1.2, fun z => by rw [z] at h; exact absurd h.2 (by decide)⟩
theorem none_bad {e : Env'} {S : Store} {x : D × Store} (h : ev p .bad e S = some x) : False := by simp [ev] at h
theorem k_bad : PE X e (tE p X.K .bad) := ⟨fun _ _ _ _ _ _ h => by obtain ⟨_, _, _, _, _, _, h, _⟩ := h; exact (none_bad h).elim⟩
theorem k_badT : PT X e (tTs p X.K .bad) := ⟨fun _ _ _ _ _ _ h => by obtain ⟨_, _, _, _, _, _, _, h, _⟩ := h; exact (none_bad h).elim⟩
theorem k_badW : PW X e (tTs p X.K .bad) := ⟨fun _ _ _ _ _ _ _ h => by obtain ⟨_, _, _, _, _, _, _, h, _⟩ := h; exact (none_bad h).elim⟩
theorem k_name (M : Mat X p c k) {x : Str} {pos : Pos} : PE X (.Name x pos) (tE p X.K (cName c x)) := by
  unfold cName
  split
  · exact k_bad
  · rename_i hb
    obtain ⟨b1, b2, b3⟩ := bad3 (by simpa using hb)
    split
    · rename_i hv
      split
      · rename_i i hi
        refine PE.imp (pe_var (i := i) (by rw [M.hN]; exact ixOf_get hi) (M.vis hv) b1 b2) fun σ H Q h => ?_
        obtain ⟨ρ, S, e, x, sm, en, h, q⟩ := h
        simp only [ev] at h
        split at h
        · rename_i d hd
          cases h
          obtain ⟨v, h1, r⟩ := en.2 i d hd
          exact ⟨v, h1, q.here sm r⟩
        · cases h
      · exact k_bad
    · split
      · rename_i hg
        split
        · rename_i g hc
          obtain ⟨u, v, h1, h2, h3⟩ := M.glob.cons x g hc
          refine PE.imp (pe_glob (M.gl hg).1 h1 h2 b1) fun σ H Q h => ?_
          obtain ⟨ρ, S, e, x, sm, en, h, q⟩ := h
          simp only [ev, Option.some.injEq] at h
          subst h
          exact q.here sm (h3 ρ H)
        · exact k_bad
      · exact k_bad
theorem k_const {kc : Const} {j : Nat} {pos : Pos} : PE X (.Constant kc j pos) (tE p X.K (cConst kc)) := by
  cases kc with
  | none => refine PE.imp pe_non fun σ H Q h => ?_; obtain ⟨ρ, S, e, x, sm, en, h, q⟩ := h; simp only [cConst, ev, isScal, if_true, Option.some.injEq] at h; subst h; exact q.here sm .non
  | bool b => refine PE.imp pe_bl fun σ H Q h => ?_; obtain ⟨ρ, S, e, x, sm, en, h, q⟩ := h; simp only [cConst, ev, isScal, if_true, Option.some.injEq] at h; subst h; exact q.here sm (.bl b)
  | int b => refine PE.imp pe_int fun σ H Q h => ?_; obtain ⟨ρ, S, e, x, sm, en, h, q⟩ := h; simp only [cConst, ev, isScal, if_true, Option.some.injEq] at h; subst h; exact q.here sm (.int b)
  | str b => refine PE.imp pe_str fun σ H Q h => ?_; obtain ⟨ρ, S, e, x, sm, en, h, q⟩ := h; simp only [cConst, ev, isScal, if_true, Option.some.injEq] at h; subst h; exact q.here sm (.str b)
  | _ => exact k_bad
variable {a b d : Expr} {ca cb cd : C} {pos : Pos}
theorem k_bin {o : Operator} {q : Bin} (ho : cBin o = some q) (ha : PE X a (tE p X.K ca)) (hb : PE X b (tE p X.K cb)) : PE X (.BinOp a o b pos) (tE p X.K (.bin q ca cb)) := by
  refine PE.imp (pe_op (op_bin ho) ha hb) fun σ H Q h => ?_
  obtain ⟨ρ, S, e, x, sm, en, h, kq⟩ := h
  simp only [ev, Option.bind_eq_some_iff] at h
  obtain ⟨x1, h1, x2, h2, h3⟩ := h
  exact st2 sm en h1 h2 fun ρ' H' v w p1 g1 s1 e1 r1 r2 => ⟨ρ', x2.2, x1.1, x2.1, x.1, x.2, s1, r1, r2, h3, kq.mono p1 g1⟩
theorem k_neg (ha : PE X a (tE p X.K ca)) : PE X (.UnaryOp .USub a pos) (tE p X.K (.neg ca)) := by
  refine PE.imp (pe_un un_neg ha) fun σ H Q h => ?_
  obtain ⟨ρ, S, e, x, sm, en, h, kq⟩ := h
  simp only [ev, Option.bind_eq_some_iff] at h
  obtain ⟨x1, h1, h2⟩ := h
  refine st1 sm en h1 fun ρ' H' v p1 g1 s1 e1 r1 => ?_
  split at h2
  · rename_i i hi
    cases h2
    rw [hi] at r1
    exact ⟨i, rep_int r1, (kq.mono p1 g1).here s1 (.int _)⟩
  · cases h2
theorem k_notE (ha : PE X a (tE p X.K ca)) : PE X (.UnaryOp .Not a pos) (tE p X.K (.not_ ca)) := by
  refine PE.imp (pe_not ha) fun σ H Q h => ?_
  obtain ⟨ρ, S, e, x, sm, en, h, kq⟩ := h
  simp only [ev, Option.bind_eq_some_iff] at h
  obtain ⟨x1, h1, h2⟩ := h
  refine st1 sm en h1 fun ρ' H' v p1 g1 s1 e1 r1 => ?_
  split at h2
  · rename_i i hi
    cases h2
    rw [hi] at r1
    exact ⟨i, rep_bl r1, (kq.mono p1 g1).here s1 (.bl _)⟩
  · cases h2
theorem noSet {b : Expr} (h : notSet b = true) (op : CmpOp) : behindInMarks op b = false := by
  cases b <;> first | rfl | (simp [notSet] at h; done)
/-! dicts of the store -/
theorem val_rel {K : PySem.W.Frag} {ρ : List Addr} {H : Hp} {kk : Key} : ∀ {ws : List (Key × V)} {kvs : List (Key × D)}, ws.map Prod.fst = kvs.map Prod.fst → Reps K ρ H (ws.map Prod.snd) (kvs.map Prod.snd) →
    (∃ v d, valV ws kk = some v ∧ valD kvs kk = some d ∧ Rep K ρ H v d) ∨ (valV ws kk = none ∧ valD kvs kk = none)
  | [], [], _, _ => .inr ⟨rfl, rfl⟩
  | [], _ :: _, h, _ => by cases h
  | _ :: _, [], h, _ => by cases h
  | w :: ws, q :: kvs, h, r => by
    simp only [List.map_cons, List.cons.injEq] at h
    simp only [List.map_cons] at r
    cases r with
    | cons r1 r2 =>
      by_cases e : w.1 = kk
      · exact .inl ⟨w.2, q.2, valV_pos e, by simp only [valD, List.find?_cons, ← h.1, e, decide_true, Option.map_some], r1⟩
      · have e2 : ¬ q.1 = kk := by rw [← h.1]; exact e
        rcases val_rel (kk := kk) h.2 r2 with ⟨v, d, h1, h2, h3⟩ | ⟨h1, h2⟩
        · exact .inl ⟨v, d, by rw [valV_neg e]; exact h1, by simp only [valD, List.find?_cons, decide_eq_false e2]; exact h2, h3⟩
        · exact .inr ⟨by rw [valV_neg e]; exact h1, by simp only [valD, List.find?_cons, decide_eq_false e2]; exact h2⟩
theorem any_rel {kk : Key} : ∀ {ws : List (Key × V)} {kvs : List (Key × D)}, ws.map Prod.fst = kvs.map Prod.fst → (ws.any fun kv => decide (kv.1 = kk)) = (kvs.any fun kv => decide (kv.1 = kk))
  | [], [], _ => rfl
  | [], _ :: _, h => by cases h
  | _ :: _, [], h => by cases h
  | w :: ws, q :: kvs, h => by
    simp only [List.map_cons, List.cons.injEq] at h
    simp only [List.any_cons, any_rel h.2, h.1]
theorem map_rel {K : PySem.W.Frag} {ρ : List Addr} {H : Hp} {kk : Key} {v : V} {d : D} (rv : Rep K ρ H v d) : ∀ {ws : List (Key × V)} {kvs : List (Key × D)}, ws.map Prod.fst = kvs.map Prod.fst → Reps K ρ H (ws.map Prod.snd) (kvs.map Prod.snd) →
    (ws.map fun kv => if kv.1 = kk then (kv.1, v) else kv).map Prod.fst = (kvs.map fun kv => if kv.1 = kk then (kv.1, d) else kv).map Prod.fst ∧
    Reps K ρ H ((ws.map fun kv => if kv.1 = kk then (kv.1, v) else kv).map Prod.snd) ((kvs.map fun kv => if kv.1 = kk then (kv.1, d) else kv).map Prod.snd)
  | [], [], _, _ => ⟨rfl, .nil⟩
  | [], _ :: _, h, _ => by cases h
  | _ :: _, [], h, _ => by cases h
  | w :: ws, q :: kvs, h, r => by
    simp only [List.map_cons, List.cons.injEq] at h
    simp only [List.map_cons] at r
    cases r with
    | cons r1 r2 =>
      obtain ⟨h1, h2⟩ := map_rel (kk := kk) rv h.2 r2
      by_cases e : w.1 = kk
      · have e2 : q.1 = kk := by rw [← h.1]; exact e
        simp only [List.map_cons, if_pos e, if_pos e2, h.1]
        exact ⟨by rw [h1], .cons rv h2⟩
      · have e2 : ¬ q.1 = kk := by rw [← h.1]; exact e
        simp only [List.map_cons, if_neg e, if_neg e2, h.1]
        exact ⟨by rw [h1], .cons r1 h2⟩
theorem put_rel {K : PySem.W.Frag} {ρ : List Addr} {H : Hp} {kk : Key} {v : V} {d : D} (rv : Rep K ρ H v d) {ws : List (Key × V)} {kvs : List (Key × D)} (h : ws.map Prod.fst = kvs.map Prod.fst) (r : Reps K ρ H (ws.map Prod.snd) (kvs.map Prod.snd)) :
    (putK ws kk v).map Prod.fst = (putD kvs kk d).map Prod.fst ∧ Reps K ρ H ((putK ws kk v).map Prod.snd) ((putD kvs kk d).map Prod.snd) := by
  unfold putK putD
  rw [any_rel h]
  by_cases e : (kvs.any fun kv => decide (kv.1 = kk)) = true
  · rw [if_pos e, if_pos e]; exact map_rel rv h r
  · rw [if_neg e, if_neg e]
    simp only [List.map_append, List.map_cons, List.map_nil]
    exact ⟨by rw [h], r.append (.cons rv .nil)⟩
theorem rep_key {K : PySem.W.Frag} {ρ : List Addr} {H : Hp} {w : V} {d : D} {kk : Key} (r : Rep K ρ H w d) (h : keyD d = some kk) : w = kV kk := by
  cases r <;> simp only [keyD, Option.some.injEq, reduceCtorEq] at h <;> subst h <;> rfl
theorem din_rd {K : PySem.W.Frag} {ρ : List Addr} {S : Store} {H : Hp} {v w : V} {d f : D} {t : Bool} (sm : Sim K ρ S H) (r1 : Rep K ρ H v d) (r2 : Rep K ρ H w f) {n : Nat} {kk : Key} {kvs : List (Key × D)} (e1 : f = .ref n) (e2 : keyD d = some kk)
    (e3 : dctAt S n = some kvs) : ∃ a o, w = .ref a ∧ DGet H a v o ∧ o.isSome = (valD kvs kk).isSome := by
  subst e1
  obtain ⟨a, ea, hA⟩ := rep_ref r2
  obtain ⟨e4, ws, q1, q2, q3⟩ := sm.dct e3 hA
  refine ⟨a, valV ws kk, ea, .inl ⟨ws, kk, .inl q1, rep_key r1 e2, rfl⟩, ?_⟩
  rcases val_rel (kk := kk) q2 q3 with ⟨v', d', h1, h2, h3⟩ | ⟨h1, h2⟩
  · rw [h1, h2]; rfl
  · rw [h1, h2]; rfl
theorem k_cmp (M : Mat X p c k) {o : CmpOp} (hs : notSet b = true) (ha : PE X a (tE p X.K ca)) (hb : PE X b (tE p X.K cb)) : PE X (.Compare a [o] [b] pos) (tE p X.K (.cmp (cCmp o) ca cb)) := by
  have hu : X.A.units + 1 < cLine := by have := M.hu; omega
  have main : ∀ σ H (Q : VK), tE p X.K (.cmp (cCmp o) ca cb) σ H Q → tOp (rCmp X.K (cmpop (cCmp o))) (tE p X.K ca) (tE p X.K cb) σ H Q ∨
      (o = .In ∧ tDIn (tE p X.K ca) (tE p X.K cb) σ H Q) ∨ (o = .NotIn ∧ tDNotIn (tE p X.K ca) (tE p X.K cb) σ H Q) := fun σ H Q h => by
    obtain ⟨ρ, S, e, x, sm, en, h, kq⟩ := h
    simp only [ev, Option.bind_eq_some_iff, Option.map_eq_some_iff] at h
    obtain ⟨x1, h1, x2, h2, r, h3, h4⟩ := h
    subst h4
    rcases alt_or h3 with h3 | h3
    · exact .inl (st2 sm en h1 h2 fun ρ' H' v w p1 g1 s1 e1 r1 r2 => ⟨ρ', x2.2, x1.1, x2.1, r, s1, r1, r2, h3, (kq.mono p1 g1).here s1 (.bl _)⟩)
    · right
      unfold dinop at h3
      split at h3
      · rename_i n hq _
        simp only [Option.bind_eq_some_iff, Option.map_eq_some_iff] at h3
        obtain ⟨kk, h4, kvs, h5, h6⟩ := h3
        have ho : o = .In := by cases o <;> simp only [cCmp, reduceCtorEq] at hq <;> rfl
        refine .inl ⟨ho, st2 sm en h1 h2 fun ρ' H' v w p1 g1 s1 e1 r1 r2 => ?_⟩
        obtain ⟨A, oo, q1, q2, q3⟩ := din_rd (t := r) s1 r1 r2 (by assumption) h4 h5
        exact ⟨A, oo, q1, q2, by rw [q3, h6]; exact (kq.mono p1 g1).here s1 (.bl _)⟩
      · rename_i n hq _
        simp only [Option.bind_eq_some_iff, Option.map_eq_some_iff] at h3
        obtain ⟨kk, h4, kvs, h5, h6⟩ := h3
        have ho : o = .NotIn := by cases o <;> simp only [cCmp, reduceCtorEq] at hq <;> rfl
        refine .inr ⟨ho, st2 sm en h1 h2 fun ρ' H' v w p1 g1 s1 e1 r1 r2 => ?_⟩
        obtain ⟨A, oo, q1, q2, q3⟩ := din_rd (t := r) s1 r1 r2 (by assumption) h4 h5
        exact ⟨A, oo, q1, q2, by rw [q3, h6]; exact (kq.mono p1 g1).here s1 (.bl _)⟩
      · cases h3
  have base := pe_cmpR (pos := pos) (op_cmpM (X := X) (by have := M.hu; omega) o) ha hb (noSet hs o)
  by_cases h1 : o = .In
  · subst h1
    exact PE.by2 base (pe_cmp (pc_din hu ha hb) (noSet hs _)) fun σ H Q h => by
      rcases main σ H Q h with h | ⟨_, h⟩ | ⟨h, _⟩
      · exact .inl h
      · exact .inr h
      · cases h
  · by_cases h2 : o = .NotIn
    · subst h2
      exact PE.by2 base (pe_cmp (pc_dnotin hu ha hb) (noSet hs _)) fun σ H Q h => by
        rcases main σ H Q h with h | ⟨h, _⟩ | ⟨_, h⟩
        · exact .inl h
        · cases h
        · exact .inr h
    · exact PE.imp base fun σ H Q h => by
        rcases main σ H Q h with h | ⟨h, _⟩ | ⟨h, _⟩
        · exact h
        · exact absurd h h1
        · exact absurd h h2
theorem k_chain (M : Mat X p c k) {o1 o2 : CmpOp} (hs : notSet d = true) (ha : PE X a (tE p X.K ca)) (hb : PE X b (tE p X.K cb)) (hd : PE X d (tE p X.K cd)) :
    PE X (.Compare a [o1, o2] [b, d] pos) (tE p X.K (.chain (cCmp o1) (cCmp o2) ca cb cd)) := by
  have hu : X.A.units + 65 < cLine := by have := M.hu; omega
  refine PE.imp (pe_chain (op_cmpM hu o1) (op_cmpM hu o2) ha hb hd (by simp only [lastMarks]; exact noSet hs o2)) fun σ H Q h => ?_
  obtain ⟨ρ, S, e, x, sm, en, h, kq⟩ := h
  simp only [ev, Option.bind_eq_some_iff] at h
  obtain ⟨x1, h1, x2, h2, r, h3, h4⟩ := h
  refine st2 sm en h1 h2 fun ρ' H' v w p1 g1 s1 e1 r1 r2 => ⟨ρ', x2.2, x1.1, x2.1, r, s1, r1, r2, h3, r, rfl, ?_⟩
  cases r with
  | true =>
    simp only [if_true, Option.bind_eq_some_iff, Option.map_eq_some_iff] at h4 ⊢
    obtain ⟨x3, h5, r', h6, h7⟩ := h4
    subst h7
    exact st1 s1 e1 h5 fun ρ2 H2 z p2 g2 s2 e2 r3 => ⟨ρ2, x3.2, x2.1, x3.1, r', s2, r2.mono g2 p2, r3, h6, (kq.mono (p1.trans p2) (g1.trans g2)).here s2 (.bl _)⟩
  | false =>
    simp only [Bool.false_eq_true, if_false, Option.some.injEq] at h4 ⊢
    subst h4
    exact (kq.mono p1 g1).here s1 (.bl _)
theorem k_and1 {op : BoolOp} (ha : PE X a (tE p X.K ca)) : PE X (.BoolOp op [a] pos) (tE p X.K ca) := pe_one ha
theorem k_and {r : List Expr} (ha : PE X a (tE p X.K ca)) (hb : PE X (.BoolOp .And (b :: r) pos) (tE p X.K cb)) : PE X (.BoolOp .And (a :: b :: r) pos) (tE p X.K (.and_ ca cb)) := by
  refine PE.imp (pe_and ha hb) fun σ H Q h => ?_
  obtain ⟨ρ, S, e, x, sm, en, h, kq⟩ := h
  simp only [ev, Option.bind_eq_some_iff] at h
  obtain ⟨x1, h1, h2⟩ := h
  refine st1 sm en h1 fun ρ' H' v p1 g1 s1 e1 r1 => ?_
  split at h2
  · rename_i hi
    rw [hi] at r1
    refine ⟨true, rep_bl r1, ?_⟩
    exact ⟨ρ', x1.2, e, x, s1, e1, h2, kq.mono p1 g1⟩
  · rename_i hi
    cases h2
    rw [hi] at r1
    exact ⟨false, rep_bl r1, (kq.mono p1 g1).here s1 (.bl _)⟩
  · cases h2
theorem k_or {r : List Expr} (ha : PE X a (tE p X.K ca)) (hb : PE X (.BoolOp .Or (b :: r) pos) (tE p X.K cb)) : PE X (.BoolOp .Or (a :: b :: r) pos) (tE p X.K (.or_ ca cb)) := by
  refine PE.imp (pe_or ha hb) fun σ H Q h => ?_
  obtain ⟨ρ, S, e, x, sm, en, h, kq⟩ := h
  simp only [ev, Option.bind_eq_some_iff] at h
  obtain ⟨x1, h1, h2⟩ := h
  refine st1 sm en h1 fun ρ' H' v p1 g1 s1 e1 r1 => ?_
  split at h2
  · rename_i hi
    cases h2
    rw [hi] at r1
    exact ⟨true, rep_bl r1, (kq.mono p1 g1).here s1 (.bl _)⟩
  · rename_i hi
    rw [hi] at r1
    refine ⟨false, rep_bl r1, ?_⟩
    exact ⟨ρ', x1.2, e, x, s1, e1, h2, kq.mono p1 g1⟩
  · cases h2
theorem k_ife {t : Expr} {ct : C} (ht : PT X t (tTs p X.K ct)) (ha : PE X a (tE p X.K ca)) (hb : PE X b (tE p X.K cb)) : PE X (.IfExp t a b pos) (tE p X.K (.ife ct ca cb)) := by
  refine PE.imp (pe_ifExp ht ha hb) fun σ H Q h => ?_
  obtain ⟨ρ, S, e, x, sm, en, h, kq⟩ := h
  simp only [ev, Option.bind_eq_some_iff] at h
  obtain ⟨x1, h1, h2⟩ := h
  obtain ⟨d1, S1⟩ := x1
  split at h2
  · rename_i hi
    simp only at hi
    subst hi
    refine stT sm en h1 fun ρ' H' p1 g1 s1 e1 => ?_
    exact ⟨ρ', S1, e, x, s1, e1, h2, kq.mono p1 g1⟩
  · rename_i hi
    simp only at hi
    subst hi
    refine stT sm en h1 fun ρ' H' p1 g1 s1 e1 => ?_
    exact ⟨ρ', S1, e, x, s1, e1, h2, kq.mono p1 g1⟩
  · cases h2
/-! ### tests -/
theorem k_tval (ha : PE X e (tE p X.K ca)) (he : ∀ whole, isTrue e X.env whole = (do let v ← whole; standAt e.pos; holding [v] (truthy v))) : PT X e (tTs p X.K ca) := by
  refine PT.imp (pt_val ha he) fun σ H Q h => ?_
  obtain ⟨ρ, S, e, b, S', sm, en, h, kq⟩ := h
  exact st1 sm en h fun ρ' H' v p1 g1 s1 e1 r1 => ⟨b, rep_bl r1, kq ρ' H' p1 g1 s1⟩
theorem k_tcmp (M : Mat X p c k) {o : CmpOp} (hs : notSet b = true) (ha : PE X a (tE p X.K ca)) (hb : PE X b (tE p X.K cb)) : PT X (.Compare a [o] [b] pos) (tTs p X.K (.cmp (cCmp o) ca cb)) := by
  have hu : X.A.units + 1 < cLine := by have := M.hu; omega
  have main : ∀ σ H (Q : Bool → Hp → Prop), tTs p X.K (.cmp (cCmp o) ca cb) σ H Q → tTest (tOp (rCmp X.K (cmpop (cCmp o))) (tE p X.K ca) (tE p X.K cb)) σ H Q ∨
      (o = .In ∧ tB (tDIn (tE p X.K ca) (tE p X.K cb)) σ H Q) ∨ (o = .NotIn ∧ tB (tDNotIn (tE p X.K ca) (tE p X.K cb)) σ H Q) := fun σ H Q h => by
    obtain ⟨ρ, S, e, q, S', sm, en, h, kq⟩ := h
    simp only [ev, Option.bind_eq_some_iff, Option.map_eq_some_iff] at h
    obtain ⟨x1, h1, x2, h2, r, h3, h4⟩ := h
    cases h4
    rcases alt_or h3 with h3 | h3
    · exact .inl (st2 sm en h1 h2 fun ρ' H' v w p1 g1 s1 e1 r1 r2 => ⟨ρ', x2.2, x1.1, x2.1, q, s1, r1, r2, h3, q, rfl, kq ρ' H' p1 g1 s1⟩)
    · right
      unfold dinop at h3
      split at h3
      · rename_i n hq _
        simp only [Option.bind_eq_some_iff, Option.map_eq_some_iff] at h3
        obtain ⟨kk, h4, kvs, h5, h6⟩ := h3
        have ho : o = .In := by cases o <;> simp only [cCmp, reduceCtorEq] at hq <;> rfl
        refine .inl ⟨ho, st2 sm en h1 h2 fun ρ' H' v w p1 g1 s1 e1 r1 r2 => ?_⟩
        obtain ⟨A, oo, q1, q2, q3⟩ := din_rd (t := q) s1 r1 r2 (by assumption) h4 h5
        exact ⟨A, oo, q1, q2, q, by rw [q3, h6], kq ρ' H' p1 g1 s1⟩
      · rename_i n hq _
        simp only [Option.bind_eq_some_iff, Option.map_eq_some_iff] at h3
        obtain ⟨kk, h4, kvs, h5, h6⟩ := h3
        have ho : o = .NotIn := by cases o <;> simp only [cCmp, reduceCtorEq] at hq <;> rfl
        refine .inr ⟨ho, st2 sm en h1 h2 fun ρ' H' v w p1 g1 s1 e1 r1 r2 => ?_⟩
        obtain ⟨A, oo, q1, q2, q3⟩ := din_rd (t := q) s1 r1 r2 (by assumption) h4 h5
        exact ⟨A, oo, q1, q2, q, by rw [q3, h6], kq ρ' H' p1 g1 s1⟩
      · cases h3
  have base := pt_cmpR (pos := pos) (op_cmpM (X := X) (by have := M.hu; omega) o) ha hb (noSet hs o)
  by_cases h1 : o = .In
  · subst h1
    exact PT.by2 base (pt_cmp (pc_din hu ha hb) (noSet hs _)) fun σ H Q h => by
      rcases main σ H Q h with h | ⟨_, h⟩ | ⟨h, _⟩
      · exact .inl h
      · exact .inr h
      · cases h
  · by_cases h2 : o = .NotIn
    · subst h2
      exact PT.by2 base (pt_cmp (pc_dnotin hu ha hb) (noSet hs _)) fun σ H Q h => by
        rcases main σ H Q h with h | ⟨h, _⟩ | ⟨_, h⟩
        · exact .inl h
        · cases h
        · exact .inr h
    · exact PT.imp base fun σ H Q h => by
        rcases main σ H Q h with h | ⟨h, _⟩ | ⟨h, _⟩
        · exact h
        · exact absurd h h1
        · exact absurd h h2
theorem k_tnot (ha : PT X a (tTs p X.K ca)) : PT X (.UnaryOp .Not a pos) (tTs p X.K (.not_ ca)) := by
  refine PT.imp (pt_not ha) fun σ H Q h => ?_
  obtain ⟨ρ, S, e, q, S', sm, en, h, kq⟩ := h
  simp only [ev, Option.bind_eq_some_iff] at h
  obtain ⟨⟨d1, S1⟩, h1, h2⟩ := h
  split at h2
  · rename_i b hi
    simp only at hi
    subst hi
    cases h2
    exact stT sm en h1 fun ρ' H' p1 g1 s1 e1 => kq ρ' H' p1 g1 s1
  · cases h2
theorem k_tand1 (ha : PT X a (tTs p X.K ca)) : PW X (.BoolOp .And [a] pos) (tTs p X.K ca) := pw_and1 ha
theorem k_tor1 (ha : PT X a (tTs p X.K ca)) : PW X (.BoolOp .Or [a] pos) (tTs p X.K ca) := pw_or1 ha
theorem k_tand {r : List Expr} (ha : PT X a (tTs p X.K ca)) (hb : PW X (.BoolOp .And (b :: r) pos) (tTs p X.K cb)) : PW X (.BoolOp .And (a :: b :: r) pos) (tTs p X.K (.and_ ca cb)) := by
  refine PW.imp (pw_and ha hb) fun σ H Q h => ?_
  obtain ⟨ρ, S, e, q, S', sm, en, h, kq⟩ := h
  simp only [ev, Option.bind_eq_some_iff] at h
  obtain ⟨⟨d1, S1⟩, h1, h2⟩ := h
  split at h2
  · rename_i hi
    simp only at hi
    subst hi
    refine stT sm en h1 fun ρ' H' p1 g1 s1 e1 => ?_
    exact ⟨ρ', S1, e, q, S', s1, e1, h2, fun ρ2 H2 p2 g2 s2 => kq ρ2 H2 (p1.trans p2) (g1.trans g2) s2⟩
  · rename_i hi
    simp only at hi
    subst hi
    cases h2
    exact stT sm en h1 fun ρ' H' p1 g1 s1 e1 => kq ρ' H' p1 g1 s1
  · cases h2
theorem k_tor {r : List Expr} (ha : PT X a (tTs p X.K ca)) (hb : PW X (.BoolOp .Or (b :: r) pos) (tTs p X.K cb)) : PW X (.BoolOp .Or (a :: b :: r) pos) (tTs p X.K (.or_ ca cb)) := by
  refine PW.imp (pw_or ha hb) fun σ H Q h => ?_
  obtain ⟨ρ, S, e, q, S', sm, en, h, kq⟩ := h
  simp only [ev, Option.bind_eq_some_iff] at h
  obtain ⟨⟨d1, S1⟩, h1, h2⟩ := h
  split at h2
  · rename_i hi
    simp only at hi
    subst hi
    cases h2
    exact stT sm en h1 fun ρ' H' p1 g1 s1 e1 => kq ρ' H' p1 g1 s1
  · rename_i hi
    simp only at hi
    subst hi
    refine stT sm en h1 fun ρ' H' p1 g1 s1 e1 => ?_
    exact ⟨ρ', S1, e, q, S', s1, e1, h2, fun ρ2 H2 p2 g2 s2 => kq ρ2 H2 (p1.trans p2) (g1.trans g2) s2⟩
  · cases h2
end
end Tm

set_option Elab.async false
set_option linter.all false
set_option maxRecDepth 100000
set_option maxHeartbeats 4000000
namespace Tm
open PySem PySem.Spec PyProof.Rows L2
section
variable {X : Cx} {p : Pm} {c : Cc} {k : Nat} {e a b d : Expr} {es : List Expr} {ca cb cd : C} {pos : Pos}
/-! ### arguments -/
theorem star1 {e : Expr} (h : notStar e = true) (es : List Expr) (env : Env) : starEach (e :: es) env = (false, eval e env) :: starEach es env := by
  cases e <;> first | rfl | (simp [notStar] at h; done)
theorem noStars {es : List Expr} (h : es.all notStar = true) (pos : Pos) (env : Env) : (backTo pos (starEach es env)).any (·.1) = false := by
  induction es with
  | nil => rfl
  | cons e r ih =>
    rw [List.all_cons, Bool.and_eq_true] at h
    rw [star1 h.1]
    have q := ih h.2
    unfold backTo at q ⊢
    rw [List.map_cons, List.any_cons, q]
    rfl
theorem k_anil : PA X [] (tA p X.K .nil) := PA.imp pa_nil fun σ H Q h => by
  obtain ⟨ρ, S, e, ds, S', sm, en, h, q⟩ := h
  simp only [ev, Option.some.injEq, Prod.mk.injEq, D.tup.injEq] at h
  obtain ⟨h1, h2⟩ := h
  subst h1; subst h2
  exact q ρ H [] (Pre.refl ρ) (Gro.refl H) sm .nil
theorem k_acons (hs : notStar a = true) (ha : PE X a (tE p X.K ca)) (hb : PA X es (tA p X.K cb)) : PA X (a :: es) (tA p X.K (.cons ca cb)) := by
  refine PA.imp (pa_cons ha hb (star1 hs es _)) fun σ H Q h => ?_
  obtain ⟨ρ, S, e, ds, S', sm, en, h, q⟩ := h
  simp only [ev, Option.bind_eq_some_iff] at h
  obtain ⟨x1, h1, ⟨y, S2⟩, h2, h3⟩ := h
  refine st1 sm en h1 fun ρ1 H1 v p1 g1 s1 e1 r1 => ?_
  split at h3
  · rename_i fs hf
    cases h3
    simp only at hf
    subst hf
    exact ⟨ρ1, x1.2, e, fs, _, s1, e1, h2, fun ρ2 H2 vs p2 g2 s2 r2 => q ρ2 H2 (v :: vs) (p1.trans p2) (g1.trans g2) s2 (.cons (r1.mono g2 p2) r2)⟩
  · cases h3
theorem k_abad : PA X es (tA p X.K .bad) := ⟨fun _ _ _ _ _ _ _ h => by obtain ⟨_, _, _, _, _, _, _, h, _⟩ := h; exact (none_bad h).elim⟩
theorem stA {K : PySem.W.Frag} {ρ : List Addr} {S S' : Store} {H : Hp} {e : Env'} {σ : L2.St} {ds : List D} (sm : Sim K ρ S H) (en : EnvR K ρ H e σ) (ha : ev p ca e S = some (.tup ds, S')) {Q : List V → Hp → Prop}
    (q : ∀ (ρ' : List Addr) (H' : Hp) (vs : List V), Pre ρ ρ' → Gro H H' → Sim K ρ' S' H' → EnvR K ρ' H' e σ → Reps K ρ' H' vs ds → Q vs H') : tA p K ca σ H Q :=
  ⟨ρ, S, e, ds, S', sm, en, ha, fun ρ' H' vs p1 g1 s1 r1 => q ρ' H' vs p1 g1 s1 (en.mono p1 g1) r1⟩
theorem k_tup {kk : Nat} (ha : PA X es (tA p X.K ca)) : PE X (.Tuple es kk pos) (tE p X.K (.tup ca)) := by
  refine PE.imp (pe_tup ha) fun σ H Q h => ?_
  obtain ⟨ρ, S, e, x, sm, en, h, q⟩ := h
  simp only [ev, Option.bind_eq_some_iff] at h
  obtain ⟨⟨y, S1⟩, h1, h2⟩ := h
  split at h2
  · rename_i ds hd
    simp only at hd
    subst hd
    obtain ⟨hz, h3⟩ := okI_some h2
    subst h3
    refine stA sm en h1 fun ρ1 H1 vs p1 g1 s1 e1 r1 => ⟨by rw [r1.length]; exact of_decide_eq_true hz, fun pp hp => (q.mono p1 g1).tup s1 r1 hp⟩
  · cases h2
theorem k_lst (ha : PA X es (tA p X.K ca)) : PE X (.List es pos) (tE p X.K (.lst ca)) := by
  refine PE.imp (pe_lst ha) fun σ H Q h => ?_
  obtain ⟨ρ, S, e, x, sm, en, h, q⟩ := h
  simp only [ev, Option.bind_eq_some_iff] at h
  obtain ⟨⟨y, S1⟩, h1, h2⟩ := h
  split at h2
  · rename_i ds hd
    simp only at hd
    subst hd
    split at h2
    · rename_i hz
      cases h2
      exact stA sm en h1 fun ρ1 H1 vs p1 g1 s1 e1 r1 => ⟨by rw [r1.length]; exact hz, fun pp hp => (q.mono p1 g1).lst s1 r1 hp⟩
    · cases h2
  · cases h2
/-! ### subscripts -/
theorem plainIx (h : isSlice b = false) : PlainIx b := by
  intro o i
  cases b <;> first | rfl | (simp [isSlice] at h; done)
theorem noSl (h : isSlice b = false) : NoSl b := by
  intro ov iv
  cases b <;> first | rfl | (simp [isSlice] at h; done)
theorem k_idx (hu : X.A.units + 1 < cLine) (hs : isSlice b = false) (ha : PE X a (tE p X.K ca)) (hb : PE X b (tE p X.K cb)) : PE X (.Subscript a b pos) (tE p X.K (.idx ca cb)) := by
  refine PE.by2 (pe_ix ix_M ha hb (plainIx hs)) (pe_dget hu ha hb (noSl hs)) fun σ H Q h => ?_
  obtain ⟨ρ, S, e, x, sm, en, h, q⟩ := h
  simp only [ev, Option.bind_eq_some_iff, Option.map_eq_some_iff] at h
  obtain ⟨x1, h1, x2, h2, d, h3, h4⟩ := h
  subst h4
  rcases alt_or h3 with h3 | h3
  · exact .inl (st2 sm en h1 h2 fun ρ' H' v w p1 g1 s1 e1 r1 r2 => ⟨ρ', x2.2, x1.1, x2.1, d, s1, r1, r2, h3, fun z rz => (q.mono p1 g1).here s1 rz⟩)
  · unfold dgetop at h3
    split at h3
    · rename_i n hn
      simp only [Option.bind_eq_some_iff] at h3
      obtain ⟨kk, h4, kvs, h5, h6⟩ := h3
      refine .inr (st2 sm en h1 h2 fun ρ' H' v w p1 g1 s1 e1 r1 r2 => ?_)
      rw [hn] at r1
      obtain ⟨A, eA, hA⟩ := rep_ref r1
      obtain ⟨e4, ws, q1, q2, q3⟩ := s1.dct h5 hA
      rcases val_rel (kk := kk) q2 q3 with ⟨v', d', w1, w2, w3⟩ | ⟨w1, w2⟩
      · rw [w2] at h6
        cases h6
        exact ⟨A, v', eA, .inl ⟨ws, kk, .inl q1, rep_key r2 h4, w1.symm⟩, (q.mono p1 g1).here s1 w3⟩
      · rw [w2] at h6; cases h6
    · cases h3
theorem k_onone : PO X none (tO' p X.K .absent) := PO.imp po_none fun σ H Q h => by
  obtain ⟨ρ, S, e, x, sm, en, h, q⟩ := h
  simp only [part, isAbs, if_true, Option.some.injEq] at h
  subst h
  exact q ρ H (Pre.refl ρ) (Gro.refl H) sm
theorem k_osome (hn : isAbs ca = false) (ha : PE X a (tE p X.K ca)) : PO X (some a) (tO' p X.K ca) := PO.imp (po_some ha) fun σ H Q h => by
  obtain ⟨ρ, S, e, x, sm, en, h, q⟩ := h
  simp only [part, hn, Bool.false_eq_true, if_false, Option.bind_eq_some_iff] at h
  obtain ⟨⟨y, S1⟩, h1, h2⟩ := h
  split at h2
  · rename_i i hi
    simp only at hi
    subst hi
    cases h2
    exact st1 sm en h1 fun ρ1 H1 v p1 g1 s1 e1 r1 => ⟨i, rep_int r1, q ρ1 H1 p1 g1 s1⟩
  · cases h2
theorem k_slc {lo hi : Option Expr} {p2 : Pos} (ha : PE X a (tE p X.K ca)) (hl : PO X lo (tO' p X.K cb)) (hh : PO X hi (tO' p X.K cd)) : PE X (.Subscript a (.Slice lo hi none p2) pos) (tE p X.K (.slc ca cb cd)) := by
  refine PE.imp (pe_slice sl_M ha hl hh) fun σ H Q h => ?_
  obtain ⟨ρ, S, e, x, sm, en, h, q⟩ := h
  simp only [ev, Option.bind_eq_some_iff] at h
  obtain ⟨x1, h1, x2, h2, x3, h3, h4⟩ := h
  refine st1 sm en h1 fun ρ1 H1 v p1 g1 s1 e1 r1 => ⟨ρ1, x1.2, e, x2, s1, e1, h2, fun ρ2 H2 p2 g2 s2 => ⟨ρ2, x2.2, e, x3, s2, e1.mono p2 g2, h3, fun ρ3 H3 p3 g3 s3 => ?_⟩⟩
  exact ⟨ρ3, x3.2, x1.1, x.1, x.2, s3, r1.mono (g2.trans g3) (p2.trans p3), h4, q.mono (p1.trans (p2.trans p3)) (g1.trans (g2.trans g3))⟩
/-! ### the module's dicts -/
theorem dicOf_some {g : Nat} (h : dicOf c a = some g) : ∃ x pos, a = .Name x pos ∧ glB c x = true ∧ c.G.dics.lookup x = some g := by
  cases a with
  | Name x pos =>
    simp only [dicOf] at h
    split at h
    · exact ⟨x, pos, rfl, by assumption, h⟩
    · cases h
  | _ => simp [dicOf] at h
theorem k_kget (M : Mat X p c k) {g : Nat} (hd : dicOf c a = some g) (hs : isSlice b = false) (hb : PE X b (tE p X.K cb)) : PE X (.Subscript a b pos) (tE p X.K (.kget g cb)) := by
  obtain ⟨x, px, ea, hg, hl⟩ := dicOf_some hd
  subst ea
  obtain ⟨A, es, n, hm, hk, hz⟩ := M.glob.dics x g hl
  refine PE.imp (pe_ix ix_kdict (pe_glob (v := .ref A) (M.gl hg).1 hm rfl (bad3 (M.gl hg).2).1) hb (plainIx hs)) fun σ H Q h => ?_
  obtain ⟨ρ, S, e, x, sm, en, h, q⟩ := h
  simp only [ev, Option.bind_eq_some_iff] at h
  obtain ⟨⟨y, S1⟩, h1, h2⟩ := h
  split at h2
  · rename_i z hzz
    simp only at hzz
    subst hzz
    simp only [Option.map_eq_some_iff] at h2
    obtain ⟨d, h3, h4⟩ := h2
    subst h4
    have hz := hz z
    rw [h3] at hz
    obtain ⟨u, v, h5, h6, h7⟩ := hz
    refine st1 sm en h1 fun ρ1 H1 w p1 g1 s1 e1 r1 => ?_
    exact ⟨A, z, v, rfl, rep_str r1, ⟨es, n, u, hk.at_, hk.lit, h5, h6⟩, (q.mono p1 g1).here s1 (h7 _ _)⟩
  · cases h2
theorem k_kin (M : Mat X p c k) {g : Nat} (hd : dicOf c b = some g) (hs : notSet b = true) (ha : PE X a (tE p X.K ca)) : PE X (.Compare a [.In] [b] pos) (tE p X.K (.kin g false ca)) := by
  obtain ⟨x, px, eb, hg, hl⟩ := dicOf_some hd
  subst eb
  obtain ⟨A, es, n, hm, hk, hz⟩ := M.glob.dics x g hl
  refine PE.imp (pe_cmpR (op_in_kd hk) ha (pe_glob (v := .ref A) (M.gl hg).1 hm rfl (bad3 (M.gl hg).2).1) rfl) fun σ H Q h => ?_
  obtain ⟨ρ, S, e, x, sm, en, h, q⟩ := h
  simp only [ev, Option.bind_eq_some_iff] at h
  obtain ⟨⟨y, S1⟩, h1, h2⟩ := h
  split at h2
  · rename_i z hzz
    simp only at hzz
    subst hzz
    cases h2
    have hz := hz z
    refine st1 sm en h1 fun ρ1 H1 w p1 g1 s1 e1 r1 => ?_
    cases q1 : lookK (p.kd g) z with
    | none => rw [q1] at hz q; exact ⟨z, _, rep_str r1, rfl, hz, (q.mono p1 g1).here s1 (.bl _)⟩
    | some d =>
      rw [q1] at hz q
      obtain ⟨u, v, h5, h6, h7⟩ := hz
      exact ⟨z, _, rep_str r1, rfl, h5, (q.mono p1 g1).here s1 (.bl _)⟩
  · cases h2
theorem k_knin (M : Mat X p c k) {g : Nat} (hd : dicOf c b = some g) (hs : notSet b = true) (ha : PE X a (tE p X.K ca)) : PE X (.Compare a [.NotIn] [b] pos) (tE p X.K (.kin g true ca)) := by
  obtain ⟨x, px, eb, hg, hl⟩ := dicOf_some hd
  subst eb
  obtain ⟨A, es, n, hm, hk, hz⟩ := M.glob.dics x g hl
  refine PE.imp (pe_cmpR (op_notIn_kd hk) ha (pe_glob (v := .ref A) (M.gl hg).1 hm rfl (bad3 (M.gl hg).2).1) rfl) fun σ H Q h => ?_
  obtain ⟨ρ, S, e, x, sm, en, h, q⟩ := h
  simp only [ev, Option.bind_eq_some_iff] at h
  obtain ⟨⟨y, S1⟩, h1, h2⟩ := h
  split at h2
  · rename_i z hzz
    simp only at hzz
    subst hzz
    cases h2
    have hz := hz z
    refine st1 sm en h1 fun ρ1 H1 w p1 g1 s1 e1 r1 => ?_
    cases q1 : lookK (p.kd g) z with
    | none => rw [q1] at hz q; exact ⟨z, _, rep_str r1, rfl, hz, (q.mono p1 g1).here s1 (.bl _)⟩
    | some d =>
      rw [q1] at hz q
      obtain ⟨u, v, h5, h6, h7⟩ := hz
      exact ⟨z, _, rep_str r1, rfl, h5, (q.mono p1 g1).here s1 (.bl _)⟩
  · cases h2
theorem k_tkin (M : Mat X p c k) {g : Nat} (hd : dicOf c b = some g) (ha : PE X a (tE p X.K ca)) : PT X (.Compare a [.In] [b] pos) (tTs p X.K (.kin g false ca)) := by
  obtain ⟨x, px, eb, hg, hl⟩ := dicOf_some hd
  subst eb
  obtain ⟨A, es, n, hm, hk, hz⟩ := M.glob.dics x g hl
  refine PT.imp (pt_cmpR (op_in_kd hk) ha (pe_glob (v := .ref A) (M.gl hg).1 hm rfl (bad3 (M.gl hg).2).1) rfl) fun σ H Q h => ?_
  obtain ⟨ρ, S, e, q0, S', sm, en, h, q⟩ := h
  simp only [ev, Option.bind_eq_some_iff] at h
  obtain ⟨⟨y, S1⟩, h1, h2⟩ := h
  split at h2
  · rename_i z hzz
    simp only at hzz
    subst hzz
    cases h2
    have hz := hz z
    refine st1 sm en h1 fun ρ1 H1 w p1 g1 s1 e1 r1 => ?_
    cases q1 : lookK (p.kd g) z with
    | none => rw [q1] at hz q; exact ⟨z, _, rep_str r1, rfl, hz, _, rfl, q ρ1 H1 p1 g1 s1⟩
    | some d =>
      rw [q1] at hz q
      obtain ⟨u, v, h5, h6, h7⟩ := hz
      exact ⟨z, _, rep_str r1, rfl, h5, _, rfl, q ρ1 H1 p1 g1 s1⟩
  · cases h2
theorem k_tknin (M : Mat X p c k) {g : Nat} (hd : dicOf c b = some g) (ha : PE X a (tE p X.K ca)) : PT X (.Compare a [.NotIn] [b] pos) (tTs p X.K (.kin g true ca)) := by
  obtain ⟨x, px, eb, hg, hl⟩ := dicOf_some hd
  subst eb
  obtain ⟨A, es, n, hm, hk, hz⟩ := M.glob.dics x g hl
  refine PT.imp (pt_cmpR (op_notIn_kd hk) ha (pe_glob (v := .ref A) (M.gl hg).1 hm rfl (bad3 (M.gl hg).2).1) rfl) fun σ H Q h => ?_
  obtain ⟨ρ, S, e, q0, S', sm, en, h, q⟩ := h
  simp only [ev, Option.bind_eq_some_iff] at h
  obtain ⟨⟨y, S1⟩, h1, h2⟩ := h
  split at h2
  · rename_i z hzz
    simp only at hzz
    subst hzz
    cases h2
    have hz := hz z
    refine st1 sm en h1 fun ρ1 H1 w p1 g1 s1 e1 r1 => ?_
    cases q1 : lookK (p.kd g) z with
    | none => rw [q1] at hz q; exact ⟨z, _, rep_str r1, rfl, hz, _, rfl, q ρ1 H1 p1 g1 s1⟩
    | some d =>
      rw [q1] at hz q
      obtain ⟨u, v, h5, h6, h7⟩ := hz
      exact ⟨z, _, rep_str r1, rfl, h5, _, rfl, q ρ1 H1 p1 g1 s1⟩
  · cases h2
theorem k_tchain (M : Mat X p c k) {o1 o2 : CmpOp} (hs : notSet d = true) (ha : PE X a (tE p X.K ca)) (hb : PE X b (tE p X.K cb)) (hd : PE X d (tE p X.K cd)) :
    PT X (.Compare a [o1, o2] [b, d] pos) (tTs p X.K (.chain (cCmp o1) (cCmp o2) ca cb cd)) := by
  have hu : X.A.units + 65 < cLine := by have := M.hu; omega
  refine PT.imp (pt_chain (op_cmpM hu o1) (op_cmpM hu o2) ha hb hd (by simp only [lastMarks]; exact noSet hs o2)) fun σ H Q h => ?_
  obtain ⟨ρ, S, e, q0, S', sm, en, h, kq⟩ := h
  simp only [ev, Option.bind_eq_some_iff] at h
  obtain ⟨x1, h1, x2, h2, r, h3, h4⟩ := h
  refine st2 sm en h1 h2 fun ρ' H' v w p1 g1 s1 e1 r1 r2 => ⟨ρ', x2.2, x1.1, x2.1, r, s1, r1, r2, h3, r, rfl, ?_⟩
  cases r with
  | true =>
    simp only [if_true, Option.bind_eq_some_iff, Option.map_eq_some_iff] at h4 ⊢
    obtain ⟨x3, h5, r', h6, h7⟩ := h4
    cases h7
    exact st1 s1 e1 h5 fun ρ2 H2 z p2 g2 s2 e2 r3 => ⟨ρ2, x3.2, x2.1, x3.1, _, s2, r2.mono g2 p2, r3, h6, _, rfl, kq ρ2 H2 (p1.trans p2) (g1.trans g2) s2⟩
  | false =>
    simp only [Bool.false_eq_true, if_false, Option.some.injEq, Prod.mk.injEq, D.bl.injEq] at h4 ⊢
    obtain ⟨h5, h6⟩ := h4
    subst h5; subst h6
    exact ⟨false, rfl, kq ρ' H' p1 g1 s1⟩
theorem k_kgetd (M : Mat X p c k) {g : Nat} {o : Expr} {ap cp : Pos} (hd : dicOf c o = some g) (hap : (ap.endLine == cp.line) = true) (h1 : notStar a = true) (h2 : notStar b = true) (ha : PE X a (tE p X.K ca)) (hb : PE X b (tE p X.K cb)) :
    PE X (.Call (.Attribute o "get" ap) [a, b] [] cp) (tE p X.K (.kgetd g ca cb)) := by
  obtain ⟨x, px, eo, hg, hl⟩ := dicOf_some hd
  subst eo
  obtain ⟨A, es, n, hm, hk, hz⟩ := M.glob.dics x g hl
  have hst : starEach [a, b] X.env = [(false, eval a X.env), (false, eval b X.env)] := by rw [star1 h1, star1 h2]; rfl
  refine ⟨fun pins s σ H Q I h => ?_⟩
  obtain ⟨ρ, S, e, y, sm, en, h, q⟩ := h
  simp only [ev, Option.bind_eq_some_iff] at h
  obtain ⟨x1, e1, x2, e2, h⟩ := h
  refine wpAny_Call_method rfl (by rw [hst]; rfl) hap PySem.F.plainAttrs_dict PySem.F.slot_dict_get PySem.F.type_dict_get
    (thn ((pe_glob (v := .ref A) (M.gl hg).1 hm rfl (bad3 (M.gl hg).2).1).run pins s σ H (fun v H1 => v = .ref A ∧ H1 = H) I ⟨rfl, rfl⟩) fun u s1 ⟨v, H1, I1, rv, ev', eH⟩ => ?_)
  subst ev'
  subst eH
  cases rv
  have mo := PySem.W.mapOf_K (prog := X.prog) (w := X.w) I1.kIn hk.at_ hk.lit
  refine ⟨mo.typeIs, fun bb q' => ?_, ?_⟩
  · cases q'
    exact ⟨_, I1.kIn _ _ hk.at_, rfl⟩
  rw [hst]
  refine Calls.callWith_builtin rfl (Calls.evalArgs_plain (Calls.spliced_cons (thn (ha.run pins s1 σ H1 _ I1 (st1 sm en e1 (Q := fun v H2 => ∃ ρ2, Pre ρ ρ2 ∧ Gro H1 H2 ∧ Sim X.K ρ2 x1.2 H2 ∧ EnvR X.K ρ2 H2 e σ ∧ Rep X.K ρ2 H2 v x1.1) fun ρ' H' v p1 g1 s1 e1 r1 => ⟨ρ', p1, g1, s1, e1, r1⟩))
    fun iv s2 ⟨y1, H2, I2, ry, ρ2, p2, g2, sm2, en2, r2⟩ =>
    Calls.spliced_cons (thn (hb.run pins s2 σ H2 _ I2 (st1 sm2 en2 e2 (Q := fun v H3 => ∃ ρ3, Pre ρ2 ρ3 ∧ Gro H2 H3 ∧ Sim X.K ρ3 x2.2 H3 ∧ Rep X.K ρ3 H3 v x2.1) fun ρ' H' v p1 g1 s1 e1 r1 => ⟨ρ', p1, g1, s1, r1⟩))
    fun fv s3 ⟨z1, H3, I3, rz, ρ3, p3, g3, sm3, r3⟩ => Calls.spliced_nil ?_))))
  obtain ⟨d1, S1⟩ := x1
  split at h
  · rename_i z hzz
    simp only at hzz
    subst hzz
    cases h
    cases r2
    obtain ⟨t, rfl⟩ := ry
    have mo3 := PySem.W.mapOf_K (prog := X.prog) (w := X.w) I3.kIn hk.at_ hk.lit
    refine call_meetsIn PySem.F.slot_dict_get mo3.typeIs PySem.F.entry_dict_get (PySem.F.args_dict_get_3 _ _ _) (meets_dict_get_default (strKind X.prog X.w) A (PySem.strKind_is X.prog X.w z t) hk.low fv) ⟨_, mo3, ?_⟩
    have hz := hz z
    have kq := q.mono (p2.trans p3) (g2.trans g3)
    cases q1 : lookK (p.kd g) z with
    | none =>
      rw [q1] at hz kq
      rw [PySem.W.find_K hk.at_ hz]
      exact ⟨z1, H3, I3.tok _, rz, kq.here sm3 r3⟩
    | some d =>
      rw [q1] at hz kq
      obtain ⟨u, v, h5, h6, h7⟩ := hz
      rw [PySem.W.find_K hk.at_ h5]
      exact ⟨v, H3, I3.tok _, h6, kq.here sm3 (h7 _ _)⟩
  · cases h
end
end Tm

set_option Elab.async false
set_option linter.all false
set_option maxRecDepth 100000
set_option maxHeartbeats 4000000
namespace Tm
open PySem PySem.Spec PyProof.Rows L2
/-! ### picking arguments -/
theorem pick_rep {K : PySem.W.Frag} {ρ : List Addr} {H : Hp} {vs : List V} {ds : List D} (r : Reps K ρ H vs ds) : ∀ perm : List Nat, Reps K ρ H (pick perm vs) (pick perm ds)
  | [] => .nil
  | i :: l => by
    have ih := pick_rep r l
    unfold pick at ih ⊢
    cases e : ds[i]? with
    | none =>
      have e2 : vs[i]? = none := by
        rw [List.getElem?_eq_none_iff] at e ⊢
        rw [r.length]; exact e
      rw [List.filterMap_cons, List.filterMap_cons, e, e2]
      exact ih
    | some d =>
      obtain ⟨v, h1, h2⟩ := r.get e
      rw [List.filterMap_cons, List.filterMap_cons, e, h1]
      exact .cons h2 ih
theorem pick_vals {vs : List V} {us : List Value} (r : Vals vs us) : ∀ perm : List Nat, Vals (pick perm vs) (pick perm us)
  | [] => .nil
  | i :: l => by
    have ih := pick_vals r l
    unfold pick at ih ⊢
    cases e : vs[i]? with
    | none =>
      rw [List.filterMap_cons, List.filterMap_cons, e, r.none_of e]
      exact ih
    | some d =>
      obtain ⟨v, h1, h2⟩ := r.get e
      rw [List.filterMap_cons, List.filterMap_cons, e, h1]
      exact .cons h2 ih
theorem filterMap_range {α : Type} : ∀ l : List α, (List.range l.length).filterMap (fun i => l[i]?) = l := by
  intro l
  induction l with
  | nil => rfl
  | cons x r ih =>
    rw [List.length_cons, List.range_succ_eq_map, List.filterMap_cons]
    simp only [List.getElem?_cons_zero, List.filterMap_map]
    congr 1
theorem pick_all {α : Type} (l : List α) (n : Nat) (h : n = l.length) : pick (List.range n) l = l := by
  subst h
  exact filterMap_range l
section
variable {X : Cx} {p : Pm} {c : Cc} {k : Nat} {e a b d : Expr} {es : List Expr} {ca cb cd : C} {pos : Pos}
/-! ### keywords -/
theorem k_knil : PK X [] (tA p X.K .nil) := ⟨fun pos pins s σ H Q I h => by
  obtain ⟨ρ, S, e, ds, S', sm, en, h, q⟩ := h
  simp only [ev, Option.some.injEq, Prod.mk.injEq, D.tup.injEq] at h
  obtain ⟨h1, h2⟩ := h
  subst h1; subst h2
  exact pk_nil.run pos pins s σ H Q I (q ρ H [] (Pre.refl ρ) (Gro.refl H) sm .nil)⟩
theorem k_kcons {nm : Option Str} {kp : Pos} {kws : List Keyword} (ha : PE X a (tE p X.K ca)) (hb : PK X kws (tA p X.K cb)) : PK X (⟨nm, a, kp⟩ :: kws) (tA p X.K (.cons ca cb)) := ⟨fun pos pins s σ H Q I h => by
  refine (pk_cons ha hb).run pos pins s σ H Q I ?_
  obtain ⟨ρ, S, e, ds, S', sm, en, h, q⟩ := h
  simp only [ev, Option.bind_eq_some_iff] at h
  obtain ⟨x1, h1, ⟨y, S2⟩, h2, h3⟩ := h
  refine st1 sm en h1 fun ρ1 H1 v p1 g1 s1 e1 r1 => ?_
  split at h3
  · rename_i fs hf
    cases h3
    simp only at hf
    subst hf
    exact ⟨ρ1, x1.2, e, fs, _, s1, e1, h2, fun ρ2 H2 vs p2 g2 s2 r2 => q ρ2 H2 (v :: vs) (p1.trans p2) (g1.trans g2) s2 (.cons (r1.mono g2 p2) r2)⟩
  · cases h3⟩
theorem k_kbad {kws : List Keyword} : PK X kws (tA p X.K .bad) := ⟨fun _ _ _ _ _ _ _ h => by obtain ⟨_, _, _, _, _, _, _, h, _⟩ := h; exact (none_bad h).elim⟩
/-! ### calls -/
theorem sp_call {K : PySem.W.Frag} {f : List D → Store → Option (D × Store)} {ρ : List Addr} {S : Store} {H : Hp} {vs : List V} {ds : List D} {x : D × Store} {Q : VK} {n : Nat} (hn : ds.length = n) (sm : Sim K ρ S H) (r : Reps K ρ H vs ds) (h : f ds S = some x) (q : Aft K ρ H x.2 x.1 Q) : spR K n f vs H Q E0 :=
  ⟨by rw [r.length]; exact hn, ρ, S, ds, x.1, x.2, sm, r, h, q⟩
theorem k_call (M : Mat X p c k) {x : Str} {f : Nat} {ps : List Str} {px : Pos} (hg : glB c x = true) (hf : c.G.funs.lookup x = some (f, ps)) (har : Arity p.R f ps.length) (hst : (a :: es).all notStar = true) (hn : (a :: es).length = ps.length)
    (ha : PA X (a :: es) (tA p X.K ca)) (hl : ∀ e S ds S', ev p ca e S = some (.tup ds, S') → ds.length = (a :: es).length) : PE X (.Call (.Name x px) (a :: es) [] pos) (tE p X.K (.call f (List.range ps.length) ca .nil)) := by
  obtain ⟨A, fd, hm, hk, F, hb, _⟩ := M.glob.funs x f ps hf
  have hst2 := hst
  rw [List.all_cons, Bool.and_eq_true] at hst2
  refine ⟨fun pins s σ H Q I h => ?_⟩
  obtain ⟨ρ, S, e, y, sm, en, h, q⟩ := h
  simp only [ev, Option.bind_eq_some_iff] at h
  obtain ⟨⟨d1, S1⟩, h1, x2, h2, h3⟩ := h
  cases h2
  split at h3
  · rename_i ds fs e1 e2
    simp only at e1 e2
    subst e1
    cases e2
    rw [List.append_nil, pick_all ds ps.length (by rw [hl _ _ _ _ h1, hn])] at h3
    apply wpAny_Call_Name_kw
    apply ld_glob I (M.gl hg).1 hm _ (bad3 (M.gl hg).2).1
    apply PySem.W.callWith_K (h₀ := X.base) I.ok.mod.kin hk _ (star1 hst2.1 es X.env) (noStars hst2.2 _ _)
    refine thn (ha.run pos pins s σ H _ I (stA sm en h1 fun ρ1 H1 vs p1 g1 s1 e1 r1 => sp_call (har _ _ _ h3) s1 r1 h3 (q.mono p1 g1))) fun us s1 ⟨vs, H1, I1, rv, hsp⟩ => ⟨I1.kIn, ?_⟩
    have hz : us.length = ps.length := by
      rw [← rv.length]; exact hsp.1
    have bd := hb s1 us I1.kIn (by rw [List.append_nil]; exact hz)
    rw [List.append_nil] at bd
    exact callG F M.room M.gd bd I1 rv hsp
  · cases h3
theorem k_callv (M : Mat X p c k) {cf : C} {x : Str} {px : Pos} (hst : (a :: es).all notStar = true) (hf : PE X (.Name x px) (tE p X.K cf)) (ha : PA X (a :: es) (tA p X.K ca)) : PE X (.Call (.Name x px) (a :: es) [] pos) (tE p X.K (.callv cf ca)) := by
  have hst2 := hst
  rw [List.all_cons, Bool.and_eq_true] at hst2
  refine ⟨fun pins s σ H Q I h => ?_⟩
  obtain ⟨ρ, S, e, y, sm, en, h, q⟩ := h
  simp only [ev, Option.bind_eq_some_iff] at h
  obtain ⟨⟨d1, S1⟩, h1, ⟨d2, S2⟩, h2, h3⟩ := h
  split at h3
  · rename_i z ds e1 e2
    simp only at e1 e2
    subst e1
    subst e2
    simp only [Option.bind_eq_some_iff] at h3
    obtain ⟨i, hi, h3⟩ := h3
    obtain ⟨ps, hf2⟩ := M.glob.fxs z i hi
    obtain ⟨A, fd, hm, hk, F, hb, _⟩ := M.glob.funs z i ps hf2
    apply wpAny_Call_Name_kw
    refine thn (hf.run pins s σ H (fun v H1 => ∃ ρ1, Pre ρ ρ1 ∧ Gro H H1 ∧ Sim X.K ρ1 S1 H1 ∧ EnvR X.K ρ1 H1 e σ ∧ v = .ref A) I (st1 sm en h1 fun ρ1 H1 v p1 g1 s1 e1 r1 => ⟨ρ1, p1, g1, s1, e1, ?_⟩)) fun u s1 ⟨v, H1, I1, r1, ρ1, p1, g1, sm1, en1, evv⟩ => ?_
    · obtain ⟨A', rfl, hA⟩ := rep_fn r1
      have := M.glob.fnv z A' hA
      rw [hm] at this
      cases this
      rfl
    · subst evv
      cases r1
      apply PySem.W.callWith_K (h₀ := X.base) I1.ok.mod.kin hk _ (star1 hst2.1 es X.env) (noStars hst2.2 _ _)
      refine thn (ha.run pos pins s1 σ H1 _ I1 (stA sm1 en1 h2 fun ρ2 H2 vs p2 g2 s2 e2 r2 => sp_call (M.glob.ar z i ps hf2 _ _ _ h3) s2 r2 h3 (q.mono (p1.trans p2) (g1.trans g2)))) fun us s2 ⟨vs, H2, I2, rv, hsp⟩ => ⟨I2.kIn, ?_⟩
      have hz : us.length = ps.length := by
        rw [← rv.length]; exact hsp.1
      have bd := hb s2 us I2.kIn (by rw [List.append_nil]; exact hz)
      rw [List.append_nil] at bd
      exact callG F M.room M.gd bd I2 rv hsp
  · cases h3
theorem kwNames_ok : ∀ {kws : List Keyword} {ks : List Str}, kwNames kws = some ks → ∀ (pos : Pos) (env : Env), (backToKw pos (keywordEach kws env)).all (·.1.isSome) = true ∧ (backToKw pos (keywordEach kws env)).filterMap (·.1) = ks ∧ (backToKw pos (keywordEach kws env)).any (·.1.isNone) = false
  | [], ks, h, pos, env => by simp [kwNames] at h; subst h; exact ⟨rfl, rfl, rfl⟩
  | ⟨some x, v, kp⟩ :: r, ks, h, pos, env => by
    simp only [kwNames, Option.map_eq_some_iff] at h
    obtain ⟨s, h1, rfl⟩ := h
    obtain ⟨a1, a2, a3⟩ := kwNames_ok h1 pos env
    unfold backToKw at a1 a2 a3 ⊢
    refine ⟨?_, ?_, ?_⟩
    · show (true && _) = true; rw [Bool.true_and]; exact a1
    · show x :: _ = _; rw [← a2]
    · show (false || _) = false; rw [Bool.false_or]; exact a3
  | ⟨none, _, _⟩ :: _, ks, h, _, _ => by simp [kwNames] at h
theorem k_callK (M : Mat X p c k) {x : Str} {f : Nat} {ps ks : List Str} {px : Pos} {kws : List Keyword} {q : Str × Nat × List Str × List Nat} (hg : glB c x = true) (hf : c.G.funs.lookup x = some (f, ps)) (har : Arity p.R f ps.length) (hst : es.all notStar = true)
    (hks : kwNames kws = some ks) (hq : q ∈ c.G.kws) (hx : q.1 = x) (hnp : q.2.1 = es.length) (hqk : q.2.2.1 = ks)
    (ha : PA X es (tA p X.K ca)) (hb : PK X kws (tA p X.K cb)) (hl : ∀ e S ds S', ev p ca e S = some (.tup ds, S') → ds.length = es.length) (hl2 : ∀ e S ds S', ev p cb e S = some (.tup ds, S') → ds.length = ks.length)
    (hnil : es = [] → ∀ e S x, ev p ca e S = some x → x.2 = S) :
    PE X (.Call (.Name x px) es kws pos) (tE p X.K (.call f q.2.2.2 ca cb)) := by
  obtain ⟨A, fd, hm, hk, F, _, hbk⟩ := M.glob.funs x f ps hf
  have hbk := hbk q hq hx
  rw [hnp, hqk] at hbk
  refine ⟨fun pins s σ H Q I h => ?_⟩
  obtain ⟨ρ, S, e, y, sm, en, h, kq⟩ := h
  simp only [ev, Option.bind_eq_some_iff] at h
  obtain ⟨⟨d1, S1⟩, h1, ⟨d2, S2⟩, h2, h3⟩ := h
  obtain ⟨n1, n2, n3⟩ := kwNames_ok hks pos X.env
  split at h3
  · rename_i ds fs e1 e2
    simp only at e1 e2
    subst e1
    subst e2
    have fin : ∀ (s2 : Shared) (H2 : Hp) (us ws : List Value) (vs zs : List V) (ρ2 : List Addr), Inv X pins σ H2 s2 → Vals vs us → Vals zs ws → Pre ρ ρ2 → Gro H H2 → Sim X.K ρ2 S2 H2 → Reps X.K ρ2 H2 vs ds → Reps X.K ρ2 H2 zs fs →
        wpAny (model X.prog X.w) X.A (call (.ref A) ([] ++ us) (((backToKw pos (keywordEach kws X.env)).filterMap (·.1)).zip ws)) (EP X pins σ Q) X.xe s2 := by
      intro s2 H2 us ws vs zs ρ2 I2 rv rz p2 g2 s2' r1 r2
      rw [n2]
      have hu : us.length = es.length := by rw [← rv.length, r1.length, hl _ _ _ _ h1]
      have hw : ws.length = ks.length := by rw [← rz.length, r2.length, hl2 _ _ _ _ h2]
      exact callG F M.room M.gd (hbk s2 us ws hu hw) I2 (pick_vals (rv.append rz) _) (sp_call (har _ _ _ h3) s2' (pick_rep (r1.append r2) _) h3 (kq.mono p2 g2))
    apply wpAny_Call_Name_kw
    apply ld_glob I (M.gl hg).1 hm _ (bad3 (M.gl hg).2).1
    cases es with
    | nil =>
      refine PySem.W.callWith_KW0 (h₀ := X.base) I.ok.mod.kin hk n1 ?_ (by rw [n3]; rfl)
      have h0 := hl _ _ _ _ h1
      simp only [List.length_nil, List.length_eq_zero_iff] at h0
      subst h0
      have hS := hnil rfl _ _ _ h1
      simp only at hS
      subst hS
      refine thn (hb.run pos pins s σ H (fun zs H1 => ∃ ρ1, Pre ρ ρ1 ∧ Gro H H1 ∧ Sim X.K ρ1 S2 H1 ∧ Reps X.K ρ1 H1 zs fs) I (stA sm en h2 fun ρ1 H1 vs p1 g1 s1 e1 r1 => ⟨ρ1, p1, g1, s1, r1⟩))
        fun ws s1 ⟨zs, H1, I1, rz, ρ1, p1, g1, s1', r1⟩ => ⟨I1.kIn, fin s1 H1 [] ws [] zs ρ1 I1 .nil rz p1 g1 s1' .nil r1⟩
    | cons e1 er =>
      have hst2 := hst
      rw [List.all_cons, Bool.and_eq_true] at hst2
      refine PySem.W.callWith_KW (h₀ := X.base) I.ok.mod.kin hk n1 ?_ (by rw [noStars hst, n3]; rfl) (star1 hst2.1 er X.env)
      refine thn (ha.run pos pins s σ H (fun vs H1 => ∃ ρ1, Pre ρ ρ1 ∧ Gro H H1 ∧ Sim X.K ρ1 S1 H1 ∧ EnvR X.K ρ1 H1 e σ ∧ Reps X.K ρ1 H1 vs ds) I (stA sm en h1 fun ρ1 H1 vs p1 g1 s1 e1 r1 => ⟨ρ1, p1, g1, s1, e1, r1⟩))
        fun us s1 ⟨vs, H1, I1, rv, ρ1, p1, g1, sm1, en1, r1⟩ => ?_
      refine thn (hb.run pos pins s1 σ H1 (fun zs H2 => ∃ ρ2, Pre ρ1 ρ2 ∧ Gro H1 H2 ∧ Sim X.K ρ2 S2 H2 ∧ Reps X.K ρ2 H2 zs fs) I1 (stA sm1 en1 h2 fun ρ2 H2 vs p2 g2 s2 e2 r2 => ⟨ρ2, p2, g2, s2, r2⟩))
        fun ws s2 ⟨zs, H2, I2, rz, ρ2, p2, g2, sm2, r2⟩ => ⟨I2.kIn, fin s2 H2 us ws vs zs ρ2 I2 rv rz (p1.trans p2) (g1.trans g2) sm2 (r1.mono g2 p2) r2⟩
  · cases h3
end
end Tm

set_option Elab.async false
set_option linter.all false
set_option maxRecDepth 100000
set_option maxHeartbeats 4000000
namespace Tm
open PySem PySem.Spec PyProof.Rows L2
section
variable {X : Cx} {p : Pm} {c : Cc} {k : Nat} {e a b d : Expr} {es : List Expr} {ca cb cd : C} {pos : Pos}
/-! ### built-in functions -/
theorem biOf_val {x : Str} {q : Bi} (h : biOf x = some q) : bootBuiltins x = some (biVal q) := by
  unfold biOf at h
  repeat' (split at h; · rename_i e; subst e; cases h; decide +kernel)
  cases h
theorem sp_bi {K : PySem.W.Frag} {q : Bi} {ρ : List Addr} {S : Store} {H : Hp} {vs : List V} {ds : List D} {x : D × Store} {Q : VK} (sm : Sim K ρ S H) (r : Reps K ρ H vs ds) (h : biop q ds S = some x) (k : Aft K ρ H x.2 x.1 Q) : rCall K (biop q) vs H Q :=
  ⟨ρ, S, ds, x.1, x.2, sm, r, h, k⟩
theorem k_bi (M : Mat X p c k) {x : Str} {q : Bi} {px : Pos} (hg : bltB c x = true) (hq : biOf x = some q) (hst : (a :: es).all notStar = true) (ha : PA X (a :: es) (tA p X.K ca)) : PE X (.Call (.Name x px) (a :: es) [] pos) (tE p X.K (.bi q ca)) := by
  have hst2 := hst
  rw [List.all_cons, Bool.and_eq_true] at hst2
  have step : ∀ σ H (Q : VK), tE p X.K (.bi q ca) σ H Q → tCB (rCall X.K (biop q)) (tA p X.K ca) σ H Q := fun σ H Q h => by
    obtain ⟨ρ, S, e, y, sm, en, h, kq⟩ := h
    simp only [ev, Option.bind_eq_some_iff] at h
    obtain ⟨⟨d1, S1⟩, h1, h2⟩ := h
    split at h2
    · rename_i ds e1
      simp only at e1
      subst e1
      exact stA sm en h1 fun ρ1 H1 vs p1 g1 s1 e1 r1 => sp_bi s1 r1 h2 (kq.mono p1 g1)
    · cases h2
  have cr := cr_M M.calm M.gd M.hu q
  have bv := biOf_val hq
  obtain ⟨g1, g2, g3⟩ := M.bl hg
  obtain ⟨b1, b2, b3⟩ := bad3 g3
  cases q <;> first
    | exact PE.imp (pe_callB cr g1 g2 bv ha b3 b1 (star1 hst2.1 es X.env) (noStars hst2.2 _ _)) step
    | exact PE.imp (pe_callTy cr g1 g2 bv ha b3 b1 (star1 hst2.1 es X.env) (noStars hst2.2 _ _)) step
/-! ### isinstance -/
def tyName : Ty → String
  | .int => "int" | .str => "str" | .tuple => "tuple" | .list => "list" | .bool => "bool" | .dict => "dict"
theorem tyOf_val {t : Ty} (h : tyOf c d = some t) : ∃ x px, d = .Name x px ∧ bltB c x = true ∧ bootBuiltins x = some (.type (tyName t)) := by
  cases d with
  | Name x px =>
    simp only [tyOf] at h
    split at h
    · rename_i hb
      refine ⟨x, px, rfl, hb, ?_⟩
      repeat' (split at h; · rename_i e; subst e; cases h; decide +kernel)
      cases h
    · cases h
  | _ => simp [tyOf] at h
theorem ty_fix {K : PySem.W.Frag} {ρ : List Addr} {S : Store} {H : Hp} {n : Nat} {x : Addr} {ys : List D} (sm : Sim K ρ S H) (hl : listAt S n = some ys) (hr : ρ[n]? = some x) : TyX K H (.ref x) (.type "list") := by
  unfold listAt at hl
  split at hl
  · rename_i zs hz
    obtain ⟨vs, h1, _⟩ := sm.obj n _ x hz hr
    exact .base (.lst h1)
  · rename_i zs hz
    obtain ⟨vs, h1, _⟩ := sm.obj n _ x hz hr
    rcases h1 with ⟨o, h1⟩ | (h1 | ⟨o, h1⟩) | ⟨o, its, m, h1, h2, _⟩
    · exact .base (.frz h1)
    · cases h1
    · cases h1
    · exact .kList h1 h2
  · cases hl
theorem ty_tup {K : PySem.W.Frag} {H : Hp} {x : Addr} {vs : List V} (h : SqT K H x vs) : TyX K H (.ref x) (.type "tuple") := by
  rcases h with (h | ⟨o, h⟩) | ⟨o, its, n, h1, h2, _⟩
  · exact .base (.tup h)
  · exact .fTuple h
  · exact .kTuple h1 h2
theorem k_isty (M : Mat X p c k) {t : Ty} {px : Pos} (hg : bltB c ("isinstance" : Str) = true) (hs : notStar a = true) (ht : tyOf c d = some t) (ha : PE X a (tE p X.K ca)) :
    PE X (.Call (.Name "isinstance" px) [a, d] [] pos) (tE p X.K (.isty ca t)) := by
  obtain ⟨x, pd, ed, hd, hv⟩ := tyOf_val ht
  subst ed
  obtain ⟨g1, g2, g3⟩ := M.bl hg
  obtain ⟨b1, b2, b3⟩ := bad3 g3
  obtain ⟨f1, f2, f3⟩ := M.bl hd
  obtain ⟨c1, c2, c3⟩ := bad3 f3
  have hN : PE X (.Name x pd) (tC (.ty (tyName t))) := pe_bltn f1 f2 hv rfl c3 c1
  refine PE.imp (pe_callB call_isi g1 g2 (by decide +kernel) (pa_cons ha (pa_cons hN pa_nil) (star1 hs _ _)) b3 b1 (star1 hs _ _) rfl) fun σ H Q h => ?_
  obtain ⟨ρ, S, e, y, sm, en, h, kq⟩ := h
  simp only [ev, Option.bind_eq_some_iff, Option.map_eq_some_iff] at h
  obtain ⟨⟨d1, S1⟩, h1, b, h2, h3⟩ := h
  subst h3
  refine st1 sm en h1 fun ρ1 H1 v p1 g1 s1 e1 r1 => ?_
  replace h2 := alt_or h2
  have fin : ∀ {T : String}, TyX X.K H1 v (.type T) → kitB T (tyName t) = some b → ∃ (x c : V) (t' u : Value) (b : Bool), [v, V.ty (tyName t)] = [x, c] ∧ ClsV c u ∧ TyX X.K H1 x t' ∧ PySem.W.kitOne X.K t' u = some b ∧ Q (.bl b) H1 :=
    fun {T} ty hk => ⟨v, .ty (tyName t), .type T, .type (tyName t), b, rfl, .ty _, ty, kit_ty hk, (kq.mono p1 g1).here s1 (.bl _)⟩
  rcases h2 with h2 | h2
  rotate_left
  · cases r1 with
    | ref q1 =>
      simp only [tydop, Option.map_eq_some_iff] at h2
      obtain ⟨kvs, h4, h5⟩ := h2
      subst h5
      obtain ⟨e4, ws, w1, w2, w3⟩ := s1.dct h4 q1
      exact fin (.base (.dK w1)) (by cases t <;> decide +kernel)
    | _ => simp only [tydop] at h2; cases h2
  cases r1 with
  | non => simp only [tyop, Option.some.injEq] at h2; subst h2; exact fin (.base .non) (by cases t <;> decide +kernel)
  | bl q => simp only [tyop, Option.some.injEq] at h2; subst h2; exact fin (.base (.bl q)) (by cases t <;> decide +kernel)
  | int q => simp only [tyop, Option.some.injEq] at h2; subst h2; exact fin (.base (.int q)) (by cases t <;> decide +kernel)
  | str q => simp only [tyop, Option.some.injEq] at h2; subst h2; exact fin (.base (.str q)) (by cases t <;> decide +kernel)
  | fn q => simp only [tyop] at h2; cases h2
  | tup q1 q2 => simp only [tyop, Option.some.injEq] at h2; subst h2; exact fin (ty_tup q1) (by cases t <;> decide +kernel)
  | ref q1 =>
    simp only [tyop, Option.map_eq_some_iff] at h2
    obtain ⟨ys, hl, h2⟩ := h2
    subst h2
    exact fin (ty_fix s1 hl q1) (by cases t <;> decide +kernel)
/-! ### append -/
theorem plainBase_ok (h : plainBase a = true) (m : Str) (env : Env) (w : Sem Value) : attributeBase a m env w = w := by
  cases a <;> first | rfl | (simp [plainBase] at h; done)
theorem ok_list {K : PySem.W.Frag} {ρ : List Addr} {S : Store} {H : Hp} {n : Nat} {A : Addr} (sm : Sim K ρ S H) (h : okRef S (.ref n) = true) (hA : ρ[n]? = some A) : ∃ xs, SqL K H A xs := by
  obtain ⟨o1, ho1, hr1⟩ := sm.at' hA
  cases o1 with
  | lst zs => obtain ⟨vs, q1, _⟩ := hr1; exact ⟨vs, SqL.of q1⟩
  | ro zs => obtain ⟨vs, q1, _⟩ := hr1; exact ⟨vs, q1.sql⟩
  | dct zs =>
    have h : (listAt S n).isSome = true := h
    unfold listAt at h
    rw [ho1] at h
    cases h
  | ins c zs =>
    have h : (listAt S n).isSome = true := h
    unfold listAt at h
    rw [ho1] at h
    cases h
theorem k_app {o : Expr} {ap cp : Pos} (hap : (ap.endLine == cp.line) = true) (h1 : notStar a = true) (hb : plainBase o = true) (ho : PE X o (tE p X.K ca)) (ha : PE X a (tE p X.K cb)) :
    PE X (.Call (.Attribute o "append" ap) [a] [] cp) (tE p X.K (.app ca cb)) := by
  refine PE.imp (pe_bm PySem.F.plainAttrs_list PySem.F.slot_list_append PySem.F.type_list_append mt_append ho (pa_cons ha pa_nil (star1 h1 _ _)) (plainBase_ok hb _ _ _) (by rw [star1 h1]; rfl) hap (star1 h1 _ _) rfl) fun σ H Q h => ?_
  obtain ⟨ρ, S, e, y, sm, en, h, kq⟩ := h
  simp only [ev, Option.bind_eq_some_iff] at h
  obtain ⟨⟨d1, S1⟩, h1, ⟨d2, S2⟩, h2, h3⟩ := h
  split at h3
  · rename_i n hn
    simp only at hn
    subst hn
    split at h3
    · rename_i hok
      simp only [Option.map_eq_some_iff] at h3
      obtain ⟨S3, h4, h5⟩ := h3
      subst h5
      unfold push at h4
      split at h4
      · rename_i xs hx
        split at h4
        · rename_i hz
          cases h4
          refine st1 sm en h1 fun ρ1 H1 v p1 g1 s1 e1 r1 => ?_
          obtain ⟨A, eA, hA⟩ := rep_ref r1
          subst eA
          refine ⟨.inl ⟨rfl, ok_list s1 hok hA⟩, st1 s1 e1 h2 fun ρ2 H2 w p2 g2 s2 e2 r2 => ?_⟩
          have hA2 := p2 _ _ hA
          obtain ⟨vs, q1, q2⟩ := s2.obj n _ A hx hA2
          refine ⟨A, vs, w, rfl, rfl, q1, by rw [q2.length]; exact hz, ?_⟩
          have rr := q2.append (.cons r2 .nil)
          exact ((kq.mono (p1.trans p2) (g1.trans g2)).mono (Pre.refl _) (Gro.mut q1)).here (s2.put hx hA2 q1 rr) .non
        · cases h4
      · cases h4
    · cases h3
  · cases h3
end
end Tm

set_option Elab.async false
set_option linter.all false
set_option maxRecDepth 100000
set_option maxHeartbeats 4000000
namespace Tm
open PySem PySem.Spec PyProof.Rows L2
/-! ## methods -/
def mtId : Mt → String
  | .starts => "str.startswith" | .ends => "str.endswith" | .split => "str.split" | .join => "str.join" | .extend => "list.extend" | .popAt => "list.pop" | .pop => "list.pop" | .rev => "list.reverse" | .insert => "list.insert"
def rMt (K : PySem.W.Frag) (f : D → List D → Store → Option (D × Store)) : V → List V → Hp → VK → Prop := fun x vs H Q =>
  ∃ (ρ : List Addr) (S : Store) (a : D) (ds : List D) (d : D) (S' : Store), Sim K ρ S H ∧ Rep K ρ H x a ∧ Reps K ρ H vs ds ∧ f a ds S = some (d, S') ∧ Aft K ρ H S' d Q
section
variable {K : PySem.W.Frag} {ρ : List Addr} {H : Hp}
theorem reps1 {vs : List V} {d : D} (r : Reps K ρ H vs [d]) : ∃ v, vs = [v] ∧ Rep K ρ H v d := by
  cases r with | cons r1 r2 => cases r2; exact ⟨_, rfl, r1⟩
theorem reps2 {vs : List V} {d f : D} (r : Reps K ρ H vs [d, f]) : ∃ v w, vs = [v, w] ∧ Rep K ρ H v d ∧ Rep K ρ H w f := by
  cases r with | cons r1 r2 => cases r2 with | cons r3 r4 => cases r4; exact ⟨_, _, rfl, r1, r3⟩
theorem reps0 {vs : List V} (r : Reps K ρ H vs []) : vs = [] := by cases r; rfl
theorem reps_strs : ∀ (ys : List Str), Reps K ρ H (ys.map V.str) (ys.map D.str)
  | [] => .nil
  | y :: r => .cons (.str y) (reps_strs r)
theorem strsD_rep : ∀ {vs : List V} {ds : List D} {is : List Str}, Reps K ρ H vs ds → strsD ds = some is → vs = is.map V.str
  | _, _, is, .nil, h => by simp [strsD] at h; subst h; rfl
  | _, _, is, .cons (d := d) r t, h => by
    cases r <;> simp only [strsD, Option.map_eq_some_iff, reduceCtorEq] at h
    obtain ⟨js, h1, rfl⟩ := h
    rw [strsD_rep t h1]; rfl
theorem eraseIdx_rep : ∀ {vs : List V} {ds : List D} (k : Nat), Reps K ρ H vs ds → Reps K ρ H (vs.eraseIdx k) (ds.eraseIdx k)
  | _, _, _, .nil => .nil
  | _, _, 0, .cons _ t => t
  | _, _, k + 1, .cons r t => .cons r (eraseIdx_rep k t)
theorem dropLast_rep : ∀ {vs : List V} {ds : List D}, Reps K ρ H vs ds → Reps K ρ H vs.dropLast ds.dropLast
  | _, _, .nil => .nil
  | _, _, .cons _ .nil => .nil
  | _, _, .cons r (.cons r2 t) => .cons r (dropLast_rep (.cons r2 t))
theorem reverse_rep {vs : List V} {ds : List D} (r : Reps K ρ H vs ds) : Reps K ρ H vs.reverse ds.reverse := by
  induction vs generalizing ds with
  | nil => cases r; exact .nil
  | cons v vs ih =>
    cases r with
    | cons r1 r2 =>
      simp only [List.reverse_cons]
      exact (ih r2).append (.cons r1 .nil)
end
section
variable {X : Cx}
theorem mt_M (m : Mt) : MtR X (mtId m) (rMt X.K (mtop m)) := by
  intro pins s σ H x xs v us Q I rx rxs h
  obtain ⟨ρ, S, a, ds, d, S', sm, ra, rs, e, k⟩ := h
  cases m with
  | starts =>
    unfold mtop at e
    split at e <;> try (cases e; done)
    all_goals (rename_i h0; try (cases h0; done))
    all_goals cases e
    obtain ⟨w, rfl, r1⟩ := reps1 rs
    cases ra; cases r1
    exact mt_startswith pins s σ H _ _ v us Q I rx rxs ⟨_, _, rfl, rfl, k.here sm (.bl _)⟩
  | ends =>
    unfold mtop at e
    split at e <;> try (cases e; done)
    all_goals (rename_i h0; try (cases h0; done))
    all_goals cases e
    obtain ⟨w, rfl, r1⟩ := reps1 rs
    cases ra; cases r1
    exact mt_endswith pins s σ H _ _ v us Q I rx rxs ⟨_, _, rfl, rfl, k.here sm (.bl _)⟩
  | split =>
    unfold mtop at e
    split at e <;> try (cases e; done)
    all_goals (rename_i h0; try (cases h0; done))
    split at e
    · rename_i hz
      cases e
      obtain ⟨w, rfl, r1⟩ := reps1 rs
      cases ra; cases r1
      exact mt_split pins s σ H _ _ v us Q I rx rxs ⟨_, _, rfl, rfl, hz.1, hz.2, fun p hp => k.lst sm (reps_strs _) hp⟩
    · cases e
  | join =>
    unfold mtop at e
    split at e <;> try (cases e; done)
    all_goals (rename_i h0; try (cases h0; done))
    · simp only [Option.bind_eq_some_iff] at e
      obtain ⟨ys, h1, zs, h2, e⟩ := e
      obtain ⟨c, e⟩ := okI_some e
      cases e
      obtain ⟨w, rfl, r1⟩ := reps1 rs
      cases ra
      obtain ⟨A, eA, hA⟩ := rep_ref r1
      subst eA
      obtain ⟨vs, q1, q2⟩ := sm.list h1 hA
      rw [strsD_rep q2 h2] at q1
      exact mt_join pins s σ H _ _ v us Q I rx rxs ⟨_, A, zs, rfl, rfl, .inl q1, of_decide_eq_true c, k.here sm (.str _)⟩
    · simp only [Option.bind_eq_some_iff] at e
      obtain ⟨zs, h2, e⟩ := e
      obtain ⟨c, e⟩ := okI_some e
      cases e
      obtain ⟨w, rfl, r1⟩ := reps1 rs
      cases ra
      obtain ⟨A, vs, eA, q1, q2⟩ := rep_tup r1
      subst eA
      rw [strsD_rep q2 h2] at q1
      exact mt_join pins s σ H _ _ v us Q I rx rxs ⟨_, A, zs, rfl, rfl, .inr q1, of_decide_eq_true c, k.here sm (.str _)⟩
  | extend =>
    unfold mtop at e
    split at e <;> try (cases e; done)
    all_goals (rename_i h0; try (cases h0; done))
    split at e
    · rename_i ys zs g1 g2
      split at e
      · rename_i hz
        cases e
        obtain ⟨w, rfl, r1⟩ := reps1 rs
        obtain ⟨A, eA, hA⟩ := rep_ref ra
        obtain ⟨B, eB, hB⟩ := rep_ref r1
        subst eA eB
        obtain ⟨vs, q1, q2⟩ := sm.obj _ _ A g1 hA
        obtain ⟨ws, q3, q4⟩ := sm.obj _ _ B g2 hB
        refine mt_extend pins s σ H _ _ v us Q I rx rxs ⟨A, B, vs, ws, rfl, rfl, q1, q3, by rw [q2.length, q4.length]; exact hz, ?_⟩
        exact (k.mono (Pre.refl _) (Gro.mut q1)).here (sm.put g1 hA q1 (q2.append q4)) .non
      · cases e
    · cases e
  | popAt =>
    unfold mtop at e
    split at e <;> try (cases e; done)
    all_goals (rename_i h0; try (cases h0; done))
    split at e
    · rename_i ys g1
      split at e
      · rename_i hz
        simp only [Option.bind_eq_some_iff, Option.map_eq_some_iff] at e
        obtain ⟨j, h1, y, h2, e⟩ := e
        cases e
        obtain ⟨w, rfl, r1⟩ := reps1 rs
        obtain ⟨A, eA, hA⟩ := rep_ref ra
        subst eA
        cases r1
        obtain ⟨vs, q1, q2⟩ := sm.obj _ _ A g1 hA
        obtain ⟨w, q3, q4⟩ := q2.get h2
        refine mt_popAt pins s σ H _ _ v us Q I rx rxs ⟨A, vs, _, j, w, rfl, rfl, q1, hz.1, hz.2, by rw [q2.length]; exact h1, q3, ?_⟩
        exact (k.mono (Pre.refl _) (Gro.mut q1)).here (sm.put g1 hA q1 (eraseIdx_rep j q2)) (q4.mono (Gro.mut q1) (Pre.refl _))
      · cases e
    · cases e
  | pop =>
    unfold mtop at e
    split at e <;> try (cases e; done)
    all_goals (rename_i h0; try (cases h0; done))
    split at e
    · rename_i ys g1
      simp only [Option.map_eq_some_iff] at e
      obtain ⟨y, h2, e⟩ := e
      cases e
      obtain rfl := reps0 rs
      obtain ⟨A, eA, hA⟩ := rep_ref ra
      subst eA
      obtain ⟨vs, q1, q2⟩ := sm.obj _ _ A g1 hA
      obtain ⟨w, q3, q4⟩ := q2.get h2
      refine mt_pop pins s σ H _ _ v us Q I rx rxs ⟨A, vs, w, rfl, rfl, q1, by rw [q2.length]; exact q3, ?_⟩
      exact (k.mono (Pre.refl _) (Gro.mut q1)).here (sm.put g1 hA q1 (dropLast_rep q2)) (q4.mono (Gro.mut q1) (Pre.refl _))
    · cases e
  | rev =>
    unfold mtop at e
    split at e <;> try (cases e; done)
    all_goals (rename_i h0; try (cases h0; done))
    split at e
    · rename_i ys g1
      cases e
      obtain rfl := reps0 rs
      obtain ⟨A, eA, hA⟩ := rep_ref ra
      subst eA
      obtain ⟨vs, q1, q2⟩ := sm.obj _ _ A g1 hA
      refine mt_reverse pins s σ H _ _ v us Q I rx rxs ⟨A, vs, rfl, rfl, q1, ?_⟩
      exact (k.mono (Pre.refl _) (Gro.mut q1)).here (sm.put g1 hA q1 (reverse_rep q2)) .non
    · cases e
  | insert =>
    unfold mtop at e
    split at e <;> try (cases e; done)
    all_goals (rename_i h0; try (cases h0; done))
    split at e
    · rename_i ys g1
      split at e
      · rename_i hz
        cases e
        obtain ⟨w1, w2, rfl, r1, r2⟩ := reps2 rs
        obtain ⟨A, eA, hA⟩ := rep_ref ra
        subst eA
        cases r1
        obtain ⟨vs, q1, q2⟩ := sm.obj _ _ A g1 hA
        refine mt_insert pins s σ H _ _ v us Q I rx rxs ⟨A, vs, _, w2, rfl, rfl, q1, by rw [q2.length]; exact hz.1, hz.2.1, hz.2.2, ?_⟩
        exact (k.mono (Pre.refl _) (Gro.mut q1)).here (sm.put g1 hA q1 (((q2.take _).append (.cons r2 .nil)).append (q2.drop _))) .non
      · cases e
    · cases e
end
section
variable {X : Cx} {p : Pm} {c : Cc} {k : Nat} {e a b d : Expr} {es : List Expr} {ca cb cd : C} {pos : Pos}
def mtTy : Mt → String
  | .starts | .ends | .split | .join => "str"
  | _ => "list"
theorem mt_ty {K : PySem.W.Frag} {ρ : List Addr} {H : Hp} {S S2 : Store} {x : D} {w : V} {m : Mt} {ds : List D} {y : D × Store} (sm : Sim K ρ S H) (r : Rep K ρ H w x) (hok : okRef S x = true) (h : mtop m x ds S2 = some y) : tyV K (mtTy m) w H := by
  cases m <;> unfold mtop at h <;> split at h <;> (try (cases h; done)) <;> (rename_i h0; try (cases h0; done))
  all_goals first
    | (cases r; rfl)
    | (obtain ⟨A, eA, hA⟩ := rep_ref r
       subst eA
       exact .inl ⟨rfl, ok_list sm hok hA⟩)
theorem mt_rd {t : TA} {m : Mt} {σ : L2.St} {H : Hp} {Q : VK} (h : tE p X.K (.mt m ca cb) σ H Q) : tBM X.K (mtTy m) (rMt X.K (mtop m)) (tE p X.K ca) (tA p X.K cb) σ H Q := by
  obtain ⟨ρ, S, e, y, sm, en, h, kq⟩ := h
  simp only [ev, Option.bind_eq_some_iff] at h
  obtain ⟨⟨d1, S1⟩, h1, ⟨d2, S2⟩, h2, h3⟩ := h
  split at h3
  · rename_i ds e1
    simp only at e1
    subst e1
    split at h3
    · rename_i hok
      refine st1 sm en h1 fun ρ1 H1 v p1 g1 s1 e1 r1 => ⟨mt_ty s1 r1 hok h3, stA s1 e1 h2 fun ρ2 H2 vs p2 g2 s2 e2 r2 => ?_⟩
      exact ⟨ρ2, S2, d1, ds, y.1, y.2, s2, r1.mono g2 p2, r2, h3, kq.mono (p1.trans p2) (g1.trans g2)⟩
    · cases h3
  · cases h3
theorem k_mt1 {o : Expr} {ap cp : Pos} {x : Str} {m : Mt} (hm : mt1 x = some m) (hap : (ap.endLine == cp.line) = true) (h1 : notStar a = true) (hb : plainBase o = true) (ho : PE X o (tE p X.K ca)) (ha : PE X a (tE p X.K cb)) :
    PE X (.Call (.Attribute o x ap) [a] [] cp) (tE p X.K (.mt m ca (.cons cb .nil))) := by
  have A := k_acons (X := X) (p := p) h1 ha k_anil
  have s1 := star1 h1 [] X.env
  unfold mt1 at hm
  repeat' split at hm
  all_goals first
    | (cases hm; done)
    | skip
  all_goals (rename_i ex; subst ex; cases hm)
  · exact PE.imp (pe_bm PySem.F.plainAttrs_str PySem.F.slot_str_startswith PySem.F.type_str_startswith (mt_M .starts) ho A (plainBase_ok hb _ _ _) (by rw [s1]; rfl) hap s1 rfl) fun σ H Q h => mt_rd (t := fun _ _ _ => True) h
  · exact PE.imp (pe_bm PySem.F.plainAttrs_str PySem.F.slot_str_endswith PySem.F.type_str_endswith (mt_M .ends) ho A (plainBase_ok hb _ _ _) (by rw [s1]; rfl) hap s1 rfl) fun σ H Q h => mt_rd (t := fun _ _ _ => True) h
  · exact PE.imp (pe_bm PySem.F.plainAttrs_str PySem.F.slot_str_split PySem.F.type_str_split (mt_M .split) ho A (plainBase_ok hb _ _ _) (by rw [s1]; rfl) hap s1 rfl) fun σ H Q h => mt_rd (t := fun _ _ _ => True) h
  · exact PE.imp (pe_bm PySem.F.plainAttrs_str PySem.F.slot_str_join PySem.F.type_str_join (mt_M .join) ho A (plainBase_ok hb _ _ _) (by rw [s1]; rfl) hap s1 rfl) fun σ H Q h => mt_rd (t := fun _ _ _ => True) h
  · exact PE.imp (pe_bm PySem.F.plainAttrs_list PySem.F.slot_list_extend PySem.F.type_list_extend (mt_M .extend) ho A (plainBase_ok hb _ _ _) (by rw [s1]; rfl) hap s1 rfl) fun σ H Q h => mt_rd (t := fun _ _ _ => True) h
  · exact PE.imp (pe_bm PySem.F.plainAttrs_list PySem.F.slot_list_pop PySem.F.type_list_pop (mt_M .popAt) ho A (plainBase_ok hb _ _ _) (by rw [s1]; rfl) hap s1 rfl) fun σ H Q h => mt_rd (t := fun _ _ _ => True) h
theorem k_mt2 {o : Expr} {ap cp : Pos} {x : Str} {m : Mt} (hm : mt2 x = some m) (hap : (ap.endLine == cp.line) = true) (h1 : notStar a = true) (h2 : notStar b = true) (hb : plainBase o = true) (ho : PE X o (tE p X.K ca)) (ha : PE X a (tE p X.K cb)) (hc : PE X b (tE p X.K cd)) :
    PE X (.Call (.Attribute o x ap) [a, b] [] cp) (tE p X.K (.mt m ca (.cons cb (.cons cd .nil)))) := by
  have A := k_acons (X := X) (p := p) h1 ha (k_acons h2 hc k_anil)
  have s1 := star1 h1 [b] X.env
  have s2 := star1 h2 [] X.env
  unfold mt2 at hm
  repeat' split at hm
  all_goals first
    | (cases hm; done)
    | skip
  all_goals (rename_i ex; subst ex; cases hm)
  exact PE.imp (pe_bm PySem.F.plainAttrs_list PySem.F.slot_list_insert PySem.F.type_list_insert (mt_M .insert) ho A (plainBase_ok hb _ _ _) (by rw [s1, s2]; rfl) hap s1 (by rw [s2]; rfl)) fun σ H Q h => mt_rd (t := fun _ _ _ => True) h
theorem mt_rd0 {m : Mt} {σ : L2.St} {H : Hp} {Q : VK} (h : tE p X.K (.mt m ca .nil) σ H Q) : tBM0 X.K (mtTy m) (rMt X.K (mtop m)) (tE p X.K ca) σ H Q := by
  obtain ⟨ρ, S, e, y, sm, en, h, kq⟩ := h
  simp only [ev, Option.bind_eq_some_iff] at h
  obtain ⟨⟨d1, S1⟩, h1, ⟨d2, S2⟩, h2, h3⟩ := h
  cases h2
  simp only at h3
  split at h3
  · rename_i hok
    exact st1 sm en h1 fun ρ1 H1 v p1 g1 s1 e1 r1 => ⟨mt_ty s1 r1 hok h3, ρ1, S1, d1, [], y.1, y.2, s1, r1, .nil, h3, kq.mono p1 g1⟩
  · cases h3
theorem k_mt0 {o : Expr} {ap cp : Pos} {x : Str} {m : Mt} (hm : mt0 x = some m) (hap : (ap.endLine == cp.line) = true) (hb : plainBase o = true) (ho : PE X o (tE p X.K ca)) :
    PE X (.Call (.Attribute o x ap) [] [] cp) (tE p X.K (.mt m ca .nil)) := by
  unfold mt0 at hm
  repeat' split at hm
  all_goals first
    | (cases hm; done)
    | skip
  all_goals (rename_i ex; subst ex; cases hm)
  · exact PE.imp (pe_bm0 PySem.F.plainAttrs_list PySem.F.slot_list_pop PySem.F.type_list_pop (mt_M .pop) ho (plainBase_ok hb _ _ _) hap) fun σ H Q h => mt_rd0 h
  · exact PE.imp (pe_bm0 PySem.F.plainAttrs_list PySem.F.slot_list_reverse PySem.F.type_list_reverse (mt_M .rev) ho (plainBase_ok hb _ _ _) hap) fun σ H Q h => mt_rd0 h
theorem k_dnew : PE X (.Dict [] [] pos) (tE p X.K .dnew) := PE.imp pe_dnewK fun σ H Q h => by
  obtain ⟨ρ, S, e, y, sm, en, h, kq⟩ := h
  cases h
  intro q hq
  exact kq (ρ ++ [q]) _ _ (Pre.app ρ q) (Gro.new hq) (sm.newD hq) (.ref (by rw [← sm.len, List.getElem?_append_right (Nat.le_refl _)]; simp))
end
end Tm

set_option Elab.async false
set_option linter.all false
set_option maxRecDepth 100000
set_option maxHeartbeats 4000000
namespace Tm
open PySem PySem.Spec PyProof.Rows L2
/-! ## instances, xs[::-1] -/
theorem fldS_some {cs : List Str} {f : Str} {x d : D} {S : Store} (h : fldS cs f x S = some d) : ∃ (n : Nat) (c : Str) (fs : List (Str × D)), x = .ref n ∧ insAt S n = some (c, fs) ∧ cs.contains c = true ∧ fs.lookup f = some d := by
  unfold fldS at h
  split at h
  · rename_i n
    simp only [Option.bind_eq_some_iff] at h
    obtain ⟨⟨c, fs⟩, h1, h2⟩ := h
    split at h2
    · rename_i hc; exact ⟨n, c, fs, rfl, h1, hc, h2⟩
    · cases h2
  · cases h
theorem putfS_some {cs : List Str} {f : Str} {x d : D} {S S' : Store} (h : putfS cs f x d S = some S') : ∃ (n : Nat) (c : Str) (fs : List (Str × D)), x = .ref n ∧ insAt S n = some (c, fs) ∧ cs.contains c = true ∧ fs.length < 1000 ∧ S' = S.set n (.ins c (putFD f d fs)) := by
  unfold putfS at h
  split at h
  · rename_i n
    simp only [Option.bind_eq_some_iff] at h
    obtain ⟨⟨c, fs⟩, h1, h2⟩ := h
    split at h2
    · rename_i hc; cases h2; exact ⟨n, c, fs, rfl, h1, hc.1, hc.2, rfl⟩
    · cases h2
  · cases h
theorem reps_rev {K : PySem.W.Frag} {ρ : List Addr} {H : Hp} : ∀ {vs : List V} {ds : List D}, Reps K ρ H vs ds → Reps K ρ H vs.reverse ds.reverse
  | _, _, .nil => .nil
  | _, _, .cons r t => by
    rw [List.reverse_cons, List.reverse_cons]
    exact (reps_rev t).append (.cons r .nil)
section
variable {X : Cx} {p : Pm} {c : Cc} {k : Nat} {e a b d : Expr} {es : List Expr} {ca cb cd : C} {pos : Pos}
theorem Mat.cls (M : Mat X p c k) {f c' : Str} {C : Addr} (h : (clsFor c.G f).contains c' = true) (q : PySem.W.nsIn X.K mainGlobals c' = some (some (.ref C))) : Cls X.K C ∧ NoAttr X.K C f := by
  have h : c' ∈ clsFor c.G f := by simpa using h
  unfold clsFor at h
  rw [List.mem_map] at h
  obtain ⟨e, he, rfl⟩ := h
  rw [List.mem_filter] at he
  obtain ⟨h1, h2⟩ := he
  obtain ⟨a1, a2⟩ := M.glob.flds e h1 C q
  exact ⟨a1, a2 f (by simpa using h2)⟩
theorem k_fld (M : Mat X p c k) {o : Expr} {f : Str} (hb : plainBase o = true) (ho : PE X o (tE p X.K ca)) : PE X (.Attribute o f pos) (tE p X.K (.fld ca f (clsFor c.G f))) := by
  refine PE.imp (pe_fld ho (plainBase_ok hb _ _ _)) fun σ H Q h => ?_
  obtain ⟨ρ, S, e, y, sm, en, h, kq⟩ := h
  simp only [ev, Option.bind_eq_some_iff, Option.map_eq_some_iff] at h
  obtain ⟨⟨d1, S1⟩, h1, d, h2, h3⟩ := h
  subst h3
  obtain ⟨n, c', fs, e1, hi, hc, hl⟩ := fldS_some h2
  simp only at e1 hi
  subst e1
  refine st1 sm en h1 fun ρ1 H1 v p1 g1 s1 e1 r1 => ?_
  obtain ⟨A, eA, hA⟩ := rep_ref r1
  subst eA
  obtain ⟨_, C, dx, ws, q1, q2, q3, q4⟩ := s1.ins hi hA
  obtain ⟨v, l1, l2⟩ := Rep.of_lookup q3 q4 hl
  obtain ⟨c1, c2⟩ := M.cls hc q2
  exact ⟨A, C, dx, ws, v, rfl, q1, c1, c2, l1, (kq.mono p1 g1).here s1 l2⟩
theorem k_mk (M : Mat X p c k) {x : Str} {f : Nat} {ps fl : List Str} {px : Pos} (hg : glB c x = true) (hf : c.G.clss.lookup x = some (f, ps, fl)) (hst : (a :: es).all notStar = true)
    (ha : PA X (a :: es) (tA p X.K ca)) : PE X (.Call (.Name x px) (a :: es) [] pos) (tE p X.K (.mk x f ca)) := by
  obtain ⟨C, fa, fd, hm, hns, MK, F, hb, har⟩ := M.glob.clss x f ps fl hf
  have hst2 := hst
  rw [List.all_cons, Bool.and_eq_true] at hst2
  refine ⟨fun pins s σ H Q I h => ?_⟩
  obtain ⟨ρ, S, e, y, sm, en, h, q⟩ := h
  simp only [ev, Option.bind_eq_some_iff] at h
  obtain ⟨⟨d1, S1⟩, h1, h2⟩ := h
  split at h2
  · rename_i ds e1
    simp only at e1
    subst e1
    simp only [Option.bind_eq_some_iff] at h2
    obtain ⟨⟨z1, z2⟩, h3, h4⟩ := h2
    split at h4
    · rename_i ez
      simp only at ez
      subst ez
      cases h4
      apply wpAny_Call_Name_kw
      apply ld_glob I (M.gl hg).1 hm _ (bad3 (M.gl hg).2).1
      apply PySem.W.callWith_K (h₀ := X.base) I.ok.mod.kin MK.kp _ (star1 hst2.1 es X.env) (noStars hst2.2 _ _)
      refine thn (ha.run pos pins s σ H (fun vs H1 => ∀ x dx, H1 x = none → H1 dx = none → dx ≠ x → spR X.K ps.length (p.R f) (.ref x :: vs) (upd (upd H1 dx (.own x)) x (.ins C dx [])) (fun v H2 => v = .non ∧ Q (.ref x) H2) E0) I
        (stA sm en h1 fun ρ1 H1 vs p1 g1 s1 e1 r1 x' dx hx hd hne => ?_)) fun us s1 ⟨vs, H1, I1, rv, hsp⟩ => ⟨I1.kIn, makeG MK F M.room M.gd hb I1 rv hsp⟩
      have hx' : (upd H1 dx (.own x')) x' = none := by rw [upd_ne (Ne.symm hne)]; exact hx
      have g2 : Gro H1 (upd (upd H1 dx (.own x')) x' (.ins C dx [])) := (Gro.new hd).trans (Gro.new hx')
      have hr : (ρ1 ++ [x'])[S1.length]? = some x' := by rw [← s1.len]; simp
      refine sp_call (har _ _ _ h3) (s1.newI hx hd hne hns) (.cons (.ref hr) (r1.mono g2 (Pre.app _ _))) h3 fun ρ' H' v p' g' s' r' => ⟨rep_non r', ?_⟩
      exact q ρ' H' _ (p1.trans ((Pre.app _ _).trans p')) (g1.trans (g2.trans g')) s' (.ref (p' _ _ hr))
    · cases h4
  · cases h2
theorem k_revl {kk : Nat} {p1 p2 p3 : Pos} (ha : PE X a (tE p X.K ca)) : PE X (.Subscript a (.Slice none none (some (.UnaryOp .USub (.Constant (.int 1) kk p1) p2)) p3) pos) (tE p X.K (.revl ca)) := by
  refine PE.imp (pe_revL ha) fun σ H Q h => ?_
  obtain ⟨ρ, S, e, y, sm, en, h, kq⟩ := h
  simp only [ev, Option.bind_eq_some_iff] at h
  obtain ⟨⟨d1, S1⟩, h1, h2⟩ := h
  split at h2
  · rename_i n e1
    simp only at e1
    subst e1
    simp only [Option.map_eq_some_iff] at h2
    obtain ⟨xs, hx, h3⟩ := h2
    cases h3
    refine st1 sm en h1 fun ρ1 H1 v p1 g1 s1 e1 r1 => ?_
    obtain ⟨A, eA, hA⟩ := rep_ref r1
    subst eA
    obtain ⟨vs, q1, q2⟩ := s1.list hx hA
    exact ⟨A, vs, rfl, q1, fun p hp => (kq.mono p1 g1).lst s1 (reps_rev q2) hp⟩
  · cases h2
end
end Tm

set_option Elab.async false
set_option linter.all false
set_option maxRecDepth 100000
set_option maxHeartbeats 4000000
namespace Tm
open PySem PySem.Spec PyProof.Rows L2
/-! ## targets -/
def tG (K : PySem.W.Frag) (t : Tg) : TG := fun v σ H Q => ∃ (ρ : List Addr) (S : Store) (e : Env') (d : D) (e1 : Env'), Sim K ρ S H ∧ EnvR K ρ H e σ ∧ Rep K ρ H v d ∧ bindT t d S e = some e1 ∧
  ∀ σ' : L2.St, EnvR K ρ H e1 σ' → (∀ own : List Nat, tgIn own t = true → wipe σ' own = wipe σ own) → Q σ' H
def tGs (K : PySem.W.Frag) (t : Tg) : TGs := fun vs σ H Q => ∃ (ρ : List Addr) (S : Store) (e : Env') (ds : List D) (e1 : Env'), Sim K ρ S H ∧ EnvR K ρ H e σ ∧ Reps K ρ H vs ds ∧ bindTs t ds S e = some e1 ∧
  ∀ σ' : L2.St, EnvR K ρ H e1 σ' → (∀ own : List Nat, tgIn own t = true → wipe σ' own = wipe σ own) → Q σ' H
theorem PG.imp {X : Cx} {e : Expr} {t t' : TG} (h : PG X e t) (f : ∀ v σ H Q, t' v σ H Q → t v σ H Q) : PG X e t' := ⟨fun pins s σ H v u Q I r q => h.run pins s σ H v u Q I r (f v σ H Q q)⟩
theorem PGs.imp {X : Cx} {e : List Expr} {t t' : TGs} (h : PGs X e t) (f : ∀ v σ H Q, t' v σ H Q → t v σ H Q) : PGs X e t' := ⟨fun pins s σ H v u Q I r q => h.run pins s σ H v u Q I r (f v σ H Q q)⟩
theorem PG.or {X : Cx} {e : Expr} {t t' : TG} (h : PG X e t) (h' : PG X e t') : PG X e (fun v σ H Q => t v σ H Q ∨ t' v σ H Q) := ⟨fun pins s σ H v u Q I r q => q.elim (h.run pins s σ H v u Q I r) (h'.run pins s σ H v u Q I r)⟩
theorem wipe_set {σ : L2.St} {i : Nat} {x : Option V} : ∀ {own : List Nat}, i ∈ own → wipe (σ.set i x) own = wipe σ own
  | v :: vs, h => by
    unfold wipe
    by_cases e : i ∈ vs
    · rw [wipe_set e]
    · have hv : i = v := by
        rcases List.mem_cons.mp h with z | z
        · exact z
        · exact absurd z e
      subst hv
      have comm : ∀ (l : List Nat) (σ : L2.St), i ∉ l → wipe (σ.set i x) l = (wipe σ l).set i x := by
        intro l
        induction l with
        | nil => intro σ _; rfl
        | cons w ws ih =>
          intro σ hn
          rw [List.mem_cons, not_or] at hn
          unfold wipe
          rw [ih σ hn.2, List.set_comm _ _ hn.1]
      rw [comm vs σ e, List.set_set]
theorem EnvR.set {K : PySem.W.Frag} {ρ : List Addr} {H : Hp} {e : Env'} {σ : L2.St} (h : EnvR K ρ H e σ) {v : V} {d : D} (r : Rep K ρ H v d) (i : Nat) : EnvR K ρ H (e.set i (some d)) (σ.set i (some v)) := by
  refine ⟨by rw [List.length_set, List.length_set]; exact h.1, fun j f hj => ?_⟩
  by_cases q : i = j
  · subst q
    by_cases hl : i < e.length
    · rw [List.getElem?_set_self hl] at hj
      cases hj
      exact ⟨v, by rw [List.getElem?_set_self (by rw [← h.1]; exact hl)], r⟩
    · rw [List.getElem?_eq_none (by rw [List.length_set]; omega)] at hj
      cases hj
  · rw [List.getElem?_set_ne q] at hj ⊢
    exact h.2 j f hj
theorem EnvR.drop {K : PySem.W.Frag} {ρ : List Addr} {H : Hp} {e : Env'} {σ : L2.St} (h : EnvR K ρ H e σ) (i : Nat) : EnvR K ρ H (e.set i none) (σ.set i none) := by
  refine ⟨by rw [List.length_set, List.length_set]; exact h.1, fun j f hj => ?_⟩
  by_cases q : i = j
  · subst q
    by_cases hl : i < e.length
    · rw [List.getElem?_set_self hl] at hj
      cases hj
    · rw [List.getElem?_eq_none (by rw [List.length_set]; omega)] at hj
      cases hj
  · rw [List.getElem?_set_ne q] at hj ⊢
    exact h.2 j f hj
theorem EnvR.wipe {K : PySem.W.Frag} {ρ : List Addr} {H : Hp} {e : Env'} {σ : L2.St} (h : EnvR K ρ H e σ) : ∀ own : List Nat, EnvR K ρ H (wipeE e own) (L2.wipe σ own)
  | [] => h
  | v :: vs => (EnvR.wipe h vs).drop v
section
variable {X : Cx} {p : Pm} {c : Cc} {k : Nat} {e a b d : Expr} {es : List Expr} {ca cb cd : C} {pos : Pos}
theorem k_gbad : PG X e (tG X.K .bad) := ⟨fun _ _ _ _ _ _ _ _ _ h => by obtain ⟨_, _, _, _, _, _, _, _, h, _⟩ := h; simp [bindT] at h⟩
theorem k_gsbad : PGs X es (tGs X.K .bad) := ⟨fun _ _ _ _ _ _ _ _ _ h => by obtain ⟨_, _, _, ds, _, _, _, _, h, _⟩ := h; cases ds <;> simp [bindTs] at h⟩
theorem k_gname (M : Mat X p c k) {x : Str} {i : Nat} (hl : locB c x = true) (hi : ixOf c.N x = some i) : PG X (.Name x pos) (tG X.K (.nm i)) := by
  obtain ⟨h1, h2⟩ := M.loc hl
  refine PG.imp (pg_name (i := i) (by rw [M.hN]; exact M.nd) (by rw [M.hN]; exact ixOf_get hi) h1 h2) fun v σ H Q h => ?_
  obtain ⟨ρ, S, e, d, e1, sm, en, r, h, q⟩ := h
  simp only [bindT] at h
  split at h
  · cases h
    refine q _ (en.set r i) fun own ho => wipe_set ?_
    simpa [tgIn] using ho
  · cases h
theorem assign_each (h : es.all notStar = true) (env : Env) : (assignEach es env).length = es.length ∧ (assignEach es env).findIdx? (·.1) = none ∧ ∀ e r, es = e :: r → (assignEach (e :: r) env).map (·.2) = assign e env :: (assignEach r env).map (·.2) := by
  have one : ∀ (e : Expr) (r : List Expr), notStar e = true → assignEach (e :: r) env = (false, assign e env) :: assignEach r env := by
    intro e r he
    cases e <;> first | rfl | (simp [notStar] at he; done)
  induction es with
  | nil => exact ⟨rfl, rfl, fun e r z => by cases z⟩
  | cons e r ih =>
    rw [List.all_cons, Bool.and_eq_true] at h
    obtain ⟨i1, i2, i3⟩ := ih h.2
    refine ⟨by rw [one e r h.1, List.length_cons, List.length_cons, i1], ?_, fun e' r' z => ?_⟩
    · rw [one e r h.1, List.findIdx?_cons, i2]; rfl
    · cases z
      rw [one e r h.1]; rfl
theorem k_gtup (M : Mat X p c k) {kk : Nat} {t : Tg} (hst : es.all notStar = true) (h : PGs X es (tGs X.K t)) : PG X (.Tuple es kk pos) (tG X.K (.tp es.length t)) := by
  obtain ⟨a1, a2, _⟩ := assign_each hst X.env
  refine PG.imp (PG.or (pg_tup (n := es.length) M.calm h a1 a2) (pg_lst (n := es.length) M.calm h a1 a2)) fun v σ H Q h => ?_
  obtain ⟨ρ, S, e, d, e1, sm, en, r, h, q⟩ := h
  cases r with
  | tup h1 r1 =>
    simp only [bindT] at h
    split at h
    · rename_i hn
      exact .inl ⟨_, _, rfl, h1, by rw [r1.length]; exact hn, ρ, S, e, _, e1, sm, en, r1, h, q⟩
    · cases h
  | ref h1 =>
    simp only [bindT, Option.bind_eq_some_iff] at h
    obtain ⟨ys, hl, h⟩ := h
    obtain ⟨vs, hq, r1⟩ := sm.list hl h1
    split at h
    · rename_i hn
      exact .inr ⟨_, vs, rfl, hq, by rw [r1.length]; exact hn, ρ, S, e, ys, e1, sm, en, r1, h, q⟩
    · cases h
  | _ => simp [bindT] at h
theorem k_gsnil : PGs X [] (tGs X.K .nil) := PGs.imp pgs_nil fun vs σ H Q h => by
  obtain ⟨ρ, S, e, ds, e1, sm, en, r, h, q⟩ := h
  cases r with
  | nil => simp only [bindTs, Option.some.injEq] at h; subst h; exact ⟨rfl, q σ en fun _ _ => rfl⟩
  | cons _ _ => simp [bindTs] at h
theorem k_gscons {t u : Tg} (hs : notStar a = true) (ha : PG X a (tG X.K t)) (hb : PGs X es (tGs X.K u)) (hst : es.all notStar = true) : PGs X (a :: es) (tGs X.K (.cons t u)) := by
  have hst2 : (a :: es).all notStar = true := by rw [List.all_cons, Bool.and_eq_true]; exact ⟨hs, hst⟩
  obtain ⟨_, _, a3⟩ := assign_each hst2 X.env
  refine PGs.imp (pgs_cons ha hb (a3 a es rfl)) fun vs σ H Q h => ?_
  obtain ⟨ρ, S, e, ds, e1, sm, en, r, h, q⟩ := h
  cases r with
  | nil => simp [bindTs] at h
  | cons r1 r2 =>
    simp only [bindTs, Option.bind_eq_some_iff] at h
    obtain ⟨e2, h1, h2⟩ := h
    refine ⟨_, _, rfl, ρ, S, e, _, e2, sm, en, r1, h1, fun σ1 en1 w1 => ⟨ρ, S, e2, _, e1, sm, en1, r2, h2, fun σ2 en2 w2 => q σ2 en2 fun own ho => ?_⟩⟩
    simp only [tgIn, Bool.and_eq_true] at ho
    rw [w2 own ho.2, w1 own ho.1]
/-! ## what is walked -/
theorem chks_app {S : Store} : ∀ {l m : List D}, chks S (l ++ m) = true → chks S l = true ∧ chks S m = true
  | [], m, h => ⟨rfl, h⟩
  | x :: l, m, h => by
    simp only [List.cons_append, chks, Bool.and_eq_true] at h ⊢
    exact ⟨⟨h.1, (chks_app h.2).1⟩, (chks_app h.2).2⟩
/-- a list or a tuple that is walked: what it is, at every turn -/
theorem src_list {K : PySem.W.Frag} {ρ ρ2 : List Addr} {S S2 : Store} {H H2 : Hp} {n : Nat} {A : Addr} {ys : List D} (hA : ρ[n]? = some A) (p2 : Pre ρ ρ2) (s2 : Sim K ρ2 S2 H2) (hc : chks S2 [.tup [.ref n, .tup ys]] = true) :
    ∃ vs, SqL K H2 A vs ∧ Reps K ρ2 H2 vs ys := by
  simp only [chks, chk1, Bool.and_true] at hc
  split at hc
  · rename_i zs hz
    have e := D.beqs_eq _ _ hc
    subst e
    exact s2.list hz (p2 _ _ hA)
  · cases hc
theorem it_list {K : PySem.W.Frag} {ρ : List Addr} {H : Hp} {n : Nat} {A : Addr} {ys : List D} (hA : ρ[n]? = some A) :
    ItOk K ρ H ys [.tup [.ref n, .tup ys]] (Itl K A) := by
  intro ρ2 S2 H2 p2 g2 s2 hc i
  obtain ⟨vs, hq, r⟩ := src_list (H := H) (S := S2) hA p2 s2 hc
  refine ⟨fun e => ⟨vs, hq, by rw [r.length, e]; exact Nat.le_refl _⟩, fun d hd => ?_⟩
  obtain ⟨v, hv, rv⟩ := r.get hd
  refine ⟨⟨vs, v, hq, hv⟩, fun x H3 hy => ?_⟩
  obtain ⟨e, hx⟩ := hy
  subst e
  have q := hx vs hq
  rw [hv] at q
  cases q
  exact ⟨Gro.refl _, s2, rv⟩
theorem it_tup {K : PySem.W.Frag} {ρ : List Addr} {H : Hp} {A : Addr} {vs : List V} {ys cks : List D} (h : SqT K H A vs) (r : Reps K ρ H vs ys) : ItOk K ρ H ys cks (Itt K A) := by
  intro ρ2 S2 H2 p2 g2 s2 hc i
  have hq := g2.sqt h
  have r := r.mono g2 p2
  refine ⟨fun e => ⟨vs, hq, by rw [r.length, e]; exact Nat.le_refl _⟩, fun d hd => ?_⟩
  obtain ⟨v, hv, rv⟩ := r.get hd
  refine ⟨⟨vs, v, hq, hv⟩, fun x H3 hy => ?_⟩
  obtain ⟨e, hx⟩ := hy
  subst e
  have q := hx vs hq
  rw [hv] at q
  cases q
  exact ⟨Gro.refl _, s2, rv⟩
theorem it_rng {K : PySem.W.Frag} {ρ : List Addr} {H : Hp} {lo : Int} {n : Nat} {cks : List D} : ItOk K ρ H (rng lo n) cks (Itr lo n) := by
  intro ρ2 S2 H2 p2 g2 s2 hc i
  have hl : (rng lo n).length = n := by simp [rng]
  refine ⟨fun e => by show n ≤ i; omega, fun d hd => ?_⟩
  have hi : i < n := by have := (List.getElem?_eq_some_iff.mp hd).1; omega
  refine ⟨hi, fun x H3 hy => ?_⟩
  obtain ⟨e, hx⟩ := hy
  subst e; subst hx
  have : d = .int (lo + (i : Int)) := by
    simp [rng, hi] at hd
    exact hd.symm
  subst this
  exact ⟨Gro.refl _, s2, .int _⟩
theorem it_revL {K : PySem.W.Frag} {ρ : List Addr} {H : Hp} {n : Nat} {A : Addr} {ys : List D} {m : Nat} (hm : m = ys.length) (hA : ρ[n]? = some A) : ItOk K ρ H ys.reverse [.tup [.ref n, .tup ys]] (Itv K A m) := by
  subst hm
  intro ρ2 S2 H2 p2 g2 s2 hc i
  obtain ⟨vs, hq, r⟩ := src_list (H := H) (S := S2) hA p2 s2 hc
  refine ⟨fun e => by show _ ≤ i; rw [e, List.length_reverse]; exact Nat.le_refl _, fun d hd => ?_⟩
  have hi : i < ys.length := by have := (List.getElem?_eq_some_iff.mp hd).1; rw [List.length_reverse] at this; exact this
  rw [List.getElem?_reverse hi] at hd
  obtain ⟨v, hv, rv⟩ := r.get hd
  refine ⟨⟨hi, vs, v, hq, hv⟩, fun x H3 hy => ?_⟩
  obtain ⟨e, hx⟩ := hy
  subst e
  have q := hx vs hq
  rw [hv] at q
  cases q
  exact ⟨Gro.refl _, s2, rv⟩
theorem it_revT {K : PySem.W.Frag} {ρ : List Addr} {H : Hp} {A : Addr} {vs : List V} {ys cks : List D} {m : Nat} (hm : m = ys.length) (h : SqT K H A vs) (r : Reps K ρ H vs ys) : ItOk K ρ H ys.reverse cks (RT.ItvT K A m) := by
  subst hm
  intro ρ2 S2 H2 p2 g2 s2 hc i
  have hq := g2.sqt h
  have r := r.mono g2 p2
  refine ⟨fun e => by show _ ≤ i; rw [e, List.length_reverse]; exact Nat.le_refl _, fun d hd => ?_⟩
  have hi : i < ys.length := by have := (List.getElem?_eq_some_iff.mp hd).1; rw [List.length_reverse] at this; exact this
  rw [List.getElem?_reverse hi] at hd
  obtain ⟨v, hv, rv⟩ := r.get hd
  refine ⟨⟨hi, vs, v, hq, hv⟩, fun x H3 hy => ?_⟩
  obtain ⟨e, hx⟩ := hy
  subst e
  have q := hx vs hq
  rw [hv] at q
  cases q
  exact ⟨Gro.refl _, s2, rv⟩
theorem enumF_len : ∀ (i : Nat) (l : List D), (enumF i l).length = l.length
  | _, [] => rfl
  | i, d :: l => by simp [enumF, enumF_len (i + 1) l]
theorem enumF_get : ∀ (l : List D) (i j : Nat) (d : D), (enumF i l)[j]? = some d → ∃ f, l[j]? = some f ∧ d = .tup [.int ((i + j : Nat) : Int), f]
  | [], i, j, d, h => by simp [enumF] at h
  | x :: l, i, 0, d, h => by
    simp [enumF] at h
    exact ⟨x, rfl, h.symm⟩
  | x :: l, i, j + 1, d, h => by
    simp only [enumF, List.getElem?_cons_succ] at h
    obtain ⟨f, h1, h2⟩ := enumF_get l (i + 1) j d h
    exact ⟨f, by simpa using h1, by rw [h2, show i + 1 + j = i + (j + 1) by omega]⟩
theorem it_enum {K : PySem.W.Frag} {ρ : List Addr} {H : Hp} {n : Nat} {A : Addr} {ys : List D} (hA : ρ[n]? = some A) : ItOk K ρ H (enumF 0 ys) [.tup [.ref n, .tup ys]] (Ite K A) := by
  intro ρ2 S2 H2 p2 g2 s2 hc i
  obtain ⟨vs, hq, r⟩ := src_list (H := H) (S := S2) hA p2 s2 hc
  refine ⟨fun e => ⟨vs, hq, by rw [r.length, e, enumF_len]; exact Nat.le_refl _⟩, fun d hd => ?_⟩
  obtain ⟨f, hf, ed⟩ := enumF_get ys 0 i d hd
  obtain ⟨v, hv, rv⟩ := r.get hf
  refine ⟨⟨vs, v, hq, hv⟩, fun x H3 hy => ?_⟩
  obtain ⟨T, y, ex, hT, eH, hx⟩ := hy
  have q := hx vs hq
  rw [hv] at q
  cases q
  subst ex; subst eH; subst ed
  rw [Nat.zero_add]
  exact ⟨Gro.new hT, s2.tup hT, .tup (SqT.of upd_same) (.cons (.int _) (.cons (rv.mono (Gro.new hT) (Pre.refl _)) .nil))⟩
theorem zipF_get : ∀ (l m : List D) (j : Nat) (d : D), (zipF l m)[j]? = some d → ∃ f g, l[j]? = some f ∧ m[j]? = some g ∧ d = .tup [f, g]
  | [], _, j, d, h => by simp [zipF] at h
  | _ :: _, [], j, d, h => by simp [zipF] at h
  | x :: l, y :: m, 0, d, h => by simp [zipF] at h; exact ⟨x, y, rfl, rfl, h.symm⟩
  | x :: l, y :: m, j + 1, d, h => by
    simp only [zipF, List.getElem?_cons_succ] at h
    obtain ⟨f, g, h1, h2, h3⟩ := zipF_get l m j d h
    exact ⟨f, g, by simpa using h1, by simpa using h2, h3⟩
theorem zipF_len : ∀ (l m : List D), (zipF l m).length = min l.length m.length
  | [], m => by simp [zipF]
  | _ :: _, [] => by simp [zipF]
  | x :: l, y :: m => by simp only [zipF, List.length_cons, zipF_len l m]; omega
theorem it_zipL {K : PySem.W.Frag} {ρ : List Addr} {H : Hp} {n m : Nat} {A B : Addr} {ys zs : List D} (hA : ρ[n]? = some A) (hB : ρ[m]? = some B) : ItOk K ρ H (zipF ys zs) ([.tup [.ref n, .tup ys]] ++ [.tup [.ref m, .tup zs]]) (Itz K A B) := by
  intro ρ2 S2 H2 p2 g2 s2 hc i
  obtain ⟨hc1, hc2⟩ := chks_app hc
  obtain ⟨vs, hq, r⟩ := src_list (H := H) (S := S2) hA p2 s2 hc1
  obtain ⟨ws, hw, r2⟩ := src_list (H := H) (S := S2) hB p2 s2 hc2
  refine ⟨fun e => ⟨vs, ws, hq, hw, by rw [r.length, r2.length, e, zipF_len]; omega⟩, fun d hd => ?_⟩
  obtain ⟨f, g, hf, hg, ed⟩ := zipF_get ys zs i d hd
  obtain ⟨v, hv, rv⟩ := r.get hf
  obtain ⟨w, hv2, rv2⟩ := r2.get hg
  refine ⟨⟨vs, ws, v, w, hq, hw, hv, hv2⟩, fun x H3 hy => ?_⟩
  obtain ⟨T, y, z, ex, hT, eH, hx, hx2⟩ := hy
  have q := hx vs hq
  have q2 := hx2 ws hw
  rw [hv] at q
  rw [hv2] at q2
  cases q; cases q2
  subst ex; subst eH; subst ed
  exact ⟨Gro.new hT, s2.tup hT, .tup (SqT.of upd_same) (.cons (rv.mono (Gro.new hT) (Pre.refl _)) (.cons (rv2.mono (Gro.new hT) (Pre.refl _)) .nil))⟩
theorem it_zipT {K : PySem.W.Frag} {ρ : List Addr} {H : Hp} {A B : Addr} {vs ws : List V} {ys zs cks : List D} (hq : SqT K H A vs) (r : Reps K ρ H vs ys) (hw : SqT K H B ws) (r2 : Reps K ρ H ws zs) : ItOk K ρ H (zipF ys zs) cks (RZ.ItzT K A B) := by
  intro ρ2 S2 H2 p2 g2 s2 hc i
  have hq := g2.sqt hq
  have r := r.mono g2 p2
  have hw := g2.sqt hw
  have r2 := r2.mono g2 p2
  refine ⟨fun e => ⟨vs, ws, hq, hw, by rw [r.length, r2.length, e, zipF_len]; omega⟩, fun d hd => ?_⟩
  obtain ⟨f, g, hf, hg, ed⟩ := zipF_get ys zs i d hd
  obtain ⟨v, hv, rv⟩ := r.get hf
  obtain ⟨w, hv2, rv2⟩ := r2.get hg
  refine ⟨⟨vs, ws, v, w, hq, hw, hv, hv2⟩, fun x H3 hy => ?_⟩
  obtain ⟨T, y, z, ex, hT, eH, hx, hx2⟩ := hy
  have q := hx vs hq
  have q2 := hx2 ws hw
  rw [hv] at q
  rw [hv2] at q2
  cases q; cases q2
  subst ex; subst eH; subst ed
  exact ⟨Gro.new hT, s2.tup hT, .tup (SqT.of upd_same) (.cons (rv.mono (Gro.new hT) (Pre.refl _)) (.cons (rv2.mono (Gro.new hT) (Pre.refl _)) .nil))⟩
end
end Tm

set_option Elab.async false
set_option linter.all false
set_option maxRecDepth 100000
set_option maxHeartbeats 4000000
namespace Tm
open PySem PySem.Spec PyProof.Rows L2
/-! ## zip of a tuple and a text -/
def ItzTS (K : PySem.W.Frag) (a : Addr) (x : Str) : It where
  go := fun i H => ∃ (xs : List V) (y : V), SqT K H a xs ∧ xs[i]? = some y ∧ i < x.cps.size
  yld := fun i H v H' => ∃ (T : Addr) (y : V) (c : Nat), v = .ref T ∧ H T = none ∧ H' = upd H T (.tup [y, .str ⟨#[c]⟩]) ∧ (∀ xs, SqT K H a xs → xs[i]? = some y) ∧ x.cps[i]? = some c
  stop := fun i H => ∃ xs, SqT K H a xs ∧ i ≤ xs.length ∧ i ≤ x.cps.size ∧ (i = xs.length ∨ i = x.cps.size)
theorem istup_tuple {h : Heap} {a : Addr} {its : Array Value} (t : IsTup h a its) : h.IsTuple a its := by
  exact t
theorem sep2 {z TI TO i1 i2 a : Addr} (ap : ZipApart z TI TO i1 i2 a a) : ZipSep2 z TI TO i1 i2 [i1, a] [i2] where
  TIz := ap.TIz
  TOz := ap.TOz
  TITO := ap.TITO
  TIi1 := ap.TIi1
  mem1 := by simp
  zf1 := by simp [ap.i1z.symm, ap.l1z.symm]
  Tf1 := by simp [ap.TOi1, ap.l1TO.symm]
  TIi2 := ap.TIi2
  mem2 := by simp
  zf2 := by simp [ap.i2z.symm]
  Tf2 := by simp [ap.TOi2]
  sep1_2 := by simp [ap.i12]
  sep2_1 := by simp [ap.i12.symm, ap.l1i2.symm]
theorem turn_zipTS {P : Program} {w : World} {K : PySem.W.Frag} {elts : List Expr} {kk : Nat} {tpos : Pos} {a z TI TO i1 i2 : Addr} {x : Str} {t : Tok} (ap : ZipApart z TI TO i1 i2 a a) :
    Turn P w K (Expr.Tuple elts kk tpos) (ItzTS K a x) [z, TI, TO, i1, i2] z fun i h =>
      IsZip h z TI TO Value.none ∧ IsTupOf2 h TI (.ref i1) (.ref i2) ∧ (∃ u v, IsTupOf2 h TO u v) ∧ h.IsTupleIter i1 a i ∧ h.IsStrIter i2 (strIterType x) x t i where
  mem := by simp
  obj := by
    rintro i h ⟨h1, h2, ⟨u, v, h3⟩, ⟨o4, h4, c4, d4⟩, ⟨o5, h5, c5, d5⟩⟩ b hb
    simp only [List.mem_cons, List.not_mem_nil, or_false] at hb
    rcases hb with rfl | rfl | rfl | rfl | rfl
    · exact ⟨_, h1, fun v e => by cases e⟩
    · exact ⟨_, h2, fun v e => by cases e⟩
    · exact ⟨_, h3, fun v e => by cases e⟩
    · exact ⟨_, h4, fun v e => by rw [d4] at e; cases e⟩
    · exact ⟨_, h5, fun v e => by rw [d5] at e; cases e⟩
  keep := by
    rintro i h h' ⟨h1, h2, ⟨u, v, h3⟩, ⟨o4, h4, c4, d4⟩, ⟨o5, h5, c5, d5⟩⟩ k
    exact ⟨k _ (by simp) _ h1, k _ (by simp) _ h2, ⟨u, v, k _ (by simp) _ h3⟩, ⟨o4, k _ (by simp) _ h4, c4, d4⟩, ⟨o5, k _ (by simp) _ h5, c5, d5⟩⟩
  item := by
    rintro X rfl rfl rfl calm i pins s σ H E I fp ⟨h1, h2, ⟨u, v, h3⟩, h4, h5⟩ ⟨xs, y, hq, hy, hi⟩
    obtain ⟨its, rv, ht, hl⟩ := I.tuple hq
    have hd := I.ok.hd calm
    have D1 := Draws.tuple (prog := X.prog) (w := X.w) (A := X.A.in1) hd i1 a ap.l1i1 its.toArray
    have D2 := Draws.text (prog := X.prog) (w := X.w) (A := X.A.in1) hd i2 x t
    have hlen : i < its.toArray.size := by
      rw [List.size_toArray, ← rv.length]
      exact (List.getElem?_eq_some_iff.mp hy).1
    refine wpAny_pyNext_zipD2_item (sep2 ap) D1 D2 h1 h2 h3 ⟨h4, istup_tuple ht⟩ h5 hlen hi fun x1 x2 h' tk p1 p2 k1 k2 k3 k4 k5 k6 k7 => ?_
    obtain ⟨c, uu, hc, rfl⟩ := p2
    refine ⟨_, rfl, ?_⟩
    refine wpAny_letOwnedTupleGo_zip k1 fun h2' m1 m2 => ?_
    obtain ⟨y', hy', ry⟩ := rv.get hy
    have ex1 : y' = x1 := by
      rw [List.getElem?_toArray] at p1
      rw [p1] at hy'
      exact (Option.some.inj hy').symm
    subst ex1
    have mv : ∀ (b : Addr) (o : Obj), b ≠ z → h'.get? b = some o → h2'.get? b = some o := fun b o nb hb => (m2.2 b nb).trans hb
    have nz : s.heap.objs.size ≠ z := fun e => by have := Heap.lt_size h1; rw [← e] at this; exact absurd this (Nat.lt_irrefl _)
    have fT : H s.heap.objs.size = none := I.hok.fresh (Nat.le_refl _)
    refine ⟨.ref s.heap.objs.size, upd H s.heap.objs.size (.tup [y, .str ⟨#[c]⟩]), ?_, rfl, ⟨_, y, c, rfl, fT, rfl, fun ys hys => ?_, hc⟩, ⟨m1, ?_, ?_, ?_, ?_⟩, fun b hb => ?_⟩
    · refine I.turnedNew (ch := [z, TO, i1, i2]) (fun b o nb hb => ?_) (fun b hb => ?_) (Nat.le_refl _) ?_
      · simp only [List.mem_cons, List.not_mem_nil, or_false, not_or] at nb
        exact mv b o nb.1 (k7 b o nb.1 nb.2.1 nb.2.2.1 nb.2.2.2 hb)
      · simp only [List.mem_cons, List.not_mem_nil, or_false] at hb
        exact fp b (by simp only [List.mem_cons, List.not_mem_nil, or_false]; rcases hb with h | h | h | h <;> simp [h])
      · exact ⟨by show 2 ≤ sizeLine; decide, _, .cons ry (.cons ⟨uu, rfl⟩ .nil), ⟨_, mv _ _ nz k5, rfl, _, rfl⟩⟩
    · rw [I.tuple_inj hys hq]; exact hy
    · exact mv _ _ ap.TIz (k7 _ _ ap.TIz ap.TITO ap.TIi1 ap.TIi2 h2)
    · exact ⟨_, _, mv _ _ ap.TOz k2⟩
    · exact k3.1.at fun o ho => mv _ _ ap.i1z ho
    · obtain ⟨o, g1, g2, g3⟩ := k4
      exact ⟨o, mv _ _ ap.i2z g1, g2, g3⟩
    · have hne : b ≠ s.heap.objs.size := by
        have hlt : b < s.heap.objs.size := by
          simp only [List.mem_cons, List.not_mem_nil, or_false] at hb
          obtain ⟨o4, q4, _⟩ := h4
          obtain ⟨o5, q5, _⟩ := h5
          rcases hb with rfl | rfl | rfl | rfl | rfl
          · exact Heap.lt_size h1
          · exact Heap.lt_size h2
          · exact Heap.lt_size h3
          · exact Heap.lt_size q4
          · exact Heap.lt_size q5
        exact Nat.ne_of_lt hlt
      rw [upd_ne hne]
      exact (fp b hb).1
  done := by
    rintro X rfl rfl rfl calm i pins s σ H E I fp ⟨h1, h2, ⟨u, v, h3⟩, h4, h5⟩ ⟨xs, hq, hl1, hl2, hor⟩
    obtain ⟨its, rv, ht, hl⟩ := I.tuple hq
    have hd := I.ok.hd calm
    have D1 := Draws.tuple (prog := X.prog) (w := X.w) (A := X.A.in1) hd i1 a ap.l1i1 its.toArray
    have D2 := Draws.text (prog := X.prog) (w := X.w) (A := X.A.in1) hd i2 x t
    have hs : its.toArray.size = xs.length := by rw [List.size_toArray, ← rv.length]
    refine wpAny_pyNext_zipD2_end (sep2 ap) D1 D2 h1 h2 h3 ⟨h4, istup_tuple ht⟩ h5 (by omega) hl2 (by omega) fun h' tk k => ⟨rfl, ?_⟩
    refine I.turnedL (ch := [z, TO, i1, i2]) (fun b o nb hb => ?_) (fun b hb => ?_)
    · simp only [List.mem_cons, List.not_mem_nil, or_false, not_or] at nb
      exact k b o nb.1 nb.2.1 nb.2.2.1 nb.2.2.2 hb
    · simp only [List.mem_cons, List.not_mem_nil, or_false] at hb
      exact fp b (by simp only [List.mem_cons, List.not_mem_nil, or_false]; rcases hb with h | h | h | h <;> simp [h])
  self := by
    rintro A i s Q E ⟨h1, _⟩ q
    exact wpAny_pyIter_zip h1 q

theorem apart5 (n a : Nat) (h : a < n) : ZipApart (n + 4) (n + 2) (n + 3) n (n + 1) a a :=
  ⟨(by omega : ¬ ((n + 2 : Nat) = n + 4)), (by omega : ¬ ((n + 3 : Nat) = n + 4)), (by omega : ¬ ((n : Nat) = n + 4)), (by omega : ¬ ((n + 1 : Nat) = n + 4)), (by omega : ¬ ((n + 2 : Nat) = n + 3)), (by omega : ¬ ((n + 2 : Nat) = n)), (by omega : ¬ ((n + 2 : Nat) = n + 1)), (by omega : ¬ ((n + 3 : Nat) = n)), (by omega : ¬ ((n + 3 : Nat) = n + 1)), (by omega : ¬ ((n : Nat) = n + 1)), (by omega : ¬ ((a : Nat) = n + 4)), (by omega : ¬ ((a : Nat) = n + 3)), (by omega : ¬ ((a : Nat) = n)), (by omega : ¬ ((a : Nat) = n + 1)), (by omega : ¬ ((a : Nat) = n + 4)), (by omega : ¬ ((a : Nat) = n + 3)), (by omega : ¬ ((a : Nat) = n)), (by omega : ¬ ((a : Nat) = n + 1))⟩
def iZipTS (K : PySem.W.Frag) (ta : TA) : TI := fun σ H R => ta σ H fun vs H1 => ∃ (a : Addr) (xs : List V) (x : Str), vs = [.ref a, .str x] ∧ SqT K H1 a xs ∧ R (ItzTS K a x) H1
theorem pi_zipTS {X : Cx} {e e2 : Expr} {ta : TA} {p pos tpos : Pos} {elts : List Expr} {kk : Nat} (g1 : Gl X "zip") (g2 : X.mg "zip" = none) (ha : PA X [e, e2] ta)
    (hs : starEach [e, e2] X.env = (false, eval e X.env) :: starEach [e2] X.env) (hs2 : ((backTo pos (starEach [e2] X.env)).any fun x => x.1) = false) :
    PI X (.Tuple elts kk tpos) (.Call (.Name "zip" p) [e, e2] [] pos) (iZipTS X.K ta) := by
  refine ⟨fun pins s σ H R I h => ?_⟩
  refine Call_ (ld_blt I g1 g2 boot_zip ?_)
  refine PyProof.Rows.callWith_type1 (T := "zip") (e := e) (rest := [e2]) ?_ hs hs2
  refine thn (ha.run pos pins s σ H _ I h) fun us s1 hh => ?_
  obtain ⟨vs, H1, I1, rv, a, xs, x, ev', hq, r⟩ := hh
  subst ev'
  obtain ⟨its, ri, ht, hl⟩ := I1.tuple hq
  match us, rv with
  | [u1, u2], .cons q1 (.cons q2 .nil) =>
    cases q1
    obtain ⟨t, rfl⟩ := q2
    refine zip_begins2 (begins_tuple a its.toArray) (begins_text x t) (istup_tuple ht) trivial fun h' k1 k2 k3 k4 k5 k6 k7 => ?_
    refine wpAny_pyIter_zip k1 ?_
    have la : a < s1.heap.objs.size := by
      obtain ⟨o, g, _⟩ := ht
      exact Heap.lt_size g
    have I2 := I1.kept (h' := h') (t' := s1.toks) (fun b u hb => k7 b u hb)
    have fpk : ∀ b, s1.heap.objs.size ≤ b → FpOk X pins H1 b := fun b hb => I1.fpOk hb (I1.hok.fresh hb)
    refine ⟨_, [s1.heap.objs.size + 4, s1.heap.objs.size + 2, s1.heap.objs.size + 3, s1.heap.objs.size, s1.heap.objs.size + 1], _, ItzTS X.K a x, H1, rfl, I2,
      turn_zipTS (a := a) (x := x) (t := t) (z := s1.heap.objs.size + 4) (TI := s1.heap.objs.size + 2) (TO := s1.heap.objs.size + 3) (i1 := s1.heap.objs.size) (i2 := s1.heap.objs.size + 1)
        (apart5 s1.heap.objs.size a la),
      ⟨k1, k2, ⟨_, _, k3⟩, ⟨_, k4, rfl, rfl⟩, ⟨_, k5, rfl, rfl⟩⟩, fun b hb => ?_, r⟩
    simp only [List.mem_cons, List.not_mem_nil, or_false] at hb
    rcases hb with rfl | rfl | rfl | rfl | rfl
    · exact fpk _ (Nat.le_add_right _ _)
    · exact fpk _ (Nat.le_add_right _ _)
    · exact fpk _ (Nat.le_add_right _ _)
    · exact fpk _ (Nat.le_refl _)
    · exact fpk _ (Nat.le_add_right _ _)
theorem it_zipTS {K : PySem.W.Frag} {ρ : List Addr} {H : Hp} {A : Addr} {vs : List V} {ys cks : List D} {x : Str} (hq : SqT K H A vs) (r : Reps K ρ H vs ys) :
    ItOk K ρ H (zipF ys (x.cps.toList.map fun c => D.str ⟨#[c]⟩)) cks (ItzTS K A x) := by
  intro ρ2 S2 H2 p2 g2 s2 hc i
  have hq := g2.sqt hq
  have r := r.mono g2 p2
  refine ⟨fun e => ⟨vs, hq, ?_⟩, fun d hd => ?_⟩
  · rw [zipF_len] at e
    simp only [List.length_map, Array.length_toList] at e
    rw [r.length]; omega
  obtain ⟨f, g, hf, hg, ed⟩ := zipF_get ys _ i d hd
  obtain ⟨v, hv, rv⟩ := r.get hf
  rw [List.getElem?_map] at hg
  cases hx : x.cps.toList[i]? with
  | none => rw [hx] at hg; cases hg
  | some c =>
    rw [hx] at hg
    simp only [Option.map_some, Option.some.injEq] at hg
    subst hg
    have hx' : x.cps[i]? = some c := by rw [← Array.getElem?_toList]; exact hx
    have hi : i < x.cps.size := by
      have := (List.getElem?_eq_some_iff.mp hx).1
      simpa using this
    refine ⟨⟨vs, v, hq, hv, hi⟩, fun u H3 hy => ?_⟩
    obtain ⟨T, y, c', ex, hT, eH, hy1, hy2⟩ := hy
    have q := hy1 vs hq
    rw [hv] at q
    rw [hx'] at hy2
    cases q; cases hy2
    subst ex; subst eH; subst ed
    exact ⟨Gro.new hT, s2.tup hT, .tup (SqT.of upd_same) (.cons (rv.mono (Gro.new hT) (Pre.refl _)) (.cons (.str _) .nil))⟩
end Tm

set_option Elab.async false
set_option linter.all false
set_option maxRecDepth 100000
set_option maxHeartbeats 4000000
namespace Tm
open PySem PySem.Spec PyProof.Rows L2
/-! ## zip of a list and a text -/
def ItzLS (K : PySem.W.Frag) (a : Addr) (x : Str) : It where
  go := fun i H => ∃ (xs : List V) (y : V), SqL K H a xs ∧ xs[i]? = some y ∧ i < x.cps.size
  yld := fun i H v H' => ∃ (T : Addr) (y : V) (c : Nat), v = .ref T ∧ H T = none ∧ H' = upd H T (.tup [y, .str ⟨#[c]⟩]) ∧ (∀ xs, SqL K H a xs → xs[i]? = some y) ∧ x.cps[i]? = some c
  stop := fun i H => ∃ xs, SqL K H a xs ∧ i ≤ xs.length ∧ i ≤ x.cps.size ∧ (i = xs.length ∨ i = x.cps.size)
theorem turn_zipLS {P : Program} {w : World} {K : PySem.W.Frag} {elts : List Expr} {kk : Nat} {tpos : Pos} {a z TI TO i1 i2 : Addr} {x : Str} {t : Tok} (ap : ZipApart z TI TO i1 i2 a a) :
    Turn P w K (Expr.Tuple elts kk tpos) (ItzLS K a x) [z, TI, TO, i1, i2] z fun i h =>
      IsZip h z TI TO Value.none ∧ IsTupOf2 h TI (.ref i1) (.ref i2) ∧ (∃ u v, IsTupOf2 h TO u v) ∧ h.IsListIter i1 a i ∧ h.IsStrIter i2 (strIterType x) x t i where
  mem := by simp
  obj := by
    rintro i h ⟨h1, h2, ⟨u, v, h3⟩, ⟨o4, h4, c4, d4⟩, ⟨o5, h5, c5, d5⟩⟩ b hb
    simp only [List.mem_cons, List.not_mem_nil, or_false] at hb
    rcases hb with rfl | rfl | rfl | rfl | rfl
    · exact ⟨_, h1, fun v e => by cases e⟩
    · exact ⟨_, h2, fun v e => by cases e⟩
    · exact ⟨_, h3, fun v e => by cases e⟩
    · exact ⟨_, h4, fun v e => by rw [d4] at e; cases e⟩
    · exact ⟨_, h5, fun v e => by rw [d5] at e; cases e⟩
  keep := by
    rintro i h h' ⟨h1, h2, ⟨u, v, h3⟩, ⟨o4, h4, c4, d4⟩, ⟨o5, h5, c5, d5⟩⟩ k
    exact ⟨k _ (by simp) _ h1, k _ (by simp) _ h2, ⟨u, v, k _ (by simp) _ h3⟩, ⟨o4, k _ (by simp) _ h4, c4, d4⟩, ⟨o5, k _ (by simp) _ h5, c5, d5⟩⟩
  item := by
    rintro X rfl rfl rfl calm i pins s σ H E I fp ⟨h1, h2, ⟨u, v, h3⟩, h4, h5⟩ ⟨xs, y, hq, hy, hi⟩
    obtain ⟨its, rv, ht, hl⟩ := I.list hq
    have hd := I.ok.hd calm
    have D1 := Draws.list (prog := X.prog) (w := X.w) (A := X.A.in1) hd i1 a ap.l1i1 its.toArray
    have D2 := Draws.text (prog := X.prog) (w := X.w) (A := X.A.in1) hd i2 x t
    have hlen : i < its.toArray.size := by
      rw [List.size_toArray, ← rv.length]
      exact (List.getElem?_eq_some_iff.mp hy).1
    refine wpAny_pyNext_zipD2_item (sep2 ap) D1 D2 h1 h2 h3 ⟨h4, ht.isList⟩ h5 hlen hi fun x1 x2 h' tk p1 p2 k1 k2 k3 k4 k5 k6 k7 => ?_
    obtain ⟨c, uu, hc, rfl⟩ := p2
    refine ⟨_, rfl, ?_⟩
    refine wpAny_letOwnedTupleGo_zip k1 fun h2' m1 m2 => ?_
    obtain ⟨y', hy', ry⟩ := rv.get hy
    have ex1 : y' = x1 := by
      rw [List.getElem?_toArray] at p1
      rw [p1] at hy'
      exact (Option.some.inj hy').symm
    subst ex1
    have mv : ∀ (b : Addr) (o : Obj), b ≠ z → h'.get? b = some o → h2'.get? b = some o := fun b o nb hb => (m2.2 b nb).trans hb
    have nz : s.heap.objs.size ≠ z := fun e => by have := Heap.lt_size h1; rw [← e] at this; exact absurd this (Nat.lt_irrefl _)
    have fT : H s.heap.objs.size = none := I.hok.fresh (Nat.le_refl _)
    refine ⟨.ref s.heap.objs.size, upd H s.heap.objs.size (.tup [y, .str ⟨#[c]⟩]), ?_, rfl, ⟨_, y, c, rfl, fT, rfl, fun ys hys => ?_, hc⟩, ⟨m1, ?_, ?_, ?_, ?_⟩, fun b hb => ?_⟩
    · refine I.turnedNew (ch := [z, TO, i1, i2]) (fun b o nb hb => ?_) (fun b hb => ?_) (Nat.le_refl _) ?_
      · simp only [List.mem_cons, List.not_mem_nil, or_false, not_or] at nb
        exact mv b o nb.1 (k7 b o nb.1 nb.2.1 nb.2.2.1 nb.2.2.2 hb)
      · simp only [List.mem_cons, List.not_mem_nil, or_false] at hb
        exact fp b (by simp only [List.mem_cons, List.not_mem_nil, or_false]; rcases hb with h | h | h | h <;> simp [h])
      · exact ⟨by show 2 ≤ sizeLine; decide, _, .cons ry (.cons ⟨uu, rfl⟩ .nil), ⟨_, mv _ _ nz k5, rfl, _, rfl⟩⟩
    · rw [I.list_inj hys hq]; exact hy
    · exact mv _ _ ap.TIz (k7 _ _ ap.TIz ap.TITO ap.TIi1 ap.TIi2 h2)
    · exact ⟨_, _, mv _ _ ap.TOz k2⟩
    · exact k3.1.at fun o ho => mv _ _ ap.i1z ho
    · obtain ⟨o, g1, g2, g3⟩ := k4
      exact ⟨o, mv _ _ ap.i2z g1, g2, g3⟩
    · have hne : b ≠ s.heap.objs.size := by
        have hlt : b < s.heap.objs.size := by
          simp only [List.mem_cons, List.not_mem_nil, or_false] at hb
          obtain ⟨o4, q4, _⟩ := h4
          obtain ⟨o5, q5, _⟩ := h5
          rcases hb with rfl | rfl | rfl | rfl | rfl
          · exact Heap.lt_size h1
          · exact Heap.lt_size h2
          · exact Heap.lt_size h3
          · exact Heap.lt_size q4
          · exact Heap.lt_size q5
        exact Nat.ne_of_lt hlt
      rw [upd_ne hne]
      exact (fp b hb).1
  done := by
    rintro X rfl rfl rfl calm i pins s σ H E I fp ⟨h1, h2, ⟨u, v, h3⟩, h4, h5⟩ ⟨xs, hq, hl1, hl2, hor⟩
    obtain ⟨its, rv, ht, hl⟩ := I.list hq
    have hd := I.ok.hd calm
    have D1 := Draws.list (prog := X.prog) (w := X.w) (A := X.A.in1) hd i1 a ap.l1i1 its.toArray
    have D2 := Draws.text (prog := X.prog) (w := X.w) (A := X.A.in1) hd i2 x t
    have hs : its.toArray.size = xs.length := by rw [List.size_toArray, ← rv.length]
    refine wpAny_pyNext_zipD2_end (sep2 ap) D1 D2 h1 h2 h3 ⟨h4, ht.isList⟩ h5 (by omega) hl2 (by omega) fun h' tk k => ⟨rfl, ?_⟩
    refine I.turnedL (ch := [z, TO, i1, i2]) (fun b o nb hb => ?_) (fun b hb => ?_)
    · simp only [List.mem_cons, List.not_mem_nil, or_false, not_or] at nb
      exact k b o nb.1 nb.2.1 nb.2.2.1 nb.2.2.2 hb
    · simp only [List.mem_cons, List.not_mem_nil, or_false] at hb
      exact fp b (by simp only [List.mem_cons, List.not_mem_nil, or_false]; rcases hb with h | h | h | h <;> simp [h])
  self := by
    rintro A i s Q E ⟨h1, _⟩ q
    exact wpAny_pyIter_zip h1 q

def iZipLS (K : PySem.W.Frag) (ta : TA) : TI := fun σ H R => ta σ H fun vs H1 => ∃ (a : Addr) (xs : List V) (x : Str), vs = [.ref a, .str x] ∧ SqL K H1 a xs ∧ R (ItzLS K a x) H1
theorem pi_zipLS {X : Cx} {e e2 : Expr} {ta : TA} {p pos tpos : Pos} {elts : List Expr} {kk : Nat} (g1 : Gl X "zip") (g2 : X.mg "zip" = none) (ha : PA X [e, e2] ta)
    (hs : starEach [e, e2] X.env = (false, eval e X.env) :: starEach [e2] X.env) (hs2 : ((backTo pos (starEach [e2] X.env)).any fun x => x.1) = false) :
    PI X (.Tuple elts kk tpos) (.Call (.Name "zip" p) [e, e2] [] pos) (iZipLS X.K ta) := by
  refine ⟨fun pins s σ H R I h => ?_⟩
  refine Call_ (ld_blt I g1 g2 boot_zip ?_)
  refine PyProof.Rows.callWith_type1 (T := "zip") (e := e) (rest := [e2]) ?_ hs hs2
  refine thn (ha.run pos pins s σ H _ I h) fun us s1 hh => ?_
  obtain ⟨vs, H1, I1, rv, a, xs, x, ev', hq, r⟩ := hh
  subst ev'
  obtain ⟨its, ri, ht, hl⟩ := I1.list hq
  match us, rv with
  | [u1, u2], .cons q1 (.cons q2 .nil) =>
    cases q1
    obtain ⟨t, rfl⟩ := q2
    refine zip_begins2 (begins_list a its.toArray) (begins_text x t) (ht.isList) trivial fun h' k1 k2 k3 k4 k5 k6 k7 => ?_
    refine wpAny_pyIter_zip k1 ?_
    have la : a < s1.heap.objs.size := by
      obtain ⟨o, g, _⟩ := ht.isList
      exact Heap.lt_size g
    have I2 := I1.kept (h' := h') (t' := s1.toks) (fun b u hb => k7 b u hb)
    have fpk : ∀ b, s1.heap.objs.size ≤ b → FpOk X pins H1 b := fun b hb => I1.fpOk hb (I1.hok.fresh hb)
    refine ⟨_, [s1.heap.objs.size + 4, s1.heap.objs.size + 2, s1.heap.objs.size + 3, s1.heap.objs.size, s1.heap.objs.size + 1], _, ItzLS X.K a x, H1, rfl, I2,
      turn_zipLS (a := a) (x := x) (t := t) (z := s1.heap.objs.size + 4) (TI := s1.heap.objs.size + 2) (TO := s1.heap.objs.size + 3) (i1 := s1.heap.objs.size) (i2 := s1.heap.objs.size + 1)
        (apart5 s1.heap.objs.size a la),
      ⟨k1, k2, ⟨_, _, k3⟩, ⟨_, k4, rfl, rfl⟩, ⟨_, k5, rfl, rfl⟩⟩, fun b hb => ?_, r⟩
    simp only [List.mem_cons, List.not_mem_nil, or_false] at hb
    rcases hb with rfl | rfl | rfl | rfl | rfl
    · exact fpk _ (Nat.le_add_right _ _)
    · exact fpk _ (Nat.le_add_right _ _)
    · exact fpk _ (Nat.le_add_right _ _)
    · exact fpk _ (Nat.le_refl _)
    · exact fpk _ (Nat.le_add_right _ _)
theorem it_zipLS {K : PySem.W.Frag} {ρ : List Addr} {H : Hp} {n : Nat} {A : Addr} {ys : List D} {x : Str} (hA : ρ[n]? = some A) :
    ItOk K ρ H (zipF ys (x.cps.toList.map fun c => D.str ⟨#[c]⟩)) [.tup [.ref n, .tup ys]] (ItzLS K A x) := by
  intro ρ2 S2 H2 p2 g2 s2 hc i
  obtain ⟨vs, hq, r⟩ := src_list (H := H) (S := S2) hA p2 s2 hc
  refine ⟨fun e => ⟨vs, hq, ?_⟩, fun d hd => ?_⟩
  · rw [zipF_len] at e
    simp only [List.length_map, Array.length_toList] at e
    rw [r.length]; omega
  obtain ⟨f, g, hf, hg, ed⟩ := zipF_get ys _ i d hd
  obtain ⟨v, hv, rv⟩ := r.get hf
  rw [List.getElem?_map] at hg
  cases hx : x.cps.toList[i]? with
  | none => rw [hx] at hg; cases hg
  | some c =>
    rw [hx] at hg
    simp only [Option.map_some, Option.some.injEq] at hg
    subst hg
    have hx' : x.cps[i]? = some c := by rw [← Array.getElem?_toList]; exact hx
    have hi : i < x.cps.size := by
      have := (List.getElem?_eq_some_iff.mp hx).1
      simpa using this
    refine ⟨⟨vs, v, hq, hv, hi⟩, fun u H3 hy => ?_⟩
    obtain ⟨T, y, c', ex, hT, eH, hy1, hy2⟩ := hy
    have q := hy1 vs hq
    rw [hv] at q
    rw [hx'] at hy2
    cases q; cases hy2
    subst ex; subst eH; subst ed
    exact ⟨Gro.new hT, s2.tup hT, .tup (SqT.of upd_same) (.cons (rv.mono (Gro.new hT) (Pre.refl _)) (.cons (.str _) .nil))⟩
end Tm

set_option Elab.async false
set_option linter.all false
set_option maxRecDepth 100000
set_option maxHeartbeats 4000000
namespace Tm
open PySem PySem.Spec PyProof.Rows L2
/-! ## zip of a text and a tuple -/
def ItzST (K : PySem.W.Frag) (a : Addr) (x : Str) : It where
  go := fun i H => ∃ (xs : List V) (y : V), SqT K H a xs ∧ xs[i]? = some y ∧ i < x.cps.size
  yld := fun i H v H' => ∃ (T : Addr) (y : V) (c : Nat), v = .ref T ∧ H T = none ∧ H' = upd H T (.tup [.str ⟨#[c]⟩, y]) ∧ (∀ xs, SqT K H a xs → xs[i]? = some y) ∧ x.cps[i]? = some c
  stop := fun i H => ∃ xs, SqT K H a xs ∧ i ≤ xs.length ∧ i ≤ x.cps.size ∧ (i = xs.length ∨ i = x.cps.size)
theorem sep2t {z TI TO i1 i2 a : Addr} (ap : ZipApart z TI TO i1 i2 a a) : ZipSep2 z TI TO i1 i2 [i1] [i2, a] where
  TIz := ap.TIz
  TOz := ap.TOz
  TITO := ap.TITO
  TIi1 := ap.TIi1
  mem1 := by simp
  zf1 := by simp [ap.i1z.symm]
  Tf1 := by simp [ap.TOi1]
  TIi2 := ap.TIi2
  mem2 := by simp
  zf2 := by simp [ap.i2z.symm, ap.l1z.symm]
  Tf2 := by simp [ap.TOi2, ap.l1TO.symm]
  sep1_2 := by simp [ap.i12, ap.l1i1.symm]
  sep2_1 := by simp [ap.i12.symm, ap.l1i1]
theorem turn_zipST {P : Program} {w : World} {K : PySem.W.Frag} {elts : List Expr} {kk : Nat} {tpos : Pos} {a z TI TO i1 i2 : Addr} {x : Str} {t : Tok} (ap : ZipApart z TI TO i1 i2 a a) :
    Turn P w K (Expr.Tuple elts kk tpos) (ItzST K a x) [z, TI, TO, i1, i2] z fun i h =>
      IsZip h z TI TO Value.none ∧ IsTupOf2 h TI (.ref i1) (.ref i2) ∧ (∃ u v, IsTupOf2 h TO u v) ∧ h.IsStrIter i1 (strIterType x) x t i ∧ h.IsTupleIter i2 a i where
  mem := by simp
  obj := by
    rintro i h ⟨h1, h2, ⟨u, v, h3⟩, ⟨o4, h4, c4, d4⟩, ⟨o5, h5, c5, d5⟩⟩ b hb
    simp only [List.mem_cons, List.not_mem_nil, or_false] at hb
    rcases hb with rfl | rfl | rfl | rfl | rfl
    · exact ⟨_, h1, fun v e => by cases e⟩
    · exact ⟨_, h2, fun v e => by cases e⟩
    · exact ⟨_, h3, fun v e => by cases e⟩
    · exact ⟨_, h4, fun v e => by rw [d4] at e; cases e⟩
    · exact ⟨_, h5, fun v e => by rw [d5] at e; cases e⟩
  keep := by
    rintro i h h' ⟨h1, h2, ⟨u, v, h3⟩, ⟨o4, h4, c4, d4⟩, ⟨o5, h5, c5, d5⟩⟩ k
    exact ⟨k _ (by simp) _ h1, k _ (by simp) _ h2, ⟨u, v, k _ (by simp) _ h3⟩, ⟨o4, k _ (by simp) _ h4, c4, d4⟩, ⟨o5, k _ (by simp) _ h5, c5, d5⟩⟩
  item := by
    rintro X rfl rfl rfl calm i pins s σ H E I fp ⟨h1, h2, ⟨u, v, h3⟩, h4, h5⟩ ⟨xs, y, hq, hy, hi⟩
    obtain ⟨its, rv, ht, hl⟩ := I.tuple hq
    have hd := I.ok.hd calm
    have D2 := Draws.tuple (prog := X.prog) (w := X.w) (A := X.A.in1) hd i2 a ap.l1i2 its.toArray
    have D1 := Draws.text (prog := X.prog) (w := X.w) (A := X.A.in1) hd i1 x t
    have hlen : i < its.toArray.size := by
      rw [List.size_toArray, ← rv.length]
      exact (List.getElem?_eq_some_iff.mp hy).1
    refine wpAny_pyNext_zipD2_item (sep2t ap) D1 D2 h1 h2 h3 h4 ⟨h5, istup_tuple ht⟩ hi hlen fun x1 x2 h' tk p1 p2 k1 k2 k3 k4 k5 k6 k7 => ?_
    obtain ⟨c, uu, hc, rfl⟩ := p1
    refine ⟨_, rfl, ?_⟩
    refine wpAny_letOwnedTupleGo_zip k1 fun h2' m1 m2 => ?_
    obtain ⟨y', hy', ry⟩ := rv.get hy
    have ex1 : y' = x2 := by
      rw [List.getElem?_toArray] at p2
      rw [p2] at hy'
      exact (Option.some.inj hy').symm
    subst ex1
    have mv : ∀ (b : Addr) (o : Obj), b ≠ z → h'.get? b = some o → h2'.get? b = some o := fun b o nb hb => (m2.2 b nb).trans hb
    have nz : s.heap.objs.size ≠ z := fun e => by have := Heap.lt_size h1; rw [← e] at this; exact absurd this (Nat.lt_irrefl _)
    have fT : H s.heap.objs.size = none := I.hok.fresh (Nat.le_refl _)
    refine ⟨.ref s.heap.objs.size, upd H s.heap.objs.size (.tup [.str ⟨#[c]⟩, y]), ?_, rfl, ⟨_, y, c, rfl, fT, rfl, fun ys hys => ?_, hc⟩, ⟨m1, ?_, ?_, ?_, ?_⟩, fun b hb => ?_⟩
    · refine I.turnedNew (ch := [z, TO, i1, i2]) (fun b o nb hb => ?_) (fun b hb => ?_) (Nat.le_refl _) ?_
      · simp only [List.mem_cons, List.not_mem_nil, or_false, not_or] at nb
        exact mv b o nb.1 (k7 b o nb.1 nb.2.1 nb.2.2.1 nb.2.2.2 hb)
      · simp only [List.mem_cons, List.not_mem_nil, or_false] at hb
        exact fp b (by simp only [List.mem_cons, List.not_mem_nil, or_false]; rcases hb with h | h | h | h <;> simp [h])
      · exact ⟨by show 2 ≤ sizeLine; decide, _, .cons ⟨uu, rfl⟩ (.cons ry .nil), ⟨_, mv _ _ nz k5, rfl, _, rfl⟩⟩
    · rw [I.tuple_inj hys hq]; exact hy
    · exact mv _ _ ap.TIz (k7 _ _ ap.TIz ap.TITO ap.TIi1 ap.TIi2 h2)
    · exact ⟨_, _, mv _ _ ap.TOz k2⟩
    · obtain ⟨o, g1, g2, g3⟩ := k3
      exact ⟨o, mv _ _ ap.i1z g1, g2, g3⟩
    · exact k4.1.at fun o ho => mv _ _ ap.i2z ho
    · have hne : b ≠ s.heap.objs.size := by
        have hlt : b < s.heap.objs.size := by
          simp only [List.mem_cons, List.not_mem_nil, or_false] at hb
          obtain ⟨o4, q4, _⟩ := h4
          obtain ⟨o5, q5, _⟩ := h5
          rcases hb with rfl | rfl | rfl | rfl | rfl
          · exact Heap.lt_size h1
          · exact Heap.lt_size h2
          · exact Heap.lt_size h3
          · exact Heap.lt_size q4
          · exact Heap.lt_size q5
        exact Nat.ne_of_lt hlt
      rw [upd_ne hne]
      exact (fp b hb).1
  done := by
    rintro X rfl rfl rfl calm i pins s σ H E I fp ⟨h1, h2, ⟨u, v, h3⟩, h4, h5⟩ ⟨xs, hq, hl1, hl2, hor⟩
    obtain ⟨its, rv, ht, hl⟩ := I.tuple hq
    have hd := I.ok.hd calm
    have D2 := Draws.tuple (prog := X.prog) (w := X.w) (A := X.A.in1) hd i2 a ap.l1i2 its.toArray
    have D1 := Draws.text (prog := X.prog) (w := X.w) (A := X.A.in1) hd i1 x t
    have hs : its.toArray.size = xs.length := by rw [List.size_toArray, ← rv.length]
    refine wpAny_pyNext_zipD2_end (sep2t ap) D1 D2 h1 h2 h3 h4 ⟨h5, istup_tuple ht⟩ hl2 (by omega) (by omega) fun h' tk k => ⟨rfl, ?_⟩
    refine I.turnedL (ch := [z, TO, i1, i2]) (fun b o nb hb => ?_) (fun b hb => ?_)
    · simp only [List.mem_cons, List.not_mem_nil, or_false, not_or] at nb
      exact k b o nb.1 nb.2.1 nb.2.2.1 nb.2.2.2 hb
    · simp only [List.mem_cons, List.not_mem_nil, or_false] at hb
      exact fp b (by simp only [List.mem_cons, List.not_mem_nil, or_false]; rcases hb with h | h | h | h <;> simp [h])
  self := by
    rintro A i s Q E ⟨h1, _⟩ q
    exact wpAny_pyIter_zip h1 q

def iZipST (K : PySem.W.Frag) (ta : TA) : TI := fun σ H R => ta σ H fun vs H1 => ∃ (a : Addr) (xs : List V) (x : Str), vs = [.str x, .ref a] ∧ SqT K H1 a xs ∧ R (ItzST K a x) H1
theorem pi_zipST {X : Cx} {e e2 : Expr} {ta : TA} {p pos tpos : Pos} {elts : List Expr} {kk : Nat} (g1 : Gl X "zip") (g2 : X.mg "zip" = none) (ha : PA X [e, e2] ta)
    (hs : starEach [e, e2] X.env = (false, eval e X.env) :: starEach [e2] X.env) (hs2 : ((backTo pos (starEach [e2] X.env)).any fun x => x.1) = false) :
    PI X (.Tuple elts kk tpos) (.Call (.Name "zip" p) [e, e2] [] pos) (iZipST X.K ta) := by
  refine ⟨fun pins s σ H R I h => ?_⟩
  refine Call_ (ld_blt I g1 g2 boot_zip ?_)
  refine PyProof.Rows.callWith_type1 (T := "zip") (e := e) (rest := [e2]) ?_ hs hs2
  refine thn (ha.run pos pins s σ H _ I h) fun us s1 hh => ?_
  obtain ⟨vs, H1, I1, rv, a, xs, x, ev', hq, r⟩ := hh
  subst ev'
  obtain ⟨its, ri, ht, hl⟩ := I1.tuple hq
  match us, rv with
  | [u1, u2], .cons q1 (.cons q2 .nil) =>
    cases q2
    obtain ⟨t, rfl⟩ := q1
    refine zip_begins2 (begins_text x t) (begins_tuple a its.toArray) trivial (istup_tuple ht) fun h' k1 k2 k3 k4 k5 k6 k7 => ?_
    refine wpAny_pyIter_zip k1 ?_
    have la : a < s1.heap.objs.size := by
      obtain ⟨o, g, _⟩ := ht
      exact Heap.lt_size g
    have I2 := I1.kept (h' := h') (t' := s1.toks) (fun b u hb => k7 b u hb)
    have fpk : ∀ b, s1.heap.objs.size ≤ b → FpOk X pins H1 b := fun b hb => I1.fpOk hb (I1.hok.fresh hb)
    refine ⟨_, [s1.heap.objs.size + 4, s1.heap.objs.size + 2, s1.heap.objs.size + 3, s1.heap.objs.size, s1.heap.objs.size + 1], _, ItzST X.K a x, H1, rfl, I2,
      turn_zipST (a := a) (x := x) (t := t) (z := s1.heap.objs.size + 4) (TI := s1.heap.objs.size + 2) (TO := s1.heap.objs.size + 3) (i1 := s1.heap.objs.size) (i2 := s1.heap.objs.size + 1)
        (apart5 s1.heap.objs.size a la),
      ⟨k1, k2, ⟨_, _, k3⟩, ⟨_, k4, rfl, rfl⟩, ⟨_, k5, rfl, rfl⟩⟩, fun b hb => ?_, r⟩
    simp only [List.mem_cons, List.not_mem_nil, or_false] at hb
    rcases hb with rfl | rfl | rfl | rfl | rfl
    · exact fpk _ (Nat.le_add_right _ _)
    · exact fpk _ (Nat.le_add_right _ _)
    · exact fpk _ (Nat.le_add_right _ _)
    · exact fpk _ (Nat.le_refl _)
    · exact fpk _ (Nat.le_add_right _ _)
theorem it_zipST {K : PySem.W.Frag} {ρ : List Addr} {H : Hp} {A : Addr} {vs : List V} {ys cks : List D} {x : Str} (hq : SqT K H A vs) (r : Reps K ρ H vs ys) :
    ItOk K ρ H (zipF (x.cps.toList.map fun c => D.str ⟨#[c]⟩) ys) cks (ItzST K A x) := by
  intro ρ2 S2 H2 p2 g2 s2 hc i
  have hq := g2.sqt hq
  have r := r.mono g2 p2
  refine ⟨fun e => ⟨vs, hq, ?_⟩, fun d hd => ?_⟩
  · rw [zipF_len] at e
    simp only [List.length_map, Array.length_toList] at e
    rw [r.length]; omega
  obtain ⟨g, f, hg, hf, ed⟩ := zipF_get _ ys i d hd
  obtain ⟨v, hv, rv⟩ := r.get hf
  rw [List.getElem?_map] at hg
  cases hx : x.cps.toList[i]? with
  | none => rw [hx] at hg; cases hg
  | some c =>
    rw [hx] at hg
    simp only [Option.map_some, Option.some.injEq] at hg
    subst hg
    have hx' : x.cps[i]? = some c := by rw [← Array.getElem?_toList]; exact hx
    have hi : i < x.cps.size := by
      have := (List.getElem?_eq_some_iff.mp hx).1
      simpa using this
    refine ⟨⟨vs, v, hq, hv, hi⟩, fun u H3 hy => ?_⟩
    obtain ⟨T, y, c', ex, hT, eH, hy1, hy2⟩ := hy
    have q := hy1 vs hq
    rw [hv] at q
    rw [hx'] at hy2
    cases q; cases hy2
    subst ex; subst eH; subst ed
    exact ⟨Gro.new hT, s2.tup hT, .tup (SqT.of upd_same) (.cons (.str _) (.cons (rv.mono (Gro.new hT) (Pre.refl _)) .nil))⟩
end Tm

set_option Elab.async false
set_option linter.all false
set_option maxRecDepth 100000
set_option maxHeartbeats 4000000
namespace Tm
open PySem PySem.Spec PyProof.Rows L2
section
variable {X : Cx} {p : Pm} {c : Cc} {k : Nat} {tg e a b d : Expr} {es : List Expr} {ca cb cd : C} {pos : Pos}
theorem k_ibad : PI X tg e (tI p X.K .bad) := ⟨fun _ _ _ _ _ _ h => by obtain ⟨_, _, _, _, _, _, _, _, h, _⟩ := h; exact (none_bad h).elim⟩
theorem PI.or {t t' : TI} (h : PI X tg e t) (h' : PI X tg e t') : PI X tg e (fun σ H R => t σ H R ∨ t' σ H R) := ⟨fun pins s σ H R I q => q.elim (h.run pins s σ H R I) (h'.run pins s σ H R I)⟩
theorem itD_inj {x1 x2 y1 y2 : List D} (h : itD x1 x2 = itD y1 y2) : x1 = y1 ∧ x2 = y2 := by
  unfold itD at h
  injection h with h
  injection h with h1 h2
  injection h2 with h2 _
  injection h1 with h1
  injection h2 with h2
  exact ⟨h1, h2⟩
theorem it_str {K : PySem.W.Frag} {ρ : List Addr} {H : Hp} {z : Str} {cks : List D} : ItOk K ρ H (charsD z) cks (Its z) := by
  intro ρ2 S2 H2 p2 g2 s2 hc i
  refine ⟨fun e => ?_, fun d hd => ?_⟩
  · have : z.cps.size ≤ i := by
      have q := e
      simp only [charsD, List.length_map, Array.length_toList] at q
      omega
    exact this
  simp only [charsD, List.getElem?_map, Option.map_eq_some_iff] at hd
  obtain ⟨c, hc1, rfl⟩ := hd
  have hx' : z.cps[i]? = some c := by rw [← Array.getElem?_toList]; exact hc1
  have hi : i < z.cps.size := by
    have := (List.getElem?_eq_some_iff.mp hc1).1
    simpa using this
  refine ⟨hi, fun u H3 hy => ?_⟩
  obtain ⟨e, c', hc', eu⟩ := hy
  subst e
  rw [hx'] at hc'
  cases hc'
  subst eu
  exact ⟨Gro.refl _, s2, .str _⟩
/-- over a value: a list, a tuple or a text -/
theorem k_ival (ha : PE X a (tE p X.K ca)) : PI X tg a (tI p X.K (.itv ca)) := by
  have h1 : PI X tg a (fun σ H R => tI p X.K (.itv ca) σ H R ∧ ∃ ρ S e n S', Sim X.K ρ S H ∧ EnvR X.K ρ H e σ ∧ ev p ca e S = some (.ref n, S')) → True := fun _ => trivial
  refine ⟨fun pins s σ H R I h => ?_⟩
  obtain ⟨ρ, S, e, items, cks, S', sm, en, h, q⟩ := h
  simp only [ev, Option.bind_eq_some_iff, Option.map_eq_some_iff] at h
  obtain ⟨⟨d1, S1⟩, h1, ⟨r1, r2⟩, h2, h3⟩ := h
  simp only [Prod.mk.injEq] at h3
  obtain ⟨h3, h4⟩ := h3
  obtain ⟨e1, e2⟩ := itD_inj h3
  subst e1; subst e2; subst h4
  cases d1 with
  | tup ys =>
    simp only [itOf, Option.some.injEq, Prod.mk.injEq] at h2
    obtain ⟨e1, e2⟩ := h2
    subst e1; subst e2
    refine (pi_tup (tg := tg) ha).run pins s σ H R I (st1 sm en h1 fun ρ1 H1 v p1 g1 s1 e1 r1 => ?_)
    obtain ⟨A, vs, ev1, hq, hr⟩ := rep_tup r1
    exact ⟨A, ev1, ⟨vs, hq⟩, q ρ1 H1 _ p1 g1 s1 (it_tup hq hr)⟩
  | ref n =>
    simp only [itOf, Option.map_eq_some_iff, Prod.mk.injEq] at h2
    obtain ⟨ys, hl, e1, e2⟩ := h2
    subst e1; subst e2
    refine (pi_list (tg := tg) ha).run pins s σ H R I (st1 sm en h1 fun ρ1 H1 v p1 g1 s1 e1 r1 => ?_)
    obtain ⟨A, ev1, hA⟩ := rep_ref r1
    obtain ⟨vs, hq, hr⟩ := s1.list hl hA
    exact ⟨A, ev1, ⟨vs, hq⟩, q ρ1 H1 _ p1 g1 s1 (it_list hA)⟩
  | str z =>
    simp only [itOf, Option.some.injEq, Prod.mk.injEq] at h2
    obtain ⟨e1, e2⟩ := h2
    subst e1; subst e2
    refine (pi_str (tg := tg) ha).run pins s σ H R I (st1 sm en h1 fun ρ1 H1 v p1 g1 s1 e1 r1 => ?_)
    cases r1
    exact ⟨z, rfl, q ρ1 H1 _ p1 g1 s1 it_str⟩
  | _ => simp [itOf] at h2
theorem k_irng1 (M : Mat X p c k) {px : Pos} (hg : bltB c ("range" : Str) = true) (hs : notStar a = true) (ha : PA X [a] (tA p X.K ca)) (hl : ∀ e S ds S', ev p ca e S = some (.tup ds, S') → ds.length = 1) :
    PI X tg (.Call (.Name "range" px) [a] [] pos) (tI p X.K (.irng ca)) := by
  obtain ⟨g1, g2, g3⟩ := M.bl hg
  refine PI.imp (pi_range1 (tg := tg) g1 g2 ha (star1 hs _ _)) fun σ H R h => ?_
  obtain ⟨ρ, S, e, items, cks, S', sm, en, h, q⟩ := h
  simp only [ev, Option.bind_eq_some_iff] at h
  obtain ⟨⟨d1, S1⟩, h1, h2⟩ := h
  split at h2
  · rename_i ds hd
    simp only at hd
    subst hd
    simp only [Option.map_eq_some_iff, Prod.mk.injEq] at h2
    obtain ⟨r, hr, h3, h4⟩ := h2
    obtain ⟨e1, e2⟩ := itD_inj h3
    subst e1; subst e2; subst h4
    have hz := hl _ _ _ _ h1
    match ds, hz with
    | [d], _ =>
      refine stA sm en h1 fun ρ1 H1 vs p1 g1 s1 e1 r1 => ?_
      cases r1 with
      | cons r1 r2 =>
        cases r2
        cases r1 <;> simp only [rngs, reduceCtorEq] at hr
        split at hr
        · rename_i hz
          cases hr
          simp only [Bool.and_eq_true, decide_eq_true_eq] at hz
          exact ⟨_, rfl, hz.1, hz.2, q ρ1 H1 _ p1 g1 s1 it_rng⟩
        · cases hr
  · cases h2
theorem k_irng2 (M : Mat X p c k) {px : Pos} (hg : bltB c ("range" : Str) = true) (hs : notStar a = true) (hs2 : notStar b = true) (ha : PA X [a, b] (tA p X.K ca)) (hl : ∀ e S ds S', ev p ca e S = some (.tup ds, S') → ds.length = 2) :
    PI X tg (.Call (.Name "range" px) [a, b] [] pos) (tI p X.K (.irng ca)) := by
  obtain ⟨g1, g2, g3⟩ := M.bl hg
  refine PI.imp (pi_range2 (tg := tg) g1 g2 ha (by rw [star1 hs, star1 hs2]; rfl) (star1 hs2 _ _)) fun σ H R h => ?_
  obtain ⟨ρ, S, e, items, cks, S', sm, en, h, q⟩ := h
  simp only [ev, Option.bind_eq_some_iff] at h
  obtain ⟨⟨d1, S1⟩, h1, h2⟩ := h
  split at h2
  · rename_i ds hd
    simp only at hd
    subst hd
    simp only [Option.map_eq_some_iff, Prod.mk.injEq] at h2
    obtain ⟨r, hr, h3, h4⟩ := h2
    obtain ⟨e1, e2⟩ := itD_inj h3
    subst e1; subst e2; subst h4
    have hz := hl _ _ _ _ h1
    match ds, hz with
    | [d, f], _ =>
      refine stA sm en h1 fun ρ1 H1 vs p1 g1 s1 e1 r1 => ?_
      cases r1 with
      | cons r1 r2 =>
        cases r2 with
        | cons r2 r3 =>
          cases r3
          cases r1 <;> cases r2 <;> simp only [rngs, reduceCtorEq] at hr
          split at hr
          · rename_i hz
            cases hr
            simp only [Bool.and_eq_true, decide_eq_true_eq] at hz
            exact ⟨_, _, rfl, ⟨hz.1.1.1, hz.1.1.2, hz.1.2, hz.2⟩, q ρ1 H1 _ p1 g1 s1 it_rng⟩
          · cases hr
  · cases h2
theorem k_irev (M : Mat X p c k) {px : Pos} (hg : bltB c ("reversed" : Str) = true) (hs : notStar a = true) (ha : PE X a (tE p X.K ca)) : PI X tg (.Call (.Name "reversed" px) [a] [] pos) (tI p X.K (.irev ca)) := by
  obtain ⟨g1, g2, g3⟩ := M.bl hg
  refine PI.imp (RT.pi_revA (tg := tg) g1 g2 ha (star1 hs _ _)) fun σ H R h => ?_
  obtain ⟨ρ, S, e, items, cks, S', sm, en, h, q⟩ := h
  simp only [ev, Option.bind_eq_some_iff, Option.map_eq_some_iff] at h
  obtain ⟨⟨d1, S1⟩, h1, ⟨r1, r2⟩, h2, h3⟩ := h
  simp only [Prod.mk.injEq] at h3
  obtain ⟨h3, h4⟩ := h3
  obtain ⟨e1, e2⟩ := itD_inj h3
  subst e1; subst e2; subst h4
  cases d1 with
  | tup ys =>
    simp only [itOfR, Option.some.injEq, Prod.mk.injEq] at h2
    obtain ⟨e1, e2⟩ := h2
    subst e1; subst e2
    refine st1 sm en h1 fun ρ1 H1 v p1 g1 s1 e1 r1 => ?_
    obtain ⟨A, vs, ev1, hq, hr⟩ := rep_tup r1
    exact ⟨A, vs, ev1, .inr ⟨hq, q ρ1 H1 _ p1 g1 s1 (it_revT hr.length hq hr)⟩⟩
  | ref n =>
    simp only [itOfR, Option.map_eq_some_iff, Prod.mk.injEq] at h2
    obtain ⟨ys, hl, e1, e2⟩ := h2
    subst e1; subst e2
    refine st1 sm en h1 fun ρ1 H1 v p1 g1 s1 e1 r1 => ?_
    obtain ⟨A, ev1, hA⟩ := rep_ref r1
    obtain ⟨vs, hq, hr⟩ := s1.list hl hA
    exact ⟨A, vs, ev1, .inl ⟨hq, q ρ1 H1 _ p1 g1 s1 (it_revL hr.length hA)⟩⟩
  | _ => simp [itOfR] at h2
theorem k_ienum (M : Mat X p c k) {px : Pos} (ht : isTup tg = true) (hg : bltB c ("enumerate" : Str) = true) (hs : notStar a = true) (ha : PE X a (tE p X.K ca)) : PI X tg (.Call (.Name "enumerate" px) [a] [] pos) (tI p X.K (.ienum ca)) := by
  obtain ⟨g1, g2, g3⟩ := M.bl hg
  cases tg with
  | Tuple elts kk tpos =>
    refine PI.imp (pi_enum (tpos := tpos) (elts := elts) (kk := kk) g1 g2 (pa_cons ha pa_nil (star1 hs _ _)) (star1 hs _ _)) fun σ H R h => ?_
    obtain ⟨ρ, S, e, items, cks, S', sm, en, h, q⟩ := h
    simp only [ev, Option.bind_eq_some_iff, Option.map_eq_some_iff] at h
    obtain ⟨⟨d1, S1⟩, h1, ⟨r1, r2⟩, h2, h3⟩ := h
    simp only [Prod.mk.injEq] at h3
    obtain ⟨h3, h4⟩ := h3
    obtain ⟨e1, e2⟩ := itD_inj h3
    subst e1; subst e2; subst h4
    cases d1 with
    | ref n =>
      simp only [itOfL, Option.map_eq_some_iff, Prod.mk.injEq] at h2
      obtain ⟨ys, hl, e1, e2⟩ := h2
      subst e1; subst e2
      refine st1 sm en h1 fun ρ1 H1 v p1 g1 s1 e1 r1 => ?_
      obtain ⟨A, ev1, hA⟩ := rep_ref r1
      obtain ⟨vs, hq, hr⟩ := s1.list hl hA
      subst ev1
      exact ⟨A, vs, rfl, hq, q ρ1 H1 _ p1 g1 s1 (it_enum hA)⟩
    | _ => simp [itOfL] at h2
  | _ => simp [isTup] at ht
theorem k_izip (M : Mat X p c k) {px : Pos} (ht : isTup tg = true) (hg : bltB c ("zip" : Str) = true) (hs : notStar a = true) (hs2 : notStar b = true) (ha : PE X a (tE p X.K ca)) (hb : PE X b (tE p X.K cb)) :
    PI X tg (.Call (.Name "zip" px) [a, b] [] pos) (tI p X.K (.izip ca cb)) := by
  obtain ⟨g1, g2, g3⟩ := M.bl hg
  cases tg with
  | Tuple elts kk tpos =>
    refine ⟨fun pins s0 σ H R I h => ?_⟩
    obtain ⟨ρ, S, e, items, cks, S', sm, en, h, q⟩ := h
    simp only [ev, Option.bind_eq_some_iff] at h
    obtain ⟨⟨d1, S1⟩, h1, ⟨d2, S2⟩, h2, h⟩ := h
    split at h
    · rename_i xs ys e1 e2
      simp only at e1 e2
      subst e1; subst e2
      simp only [Option.some.injEq, Prod.mk.injEq] at h
      obtain ⟨h3, h4⟩ := h
      obtain ⟨e1, e2⟩ := itD_inj h3
      subst e1; subst e2; subst h4
      refine (RZ.pi_zipA (tpos := tpos) (elts := elts) (kk := kk) g1 g2 (pa_cons ha (pa_cons hb pa_nil (star1 hs2 _ _)) (star1 hs _ _)) (star1 hs _ _) (by rw [star1 hs2]; rfl)).run pins s0 σ H R I ?_
      refine st1 sm en h1 fun ρ1 H1 v p1 g1 s1 en1 r1 => st1 s1 en1 h2 fun ρ2 H2 w p2 g2 s2 en2 r2 => ?_
      obtain ⟨A, vs, ev1, hq, hr⟩ := rep_tup r1
      obtain ⟨B, ws, ev2, hq2, hr2⟩ := rep_tup r2
      subst ev1; subst ev2
      exact ⟨A, B, vs, ws, rfl, .inr ⟨g2.sqt hq, hq2, q ρ2 H2 _ (p1.trans p2) (g1.trans g2) s2 (it_zipT (g2.sqt hq) (hr.mono g2 p2) hq2 hr2)⟩⟩
    · rename_i z xs e1 e2
      simp only at e1 e2
      subst e1; subst e2
      simp only [Option.some.injEq, Prod.mk.injEq] at h
      obtain ⟨h3, h4⟩ := h
      obtain ⟨e1, e2⟩ := itD_inj h3
      subst e1; subst e2; subst h4
      refine (pi_zipST (tpos := tpos) (elts := elts) (kk := kk) g1 g2 (pa_cons ha (pa_cons hb pa_nil (star1 hs2 _ _)) (star1 hs _ _)) (star1 hs _ _) (by rw [star1 hs2]; rfl)).run pins s0 σ H R I ?_
      refine st1 sm en h1 fun ρ1 H1 v p1 g1 s1 en1 r1 => st1 s1 en1 h2 fun ρ2 H2 w p2 g2 s2 en2 r2 => ?_
      cases r1
      obtain ⟨A, vs, ev1, hq, hr⟩ := rep_tup r2
      subst ev1
      exact ⟨A, vs, _, rfl, hq, q ρ2 H2 _ (p1.trans p2) (g1.trans g2) s2 (it_zipST hq hr)⟩
    · rename_i xs z e1 e2
      simp only at e1 e2
      subst e1; subst e2
      simp only [Option.some.injEq, Prod.mk.injEq] at h
      obtain ⟨h3, h4⟩ := h
      obtain ⟨e1, e2⟩ := itD_inj h3
      subst e1; subst e2; subst h4
      refine (pi_zipTS (tpos := tpos) (elts := elts) (kk := kk) g1 g2 (pa_cons ha (pa_cons hb pa_nil (star1 hs2 _ _)) (star1 hs _ _)) (star1 hs _ _) (by rw [star1 hs2]; rfl)).run pins s0 σ H R I ?_
      refine st1 sm en h1 fun ρ1 H1 v p1 g1 s1 en1 r1 => st1 s1 en1 h2 fun ρ2 H2 w p2 g2 s2 en2 r2 => ?_
      obtain ⟨A, vs, ev1, hq, hr⟩ := rep_tup r1
      subst ev1
      cases r2
      exact ⟨A, vs, _, rfl, g2.sqt hq, q ρ2 H2 _ (p1.trans p2) (g1.trans g2) s2 (it_zipTS (g2.sqt hq) (hr.mono g2 p2))⟩
    · rename_i m n e1 e2
      simp only at e1 e2
      subst e1; subst e2
      simp only [Option.bind_eq_some_iff, Option.map_eq_some_iff, Prod.mk.injEq] at h
      obtain ⟨xs, hx, ys, hy, h3, h4⟩ := h
      obtain ⟨e1, e2⟩ := itD_inj h3
      subst e1; subst e2; subst h4
      refine (RZ.pi_zipA (tpos := tpos) (elts := elts) (kk := kk) g1 g2 (pa_cons ha (pa_cons hb pa_nil (star1 hs2 _ _)) (star1 hs _ _)) (star1 hs _ _) (by rw [star1 hs2]; rfl)).run pins s0 σ H R I ?_
      refine st1 sm en h1 fun ρ1 H1 v p1 g1 s1 en1 r1 => st1 s1 en1 h2 fun ρ2 H2 w p2 g2 s2 en2 r2 => ?_
      obtain ⟨A, ev1, hA⟩ := rep_ref r1
      obtain ⟨B, ev2, hB⟩ := rep_ref r2
      subst ev1; subst ev2
      obtain ⟨vs, hq, hr⟩ := s2.list hx (p2 _ _ hA)
      obtain ⟨ws, hq2, hr2⟩ := s2.list hy hB
      exact ⟨A, B, vs, ws, rfl, .inl ⟨hq, hq2, q ρ2 H2 _ (p1.trans p2) (g1.trans g2) s2 (it_zipL (p2 _ _ hA) hB)⟩⟩
    · rename_i m z e1 e2
      simp only at e1 e2
      subst e1; subst e2
      simp only [Option.map_eq_some_iff, Prod.mk.injEq] at h
      obtain ⟨xs, hx, h3, h4⟩ := h
      obtain ⟨e1, e2⟩ := itD_inj h3
      subst e1; subst e2; subst h4
      refine (pi_zipLS (tpos := tpos) (elts := elts) (kk := kk) g1 g2 (pa_cons ha (pa_cons hb pa_nil (star1 hs2 _ _)) (star1 hs _ _)) (star1 hs _ _) (by rw [star1 hs2]; rfl)).run pins s0 σ H R I ?_
      refine st1 sm en h1 fun ρ1 H1 v p1 g1 s1 en1 r1 => st1 s1 en1 h2 fun ρ2 H2 w p2 g2 s2 en2 r2 => ?_
      obtain ⟨A, ev1, hA⟩ := rep_ref r1
      subst ev1
      cases r2
      obtain ⟨vs, hq, hr⟩ := s2.list hx (p2 _ _ hA)
      exact ⟨A, vs, _, rfl, hq, q ρ2 H2 _ (p1.trans p2) (g1.trans g2) s2 (it_zipLS (p2 _ _ hA))⟩
    · cases h
  | _ => simp [isTup] at ht
end
end Tm

set_option Elab.async false
set_option linter.all false
set_option maxRecDepth 100000
set_option maxHeartbeats 4000000
namespace Tm
open PySem PySem.Spec PyProof.Rows L2
section
variable {X : Cx} {p : Pm} {c : Cc} {k : Nat} {tg e a b d it : Expr} {es : List Expr} {ca cb cd ci : C} {pos : Pos}
/-! ## the comprehension -/
/-- the tests of a clause as one -/
def tCond (p : Pm) (K : PySem.W.Frag) (c : C) : TT := tTs p K c
theorem k_ifs0 : PTs X [] (tTs p X.K (.lit (.bl true))) := ⟨fun pins s σ H Q I h => by
  obtain ⟨ρ, S, e, b, S', sm, en, h, q⟩ := h
  simp only [ev, isScal, if_true, Option.some.injEq, Prod.mk.injEq, D.bl.injEq] at h
  obtain ⟨h1, h2⟩ := h
  subst h1; subst h2
  exact pts_nil.run pins s σ H Q I (q ρ H (Pre.refl ρ) (Gro.refl H) sm)⟩
theorem k_ifs1 (h : PT X e (tTs p X.K ca)) : PTs X [e] (tTs p X.K ca) := pts_one h
theorem drop_cons {α : Type} {l : List α} {i : Nat} {x : α} {r : List α} (h : l.drop i = x :: r) : l[i]? = some x ∧ l.drop (i + 1) = r ∧ i < l.length := by
  have hi : i < l.length := by
    by_cases q : i < l.length
    · exact q
    · rw [List.drop_eq_nil_of_le (by omega)] at h; cases h
  rw [List.drop_eq_getElem_cons hi] at h
  injection h with h1 h2
  exact ⟨by rw [List.getElem?_eq_getElem hi, h1], h2, hi⟩
theorem drop_nil {α : Type} {l : List α} {i : Nat} (h : l.drop i = []) (hi : i ≤ l.length) : i = l.length := by
  have := congrArg List.length h
  rw [List.length_drop, List.length_nil] at this
  omega
theorem wipe_at {v : Nat} : ∀ {l : List Nat} (σ : L2.St), v ∈ l → (wipe σ l).set v none = wipe σ l
  | u :: us, σ, h => by
    show ((wipe σ us).set u none).set v none = (wipe σ us).set u none
    by_cases q : u = v
    · rw [q, List.set_set]
    · rw [List.set_comm _ _ q, wipe_at σ ((List.mem_cons.mp h).resolve_left fun z => q z.symm)]
theorem wipe_sub : ∀ (m l : List Nat) (σ : L2.St), (∀ v ∈ m, v ∈ l) → wipe (wipe σ l) m = wipe σ l
  | [], l, σ, _ => rfl
  | v :: vs, l, σ, h => by
    show (wipe (wipe σ l) vs).set v none = wipe σ l
    rw [wipe_sub vs l σ fun u hu => h u (List.mem_cons_of_mem _ hu), wipe_at σ (h v List.mem_cons_self)]
theorem wipe_wipe (l : List Nat) (σ : L2.St) : wipe (wipe σ l) l = wipe σ l := wipe_sub l l σ fun _ h => h
theorem lc_read {K : PySem.W.Frag} {t : Tg} {own : List Nat} (ht : tgIn own t = true) {σ : L2.St} {H : Hp} {Q : VK} (h : tE p K (.lc ci t cb ca own) σ H Q) : tLc (tI p K ci) (tG K t) (tTs p K cb) (tE p K ca) own σ H Q := by
  obtain ⟨ρ, S, e, y, sm, en, h, kq⟩ := h
  simp only [ev, Option.bind_eq_some_iff] at h
  obtain ⟨⟨d1, S1⟩, h1, h2⟩ := h
  split at h2
  · rename_i items cks hd
    simp only at hd
    subst hd
    simp only [Option.map_eq_some_iff] at h2
    obtain ⟨S9, h3, h4⟩ := h2
    subst h4
    refine ⟨ρ, S, e, items, cks, S1, sm, en, h1, fun ρ1 H1 J p1 g1 s1 ok => fun D hD => ?_⟩
    have gD : Gro H1 (upd H1 D (.lst [])) := Gro.new hD
    have sD : Sim K (ρ1 ++ [D]) (S1 ++ [.lst []]) (upd H1 D (.lst [])) := s1.new hD .nil
    have pD : Pre ρ1 (ρ1 ++ [D]) := Pre.app ρ1 D
    have hnD : (ρ1 ++ [D])[S1.length]? = some D := by rw [← s1.len, List.getElem?_append_right (Nat.le_refl _)]; simp
    have enw : ∀ {ρ2 : List Addr} {H2 : Hp}, Pre (ρ1 ++ [D]) ρ2 → Gro (upd H1 D (.lst [])) H2 → EnvR K ρ2 H2 (wipeE e own) (wipe σ own) := fun p2 g2 => ((en.mono (p1.trans (pD.trans p2)) (g1.trans (gD.trans g2))).wipe own)
    refine ⟨fun i m H2 => m = items.length - i ∧ i ≤ items.length ∧ ∃ (ρ2 : List Addr) (S2 : Store), Pre (ρ1 ++ [D]) ρ2 ∧ Gro (upd H1 D (.lst [])) H2 ∧ Sim K ρ2 S2 H2 ∧ lcL (ev p cb) (ev p ca) t cks (wipeE e own) S1.length (items.drop i) S2 = some S9,
      ⟨items.length, by simp, Nat.zero_le _, ρ1 ++ [D], S1 ++ [.lst []], Pre.refl _, Gro.refl _, sD, by simpa using h3⟩, ?_⟩
    rintro i m H2 ⟨rfl, hi, ρ2, S2, p2, g2, s2, h5⟩
    cases hdr : items.drop i with
    | nil =>
      rw [hdr] at h5
      simp only [lcL] at h5
      split at h5
      · rename_i hc
        cases h5
        exact .inl ⟨((ok ρ2 S9 H2 (pD.trans p2) (gD.trans g2) s2 hc) i).1 (drop_nil hdr hi), kq ρ2 H2 _ (p1.trans (pD.trans p2)) (g1.trans (gD.trans g2)) s2 (.ref (p2 _ _ hnD))⟩
      · cases h5
    | cons d r =>
      obtain ⟨hdi, hdr2, hlt⟩ := drop_cons hdr
      rw [hdr] at h5
      simp only [lcL] at h5
      split at h5
      · rename_i hc
        obtain ⟨go, yl⟩ := ((ok ρ2 S2 H2 (pD.trans p2) (gD.trans g2) s2 hc) i).2 d hdi
        simp only [Option.bind_eq_some_iff] at h5
        obtain ⟨e1, hb, ⟨bv, S3⟩, hcnd, h6⟩ := h5
        refine .inr ⟨go, fun H3 => (items.length - (i + 1)) = items.length - (i + 1) ∧ i + 1 ≤ items.length ∧ ∃ (ρ3 : List Addr) (S3 : Store), Pre (ρ1 ++ [D]) ρ3 ∧ Gro (upd H1 D (.lst [])) H3 ∧ Sim K ρ3 S3 H3 ∧ lcL (ev p cb) (ev p ca) t cks (wipeE e own) S1.length r S3 = some S9,
          fun H3 q => ⟨items.length - (i + 1), by omega, rfl, q.2.1, by rw [hdr2]; exact q.2.2⟩, fun x H3 hy => ?_⟩
        obtain ⟨g3, s3, r3⟩ := yl x H3 hy
        have g3' := g2.trans g3
        refine ⟨ρ2, S2, wipeE e own, d, e1, s3, enw p2 g3', r3, hb, fun σ2 en2 hw => ⟨?_, ?_⟩⟩
        · have := hw own ht
          rw [this]
          exact wipe_wipe own σ
        · split at h6
          · rename_i hbv
            simp only at hbv
            subst hbv
            simp only [Option.bind_eq_some_iff] at h6
            obtain ⟨⟨yv, S4⟩, hel, S5, hpu, h7⟩ := h6
            refine stT s3 en2 hcnd fun ρ4 H4 p4 g4 s4 en4 => ?_
            rw [if_pos rfl]
            refine st1 s4 en4 hel fun ρ5 H5 w p5 g5 s5 en5 r5 => ?_
            unfold push at hpu
            split at hpu
            · rename_i xs hx
              split at hpu
              · rename_i hz
                cases hpu
                have hA := p5 _ _ (p4 _ _ (p2 _ _ hnD))
                obtain ⟨vs, q1, q2⟩ := s5.obj _ _ D hx hA
                have rr := q2.append (.cons r5 .nil)
                refine ⟨vs, q1, by rw [q2.length]; exact hz, rfl, hlt, ρ5, _, p2.trans (p4.trans p5), (g3'.trans (g4.trans g5)).trans (Gro.mut q1), s5.put hx hA q1 rr, h7⟩
              · cases hpu
            · cases hpu
          · rename_i hbv
            simp only at hbv
            subst hbv
            refine stT s3 en2 hcnd fun ρ4 H4 p4 g4 s4 en4 => ?_
            rw [if_neg (by decide)]
            exact ⟨rfl, hlt, ρ4, S3, p2.trans p4, g3'.trans g4, s4, h6⟩
          · cases h6
      · cases h5
  · cases h2
end
end Tm

set_option Elab.async false
set_option linter.all false
set_option maxRecDepth 100000
set_option maxHeartbeats 4000000
namespace Tm
open PySem PySem.Spec PyProof.Rows L2
section
variable {X : Cx} {p : Pm} {c : Cc} {k : Nat} {tg e a b d it elt : Expr} {es : List Expr} {ca cb cd ci : C} {pos : Pos}
theorem foldNo (h : notSet it = true) (env : Env) : ∀ x, foldedSetIterable it env x = pure x := by
  intro x
  cases it <;> first | rfl | (simp [notSet] at h; done)
theorem Mat.blk (M : Mat X p c k) {scope : Scope} (hk : scope.kind = .function) (s : Shared) (H : Hp) (C : Addr) (cl : List (Str × Addr)) (fp : List Addr) : Mat (X.blk s H scope (compEnvC scope cl C X.env) fp) p (blkCc c scope.names) k where
  hN := M.hN
  nd := M.nd
  sc := by
    show scope.names.map _ = relN c.names scope.names
    unfold relN
    congr 1
    funext ⟨n, kd⟩
    show (if (kd == NameKind.free && X.env.scope.kind == .function && X.env.kindOf n == some .cell) = true then _ else _) = _
    unfold Env.kindOf
    rw [M.kind, M.sc]
    simp
  kind := hk
  calm := M.calm
  gd := M.gd
  room := M.room
  xe := rfl
  fn := fun x h => by
    have h2 : (scope.names.lookup x == some .cell || (relN c.names scope.names).lookup x == some .local) = true := h
    rw [Bool.or_eq_true] at h2
    rcases h2 with q | q
    · exact .inl q
    · refine .inr ?_
      have e : (compEnvC scope cl C X.env).scope.names = relN c.names scope.names := by
        show scope.names.map _ = relN c.names scope.names
        unfold relN
        congr 1
        funext ⟨n, kd⟩
        show (if (kd == NameKind.free && X.env.scope.kind == .function && X.env.kindOf n == some .cell) = true then _ else _) = _
        unfold Env.kindOf
        rw [M.kind, M.sc]
        simp
      show (compEnvC scope cl C X.env).scope.names.lookup x = some .local
      rw [e]
      exact eq_of_beq q
  glob := M.glob
theorem k_lc (M : Mat X p c k) {scope : Scope} {ifs : List Expr} {t : Tg} {cif : C} (hb : blkC c.N { kind := .function, names := c.names, isGenerator := false, isCoroutine := false } scope (ownOf c.N scope.names) = true)
    (ht : tgIn ((ownOf c.N scope.names).map (·.2)) t = true) (hs : notSet it = true) (hi : PI X tg it (tI p X.K ci))
    (hg : ∀ X', Mat X' p (blkCc c scope.names) k → PG X' tg (tG X'.K t)) (hif : ∀ X', Mat X' p (blkCc c scope.names) k → PTs X' ifs (tTs p X'.K cif))
    (he : ∀ X', Mat X' p (blkCc c scope.names) k → PE X' elt (tE p X'.K ca)) : PE X (.ListComp elt [⟨tg, it, ifs, 0⟩] scope pos) (tE p X.K (.lc ci t cif ca ((ownOf c.N scope.names).map (·.2)))) := by
  have ok1 := blkOk_by hb
  have hk : scope.kind = .function := ok1.kind
  have ok : BlkOk X.N X.env.scope scope (ownOf c.N scope.names) := ⟨ok1.kind, ok1.uniq, by rw [M.hN]; exact ok1.ix, by rw [M.sc]; exact ok1.free, by rw [M.hN]; exact ok1.own⟩
  exact PE.imp (pe_lc M.calm (by rw [M.hN]; exact M.nd) hi ok (fun s H C cl fp => hg _ (M.blk hk s H C cl fp)) (fun s H C cl fp => hif _ (M.blk hk s H C cl fp)) (fun s H C cl fp => he _ (M.blk hk s H C cl fp)) (foldNo hs _)) fun σ H Q h => lc_read ht h
end
/-! ## the text and its core -/
section
variable {p : Pm} {k : Nat}
theorem cEs_len : ∀ (n : Nat) (c : Cc) (es : List Expr) (e : Env') (S : Store) (ds : List D) (S' : Store), ev p (cEs n c es) e S = some (.tup ds, S') → ds.length = es.length
  | 0, c, es, e, S, ds, S', h => by unfold cEs at h; exact (none_bad h).elim
  | n + 1, c, [], e, S, ds, S', h => by
    simp only [cEs, ev, Option.some.injEq, Prod.mk.injEq, D.tup.injEq] at h
    rw [← h.1]; rfl
  | n + 1, c, a :: r, e, S, ds, S', h => by
    simp only [cEs] at h
    split at h
    · simp only [ev, Option.bind_eq_some_iff] at h
      obtain ⟨x1, h1, ⟨y, S2⟩, h2, h3⟩ := h
      split at h3
      · rename_i fs hf
        simp only at hf
        subst hf
        cases h3
        rw [List.length_cons, List.length_cons, cEs_len n c r _ _ _ _ h2]
      · cases h3
    · exact (none_bad h).elim
theorem cKs_len : ∀ (n : Nat) (c : Cc) (kws : List Keyword) (e : Env') (S : Store) (ds : List D) (S' : Store), ev p (cKs n c kws) e S = some (.tup ds, S') → ds.length = kws.length
  | 0, c, es, e, S, ds, S', h => by unfold cKs at h; exact (none_bad h).elim
  | n + 1, c, [], e, S, ds, S', h => by
    simp only [cKs, ev, Option.some.injEq, Prod.mk.injEq, D.tup.injEq] at h
    rw [← h.1]; rfl
  | n + 1, c, ⟨nm, a, kp⟩ :: r, e, S, ds, S', h => by
    simp only [cKs, ev, Option.bind_eq_some_iff] at h
    obtain ⟨x1, h1, ⟨y, S2⟩, h2, h3⟩ := h
    split at h3
    · rename_i fs hf
      simp only at hf
      subst hf
      cases h3
      rw [List.length_cons, List.length_cons, cKs_len n c r _ _ _ _ h2]
    · cases h3
theorem kwNames_len : ∀ {kws : List Keyword} {ks : List Str}, kwNames kws = some ks → kws.length = ks.length
  | [], ks, h => by simp [kwNames] at h; subst h; rfl
  | ⟨some x, _, _⟩ :: r, ks, h => by
    simp only [kwNames, Option.map_eq_some_iff] at h
    obtain ⟨s, h1, rfl⟩ := h
    rw [List.length_cons, List.length_cons, kwNames_len h1]
  | ⟨none, _, _⟩ :: _, ks, h => by simp [kwNames] at h
theorem cEs_nil (n : Nat) (c : Cc) (e : Env') (S : Store) (x : D × Store) (h : ev p (cEs n c []) e S = some x) : x.2 = S := by
  cases n with
  | zero => unfold cEs at h; exact (none_bad h).elim
  | succ n => simp only [cEs, ev, Option.some.injEq] at h; rw [← h]
/-- the machine's words about all texts, to a depth -/
structure Snd (p : Pm) (k n : Nat) : Prop where
  e : ∀ (X : Cx) (c : Cc), Mat X p c k → ∀ e, PE X e (tE p X.K (cE n c e))
  es : ∀ (X : Cx) (c : Cc), Mat X p c k → ∀ es, PA X es (tA p X.K (cEs n c es))
  ks : ∀ (X : Cx) (c : Cc), Mat X p c k → ∀ kws, PK X kws (tA p X.K (cKs n c kws))
  and : ∀ (X : Cx) (c : Cc), Mat X p c k → ∀ a r pos, PE X (.BoolOp .And (a :: r) pos) (tE p X.K (cAnd n c a r))
  or : ∀ (X : Cx) (c : Cc), Mat X p c k → ∀ a r pos, PE X (.BoolOp .Or (a :: r) pos) (tE p X.K (cOr n c a r))
  t : ∀ (X : Cx) (c : Cc), Mat X p c k → ∀ e, PT X e (tTs p X.K (cT n c e))
  tand : ∀ (X : Cx) (c : Cc), Mat X p c k → ∀ a r pos, PW X (.BoolOp .And (a :: r) pos) (tTs p X.K (cTAnd n c a r))
  tor : ∀ (X : Cx) (c : Cc), Mat X p c k → ∀ a r pos, PW X (.BoolOp .Or (a :: r) pos) (tTs p X.K (cTOr n c a r))
  o : ∀ (X : Cx) (c : Cc), Mat X p c k → ∀ o, PO X o (tO' p X.K (cO n c o))
  i : ∀ (X : Cx) (c : Cc), Mat X p c k → ∀ tg e, PI X tg e (tI p X.K (cI n c (isTup tg) e))
theorem k_obad {X : Cx} {o : Option Expr} : PO X o (tO' p X.K .bad) := ⟨fun _ _ _ _ _ _ h => by
  obtain ⟨_, _, _, _, _, _, h, _⟩ := h
  simp [part, isAbs, ev] at h⟩
theorem snd_zero : Snd p k 0 where
  e := fun X c M e => by unfold cE; exact k_bad
  es := fun X c M e => by unfold cEs; exact k_abad
  ks := fun X c M e => by unfold cKs; exact k_kbad
  and := fun X c M a r pos => by unfold cAnd; exact k_bad
  or := fun X c M a r pos => by unfold cOr; exact k_bad
  t := fun X c M e => by unfold cT; exact k_badT
  tand := fun X c M a r pos => by unfold cTAnd; exact k_badW
  tor := fun X c M a r pos => by unfold cTOr; exact k_badW
  o := fun X c M o => by unfold cO; exact k_obad
  i := fun X c M tg e => by unfold cI; exact k_ibad
theorem tgs_star : ∀ (n : Nat) (c : Cc) (es : List Expr) (ds : List D) (S : Store) (e e1 : Env'), bindTs (cTgs n c es) ds S e = some e1 → es.all notStar = true
  | n, c, [], ds, S, e, e1, h => rfl
  | 0, c, a :: r, ds, S, e, e1, h => by unfold cTgs at h; cases ds <;> simp [bindTs] at h
  | n + 1, c, a :: r, ds, S, e, e1, h => by
    unfold cTgs at h
    simp only at h
    split at h
    · rename_i hs
      cases ds with
      | nil => simp [bindTs] at h
      | cons d ds =>
        simp only [bindTs, Option.bind_eq_some_iff] at h
        obtain ⟨e2, _, h2⟩ := h
        rw [List.all_cons, hs, tgs_star n c r _ _ _ _ h2]; rfl
    · cases ds <;> simp [bindTs] at h
theorem k_gtup' {X : Cx} {c : Cc} {kk n : Nat} {pos : Pos} {es : List Expr} (M : Mat X p c k) (h : es.all notStar = true → PGs X es (tGs X.K (cTgs n c es))) : PG X (.Tuple es kk pos) (tG X.K (.tp es.length (cTgs n c es))) := by
  by_cases hst : es.all notStar = true
  · exact k_gtup M hst (h hst)
  · refine ⟨fun pins s σ H v u Q I r h => ?_⟩
    obtain ⟨ρ, S, e, d, e1, _, _, _, h, _⟩ := h
    exfalso
    cases d with
    | tup ds =>
      simp only [bindT] at h
      split at h
      · exact hst (tgs_star _ _ _ _ _ _ _ h)
      · cases h
    | ref m =>
      simp only [bindT, Option.bind_eq_some_iff] at h
      obtain ⟨ys, _, h⟩ := h
      split at h
      · exact hst (tgs_star _ _ _ _ _ _ _ h)
      · cases h
    | _ => simp [bindT] at h
theorem k_tg_all {X : Cx} {c : Cc} (M : Mat X p c k) : ∀ n : Nat, (∀ e : Expr, PG X e (tG X.K (cTg n c e))) ∧ ∀ es : List Expr, es.all notStar = true → PGs X es (tGs X.K (cTgs n c es)) := by
  intro n
  induction n with
  | zero =>
    constructor
    · intro e
      unfold cTg
      split
      · split
        · rename_i hl
          split
          · rename_i i hi; exact k_gname M hl hi
          · exact k_gbad
        · exact k_gbad
      · exact k_gbad
      · exact k_gbad
    · intro es hst
      cases es with
      | nil => unfold cTgs; exact k_gsnil
      | cons a r => unfold cTgs; exact k_gsbad
  | succ n ih =>
    constructor
    · intro e
      unfold cTg
      split
      · split
        · rename_i hl
          split
          · rename_i i hi; exact k_gname M hl hi
          · exact k_gbad
        · exact k_gbad
      · exact k_gtup' M fun h => ih.2 _ h
      · exact k_gbad
    · intro es hst
      cases es with
      | nil => unfold cTgs; exact k_gsnil
      | cons a r =>
        unfold cTgs
        simp only
        rw [List.all_cons, Bool.and_eq_true] at hst
        rw [if_pos hst.1]
        exact k_gscons hst.1 (ih.1 a) (ih.2 r hst.2) hst.2
theorem cEs_star : ∀ (n : Nat) (c : Cc) (es : List Expr) (e : Env') (S : Store) (x : D × Store), ev p (cEs n c es) e S = some x → ∀ a ∈ es, notStar a = true
  | 0, c, es, e, S, x, h => by unfold cEs at h; exact (none_bad h).elim
  | n + 1, c, [], e, S, x, h => by intro a ha; cases ha
  | n + 1, c, b :: r, e, S, x, h => by
    intro a ha
    simp only [cEs] at h
    split at h
    · rename_i hs
      simp only [ev, Option.bind_eq_some_iff] at h
      obtain ⟨x1, h1, x2, h2, h3⟩ := h
      rcases List.mem_cons.mp ha with z | z
      · rw [z]; exact hs
      · exact cEs_star n c r _ _ _ h2 a z
    · exact (none_bad h).elim
theorem k_irngbad {X : Cx} {tg e : Expr} {ca : C} (h : ∀ e S x, ¬ ev p ca e S = some x) : PI X tg e (tI p X.K (.irng ca)) := ⟨fun _ _ _ _ _ _ q => by
  obtain ⟨ρ, S, e, items, cks, S', _, _, q, _⟩ := q
  simp only [ev, Option.bind_eq_some_iff] at q
  obtain ⟨x, h1, _⟩ := q
  exact (h _ _ _ h1).elim⟩
theorem k_ifsbad {X : Cx} {ifs : List Expr} : PTs X ifs (tTs p X.K .bad) := ⟨fun _ _ _ _ _ _ q => by obtain ⟨_, _, _, _, _, _, _, q, _⟩ := q; exact (none_bad q).elim⟩
theorem k_callbad {X : Cx} {e : Expr} {f : Nat} {pm : List Nat} {ca cb : C} (h : ∀ e S x, ¬ ev p ca e S = some x) : PE X e (tE p X.K (.call f pm ca cb)) := ⟨fun _ _ _ _ _ _ q => by
  obtain ⟨ρ, S, e, y, _, _, q, _⟩ := q
  simp only [ev, Option.bind_eq_some_iff] at q
  obtain ⟨x, h1, _⟩ := q
  exact (h _ _ _ h1).elim⟩
theorem k_bibad {X : Cx} {e : Expr} {b : Bi} {ca : C} (h : ∀ e S x, ¬ ev p ca e S = some x) : PE X e (tE p X.K (.bi b ca)) := ⟨fun _ _ _ _ _ _ q => by
  obtain ⟨ρ, S, e, y, _, _, q, _⟩ := q
  simp only [ev, Option.bind_eq_some_iff] at q
  obtain ⟨x, h1, _⟩ := q
  exact (h _ _ _ h1).elim⟩
theorem k_ccall {X : Cx} {c : Cc} (M : Mat X p c k) {n : Nat} {x : Str} {px pos : Pos} {es : List Expr} (h0 : ¬ es.length = 0) (ha : PA X es (tA p X.K (cEs n c es))) : PE X (.Call (.Name x px) es [] pos) (tE p X.K (cCall c x es.length (cEs n c es))) := by
  cases es with
  | nil => exact (h0 rfl).elim
  | cons a r =>
    have star : (a :: r).all notStar = true ∨ ∀ e S x, ¬ ev p (cEs n c (a :: r)) e S = some x := by
      by_cases q : (a :: r).all notStar = true
      · exact .inl q
      · exact .inr fun e S x z => q (List.all_eq_true.mpr (cEs_star n c _ e S x z))
    unfold cCall
    split
    · rename_i hg
      split
      · rename_i f ps hf
        split
        · rename_i hn
          rcases star with hs | hs
          · rw [hn]
            exact k_call M hg hf (M.glob.ar x f ps hf) hs hn ha (fun e S ds S' q => cEs_len n c _ e S ds S' q)
          · exact k_callbad hs
        · exact k_bad
      · split
        · rename_i hb
          split
          · rename_i b hq
            rcases star with hs | hs
            · exact k_bi M (by unfold bltB; rw [Bool.and_eq_true]; exact ⟨hg, hb⟩) hq hs ha
            · exact k_bibad hs
          · exact k_bad
        · exact k_bad
    · exact k_bad
theorem k_callvbad {X : Cx} {e : Expr} {ca cf : C} (h : ∀ e S x, ¬ ev p ca e S = some x) : PE X e (tE p X.K (.callv cf ca)) := ⟨fun _ _ _ _ _ _ q => by
  obtain ⟨ρ, S, e, y, _, _, q, _⟩ := q
  simp only [ev, Option.bind_eq_some_iff] at q
  obtain ⟨x, h1, y', h2, _⟩ := q
  exact (h _ _ _ h2).elim⟩
theorem k_cvcall {X : Cx} {c : Cc} (M : Mat X p c k) {n : Nat} {x : Str} {px pos : Pos} {es : List Expr} (h0 : ¬ es.length = 0) (ha : PA X es (tA p X.K (cEs n c es))) : PE X (.Call (.Name x px) es [] pos) (tE p X.K (.callv (cName c x) (cEs n c es))) := by
  cases es with
  | nil => exact (h0 rfl).elim
  | cons a r =>
    by_cases hs : (a :: r).all notStar = true
    · exact k_callv M hs (k_name M) ha
    · exact k_callvbad fun e S x z => hs (List.all_eq_true.mpr (cEs_star n c _ e S x z))
theorem k_mkbad {X : Cx} {x : Str} {px pos : Pos} {f : Nat} {ca : C} {es : List Expr} (hs : ∀ e S y, ¬ ev p ca e S = some y) : PE X (.Call (.Name x px) es [] pos) (tE p X.K (.mk x f ca)) := ⟨fun _ _ _ _ _ _ h => by
  obtain ⟨_, _, _, _, _, _, h, _⟩ := h
  simp only [ev, Option.bind_eq_some_iff] at h
  obtain ⟨y, h1, _⟩ := h
  exact (hs _ _ _ h1).elim⟩
theorem k_cmk {X : Cx} {c : Cc} (M : Mat X p c k) {n : Nat} {x : Str} {px pos : Pos} {f : Nat} {ps fl : List Str} {es : List Expr} (h0 : ¬ es.length = 0) (hg : glB c x = true) (hf : c.G.clss.lookup x = some (f, ps, fl)) (ha : PA X es (tA p X.K (cEs n c es))) :
    PE X (.Call (.Name x px) es [] pos) (tE p X.K (.mk x f (cEs n c es))) := by
  cases es with
  | nil => exact (h0 rfl).elim
  | cons a r =>
    by_cases hs : (a :: r).all notStar = true
    · exact k_mk M hg hf hs ha
    · exact k_mkbad fun e S x z => hs (List.all_eq_true.mpr (cEs_star n c _ e S x z))
theorem snd_succ {n : Nat} (h : Snd p k n) : Snd p k (n + 1) where
  es := fun X c M es => by
    cases es with
    | nil => unfold cEs; exact k_anil
    | cons a r =>
      unfold cEs
      simp only
      split
      · rename_i hs; exact k_acons hs (h.e X c M a) (h.es X c M r)
      · exact k_abad
  ks := fun X c M kws => by
    cases kws with
    | nil => unfold cKs; exact k_knil
    | cons a r => obtain ⟨nm, v, kp⟩ := a; unfold cKs; exact k_kcons (h.e X c M v) (h.ks X c M r)
  and := fun X c M a r pos => by
    cases r with
    | nil => unfold cAnd; exact k_and1 (h.e X c M a)
    | cons b s => unfold cAnd; exact k_and (h.e X c M a) (h.and X c M b s pos)
  or := fun X c M a r pos => by
    cases r with
    | nil => unfold cOr; exact k_and1 (h.e X c M a)
    | cons b s => unfold cOr; exact k_or (h.e X c M a) (h.or X c M b s pos)
  tand := fun X c M a r pos => by
    cases r with
    | nil => unfold cTAnd; exact k_tand1 (h.t X c M a)
    | cons b s => unfold cTAnd; exact k_tand (h.t X c M a) (h.tand X c M b s pos)
  tor := fun X c M a r pos => by
    cases r with
    | nil => unfold cTOr; exact k_tor1 (h.t X c M a)
    | cons b s => unfold cTOr; exact k_tor (h.t X c M a) (h.tor X c M b s pos)
  o := fun X c M o => by
    cases o with
    | none => unfold cO; exact k_onone
    | some e =>
      unfold cO
      simp only
      split
      · exact k_obad
      · rename_i q; exact k_osome (by simpa using q) (h.e X c M e)
  t := fun X c M e => by
    have val : (∀ whole, isTrue e X.env whole = (do let v ← whole; standAt e.pos; holding [v] (truthy v))) → PT X e (tTs p X.K (cE n c e)) := fun he => k_tval (h.e X c M e) he
    cases e with
    | BoolOp op es pos =>
      cases es with
      | nil => unfold cT; cases op <;> exact k_badT
      | cons a r =>
        unfold cT
        cases op with
        | And => exact (h.tand X c M a r pos).pt
        | Or => exact (h.tor X c M a r pos).pt
    | UnaryOp op a pos =>
      unfold cT
      cases op <;> first | exact k_badT | exact k_tnot (h.t X c M a)
    | IfExp t a b pos => unfold cT; exact k_badT
    | Compare a ops bs pos =>
      unfold cT
      simp only
      split
      · rename_i op b
        split
        · rename_i hs
          split
          · rename_i g hg
            split
            · exact k_tkin M hg (h.e X c M a)
            · exact k_tknin M hg (h.e X c M a)
            · exact k_badT
          · exact k_tcmp M hs (h.e X c M a) (h.e X c M b)
        · exact k_badT
      · rename_i o1 o2 b d
        split
        · exact k_badT
        · rename_i hs
          exact k_tchain M (by simpa using hs) (h.e X c M a) (h.e X c M b) (h.e X c M d)
      · exact k_badT
    | _ => exact val (fun _ => rfl)
  i := fun X c M tg e => by
    cases e with
    | Call f es kws pos =>
      unfold cI
      simp only
      split
      · rename_i x px
        split
        · rename_i hx
          subst hx
          split
          · rename_i hb
            rw [Bool.and_eq_true, Bool.or_eq_true] at hb
            obtain ⟨hb, hn⟩ := hb
            rcases hn with hn | hn
            · match es, hn with
              | [a], _ =>
                by_cases hs : notStar a = true
                · exact k_irng1 M hb hs (h.es X c M [a]) (fun e S ds S' q => cEs_len n c [a] e S ds S' q)
                · exact k_irngbad (fun e S x => by
                    intro q
                    exact hs (cEs_star n c [a] e S x q a List.mem_cons_self))
            · match es, hn with
              | [a, b], _ =>
                by_cases hs : notStar a = true
                · by_cases hs2 : notStar b = true
                  · exact k_irng2 M hb hs hs2 (h.es X c M [a, b]) (fun e S ds S' q => cEs_len n c [a, b] e S ds S' q)
                  · exact k_irngbad (fun e S x => by
                      intro q
                      exact hs2 (cEs_star n c [a, b] e S x q b (List.mem_cons_of_mem _ List.mem_cons_self)))
                · exact k_irngbad (fun e S x => by
                    intro q
                    exact hs (cEs_star n c [a, b] e S x q a List.mem_cons_self))
          · exact k_ibad
        · split
          · rename_i hx
            subst hx
            split
            · split
              · rename_i hb
                rw [Bool.and_eq_true] at hb
                exact k_irev M hb.1 hb.2 (h.e X c M _)
              · exact k_ibad
            · exact k_ibad
          · split
            · rename_i hx
              subst hx
              split
              · split
                · rename_i hb
                  rw [Bool.and_eq_true, Bool.and_eq_true] at hb
                  exact k_ienum M hb.1.1 hb.1.2 hb.2 (h.e X c M _)
                · exact k_ibad
              · exact k_ibad
            · split
              · rename_i hx
                subst hx
                split
                · split
                  · rename_i hb
                    rw [Bool.and_eq_true, Bool.and_eq_true, Bool.and_eq_true] at hb
                    exact k_izip M hb.1.1.1 hb.1.1.2 hb.1.2 hb.2 (h.e X c M _) (h.e X c M _)
                  · exact k_ibad
                · exact k_ibad
              · exact k_ival (h.e X c M _)
      · exact k_ival (h.e X c M _)
    | _ => exact k_ival (h.e X c M _)
  e := fun X c M e => by
    cases e with
    | Name x pos => exact k_name M
    | Constant kc j pos => exact k_const
    | BinOp a op b pos =>
      unfold cE
      simp only
      split
      · rename_i o ho; exact k_bin ho (h.e X c M a) (h.e X c M b)
      · exact k_bad
    | UnaryOp op a pos =>
      unfold cE
      cases op <;> first | exact k_bad | exact k_neg (h.e X c M a) | exact k_notE (h.e X c M a)
    | Compare a ops bs pos =>
      unfold cE
      simp only
      split
      · rename_i op b
        split
        · rename_i hs
          split
          · rename_i g hg
            split
            · exact k_kin M hg hs (h.e X c M a)
            · exact k_knin M hg hs (h.e X c M a)
            · exact k_bad
          · exact k_cmp M hs (h.e X c M a) (h.e X c M b)
        · exact k_bad
      · rename_i o1 o2 b d
        split
        · exact k_bad
        · rename_i hs
          exact k_chain M (by simpa using hs) (h.e X c M a) (h.e X c M b) (h.e X c M d)
      · exact k_bad
    | BoolOp op es pos =>
      unfold cE
      cases es with
      | nil => cases op <;> exact k_bad
      | cons a r =>
        cases op with
        | And => exact h.and X c M a r pos
        | Or => exact h.or X c M a r pos
    | IfExp t a b pos => exact k_ife (h.t X c M t) (h.e X c M a) (h.e X c M b)
    | Tuple es kk pos => exact k_tup (h.es X c M es)
    | List es pos => exact k_lst (h.es X c M es)
    | Subscript a b pos =>
      by_cases hs : isSlice b = true
      · cases b with
        | Slice lo hi st p2 =>
          unfold cE
          simp only
          split
          · exact k_slc (h.e X c M a) (h.o X c M lo) (h.o X c M hi)
          · split
            · exact k_revl (h.e X c M a)
            · exact k_bad
          · exact k_bad
        | _ => simp [isSlice] at hs
      · have hs' : isSlice b = false := by simpa using hs
        have ee : cE (n + 1) c (.Subscript a b pos) = (match dicOf c a with
            | some g => .kget g (cE n c b)
            | none => .idx (cE n c a) (cE n c b)) := by
          cases b <;> first | rfl | (simp [isSlice] at hs; done)
        rw [ee]
        split
        · rename_i g hg; exact k_kget M hg hs' (h.e X c M b)
        · exact k_idx (by have := M.hu; omega) hs' (h.e X c M a) (h.e X c M b)
    | Call f es kws pos =>
      cases kws with
      | nil =>
        unfold cE
        simp only
        split
        · rename_i x px
          split
          · rename_i hx
            subst hx
            split
            · rename_i hb
              split
              · rename_i a t
                split
                · rename_i hs
                  unfold cIsTy
                  split
                  · rename_i t' ht; exact k_isty M hb hs ht (h.e X c M a)
                  · exact k_bad
                · exact k_bad
              · exact k_bad
            · exact k_bad
          · split
            · exact k_bad
            · rename_i h0
              split
              · rename_i hq
                rw [Bool.and_eq_true] at hq
                split
                · rename_i f ps fl hf
                  split
                  · exact k_cmk M h0 hq.1 hf (h.es X c M es)
                  · exact k_bad
                · exact k_bad
              split
              · exact k_cvcall M h0 (h.es X c M es)
              · exact k_ccall M h0 (h.es X c M es)
        · rename_i o m ap
          split
          · exact k_bad
          · rename_i hap
            have hap' : (ap.endLine == pos.line) = true := by simpa using hap
            split
            · rename_i hm
              subst hm
              split
              · rename_i v
                split
                · rename_i hs
                  rw [Bool.and_eq_true] at hs
                  exact k_app hap' hs.1 hs.2 (h.e X c M o) (h.e X c M v)
                · exact k_bad
              · exact k_bad
            · split
              · rename_i hm
                subst hm
                split
                · rename_i g a b hg
                  split
                  · rename_i hs
                    rw [Bool.and_eq_true] at hs
                    exact k_kgetd M hg hap' hs.1 hs.2 (h.e X c M a) (h.e X c M b)
                  · exact k_bad
                · exact k_bad
              · split
                · exact k_bad
                · rename_i hb
                  have hb' : plainBase o = true := by simpa using hb
                  split
                  · split
                    · rename_i q hq; exact k_mt0 hq hap' hb' (h.e X c M o)
                    · exact k_bad
                  · rename_i a
                    split
                    · rename_i hs
                      split
                      · rename_i q hq; exact k_mt1 hq hap' hs hb' (h.e X c M o) (h.e X c M a)
                      · exact k_bad
                    · exact k_bad
                  · rename_i a b
                    split
                    · rename_i hs
                      rw [Bool.and_eq_true] at hs
                      split
                      · rename_i q hq; exact k_mt2 hq hap' hs.1 hs.2 hb' (h.e X c M o) (h.e X c M a) (h.e X c M b)
                      · exact k_bad
                    · exact k_bad
                  · exact k_bad
        · exact k_bad
      | cons kw kr =>
        unfold cE
        simp only
        split
        · rename_i x px
          split
          · rename_i hg
            rw [Bool.and_eq_true] at hg
            split
            · rename_i f ps ks hf hks
              split
              · rename_i q hq
                have hm := List.mem_of_find?_eq_some hq
                have hp := List.find?_some hq
                simp only [Bool.and_eq_true, decide_eq_true_eq] at hp
                exact k_callK M hg.1 hf (M.glob.ar x f ps hf) hg.2 hks hm hp.1.1 hp.1.2 hp.2 (h.es X c M es) (h.ks X c M _) (fun e S ds S' z => cEs_len n c _ e S ds S' z)
                  (fun e S ds S' z => by rw [cKs_len n c _ e S ds S' z, kwNames_len hks]) (fun he e S x z => by subst he; exact cEs_nil n c e S x z)
              · exact k_bad
            · exact k_bad
          · exact k_bad
        · exact k_bad
    | Attribute o f pos =>
      unfold cE
      simp only
      split
      · exact k_bad
      · rename_i hb
        exact k_fld M (by simpa using hb) (h.e X c M o)
    | Dict ks vs pos =>
      unfold cE
      simp only
      split
      · exact k_dnew
      · exact k_bad
    | ListComp elt gs scope pos =>
      unfold cE
      simp only
      split
      · rename_i tg it ifs
        split
        · rename_i hb
          rw [Bool.and_eq_true, Bool.and_eq_true] at hb
          refine k_lc M hb.1.1 hb.1.2 hb.2 (h.i X c M tg it) (fun X' M' => (k_tg_all M' n).1 tg) (fun X' M' => ?_) (fun X' M' => h.e X' _ M' elt)
          split
          · exact k_ifs0
          · exact k_ifs1 (h.t X' _ M' _)
          · exact k_ifsbad
        · exact k_bad
      · exact k_bad
    | _ => exact k_bad
end
end Tm

set_option Elab.async false
set_option linter.all false
set_option maxRecDepth 100000
set_option maxHeartbeats 4000000
namespace Tm
open PySem PySem.Spec PyProof.Rows L2
theorem snd_all (p : Pm) (k : Nat) : ∀ n, Snd p k n
  | 0 => snd_zero
  | n + 1 => snd_succ (snd_all p k n)
/-! ## statements -/
def isComp : Expr → Bool
  | .ListComp .. | .SetComp .. | .DictComp .. => true
  | _ => false
def onlyLc : Expr → Bool
  | .ListComp .. => true
  | _ => false
def isTupE : Expr → Bool
  | .Tuple .. | .List .. => true
  | _ => false
/-- y = [..] on one line, y a plain local -/
def swapC (c : Cc) (y : Str) (py : Pos) : Expr → Bool
  | .ListComp _ _ scope pos => (c.names.lookup y == some .local) && (py.line == pos.line) && !(scope.names.any fun (n, k) => n == y && (k == .local || k == .cell))
  | _ => false
/-- a, b = x, y with plain local names of one line -/
def parN (c : Cc) : Expr → Expr → Option (List Str)
  | .Tuple ts _ _, .Tuple vs _ _ =>
    if !(ts.length == 2 || ts.length == 3) || vs.length != ts.length then none
    else if vs.any fun | .Starred .. => true | _ => false then none
    else
      let line := (ts.head?.map (·.pos.line)).getD 0
      let names := ts.filterMap fun
        | .Name id pos => if c.names.lookup id == some .local && pos.line == line then some id else none
        | _ => none
      if names.length != ts.length || names.eraseDups.length != names.length then none
      else if vs.all (foldedForSure 8) then none
      else if vs.all (constantsAlone 8) then none
      else some names
  | _, _ => none
/-- is it stored one by one, from the left? none: not known -/
def noPar (c : Cc) (t v : Expr) : Bool := match t, v with
  | .Tuple ts _ _, .Tuple vs _ _ =>
    if !(ts.length == 2 || ts.length == 3) || vs.length != ts.length then true
    else if vs.any fun | .Starred .. => true | _ => false then true
    else
      let line := (ts.head?.map (·.pos.line)).getD 0
      let names := ts.filterMap fun
        | .Name id pos => if c.names.lookup id == some .local && pos.line == line then some id else none
        | _ => none
      if names.length != ts.length || names.eraseDups.length != names.length then true
      else if vs.all (foldedForSure 8) then true
      else false
  | .List .., _ => false
  | _, _ => true
def cPar (n : Nat) (c : Cc) (t v : Expr) (names : List Str) : St := match t, v with
  | .Tuple [.Name x _, .Name y _] _ _, .Tuple [a, b] _ _ => (match ixOf c.N x, ixOf c.N y with
    | some i, some j => if decide (names = [x, y]) && (c.names.lookup x == some .local) && (c.names.lookup y == some .local) && !(i == j) && notStar a && notStar b then .asg (.tp 2 (.cons (.nm i) (.cons (.nm j) .nil))) (.tup (.cons (cE n c a) (.cons (cE n c b) .nil))) else .bad
    | _, _ => .bad)
  | .Tuple [.Name x _, .Name y _, .Name z _] _ _, .Tuple [a, b, d] _ _ => (match ixOf c.N x, ixOf c.N y, ixOf c.N z with
    | some i, some j, some l => if decide (names = [x, y, z]) && (c.names.lookup x == some .local) && (c.names.lookup y == some .local) && (c.names.lookup z == some .local) && !(i == j) && !(i == l) && !(j == l) && notStar a && notStar b && notStar d then
        .asg (.tp 3 (.cons (.nm i) (.cons (.nm j) (.cons (.nm l) .nil)))) (.tup (.cons (cE n c a) (.cons (cE n c b) (.cons (cE n c d) .nil)))) else .bad
    | _, _, _ => .bad)
  | _, _ => .bad
def augB : Operator → Option Bin
  | .Add => some .add
  | .Sub => some .sub
  | _ => none
mutual
def cS (n : Nat) (c : Cc) (s : Stmt) : St := match n with
  | 0 => .bad
  | n + 1 => match s with
    | .Expr e _ => if isComp e then .bad else .drop (cE n c e)
    | .Return e _ => (match e with
      | none => .ret (.lit .non)
      | some e => .ret (cE n c e))
    | .Assign ts e _ => (match ts with
      | [t] => (match t with
        | .Name y py => if isComp e && !onlyLc e then .bad else .asg (cTg n c t) (cE n c e)
        | .Tuple .. => if isComp e then .bad else if noPar c t e then .asg (cTg n c t) (cE n c e) else (match parN c t e with
          | some names => cPar n c t e names
          | none => .bad)
        | .Subscript o i _ => if isSlice i || isComp e then .bad else .seti (cE n c e) (cE n c o) (cE n c i)
        | .Attribute o f _ => if isComp e then .bad else .setf (cE n c e) (cE n c o) f (clsFor c.G f)
        | _ => .bad)
      | _ => .bad)
    | .AugAssign t op e _ => (match t with
      | .Name x _ => (match ixOf c.N x, augB op with
        | some i, some o => if locB c x then .aug i o (cE n c e) else .bad
        | _, _ => .bad)
      | .Attribute o f _ => (match augB op with
        | some q => .augf (cE n c o) f (clsFor c.G f) q (cE n c e)
        | none => .bad)
      | _ => .bad)
    | .If t a b _ => .ifs (cT n c t) (cSs n c a) (cSs n c b)
    | .For t it b o _ => (match o with
      | [] => if notSet it then .for_ (cI n c (isTup t) it) (cTg n c t) (cSs n c b) else .bad
      | _ => .bad)
    | .While t b o _ => (match o with
      | [] => .whl (cT n c t) (cSs n c b)
      | _ => .bad)
    | .Pass _ => .skip
    | .Break _ => .brk
    | .Continue _ => .cont
    | _ => .bad
def cSs (n : Nat) (c : Cc) (s : List Stmt) : St := match n with
  | 0 => .bad
  | n + 1 => match s with
    | [] => .skip
    | s :: r => .seq (cS n c s) (cSs n c r)
end
def AftS (K : PySem.W.Frag) (ρ : List Addr) (H : Hp) (r : Fl × Env' × Store) (D : Ends) : Prop := ∀ (ρ' : List Addr) (H' : Hp), Pre ρ ρ' → Gro H H' → Sim K ρ' r.2.2 H' → match r.1 with
  | .nx => ∀ σ', EnvR K ρ' H' r.2.1 σ' → D.nx σ' H'
  | .bk => ∀ σ', EnvR K ρ' H' r.2.1 σ' → D.bk σ' H'
  | .ct => ∀ σ', EnvR K ρ' H' r.2.1 σ' → D.ct σ' H'
  | .rt d => ∀ v, Rep K ρ' H' v d → D.rt v H'
theorem AftS.mono {K : PySem.W.Frag} {ρ ρ' : List Addr} {H H' : Hp} {r : Fl × Env' × Store} {D : Ends} (k : AftS K ρ H r D) (p : Pre ρ ρ') (g : Gro H H') : AftS K ρ' H' r D := fun _ _ p' g' s => k _ _ (p.trans p') (g.trans g') s
def tS (p : Pm) (K : PySem.W.Frag) (s : St) : TS := fun D σ H => ∃ (ρ : List Addr) (S : Store) (e : Env') (r : Fl × Env' × Store), Sim K ρ S H ∧ EnvR K ρ H e σ ∧ ex p s e S = some r ∧ AftS K ρ H r D
theorem PS.by2 {X : Cx} {e : Stmt} {t t1 t2 : TS} (h1 : PS X e t1) (h2 : PS X e t2) (f : ∀ D σ H, t D σ H → t1 D σ H ∨ t2 D σ H) : PS X e t :=
  ⟨fun pins s σ H D I q => (f D σ H q).elim (h1.run pins s σ H D I) (h2.run pins s σ H D I)⟩
theorem PS.imp {X : Cx} {e : Stmt} {t t' : TS} (h : PS X e t) (f : ∀ D σ H, t' D σ H → t D σ H) : PS X e t' := ⟨fun pins s σ H D I q => h.run pins s σ H D I (f D σ H q)⟩
theorem PSs.imp {X : Cx} {e : List Stmt} {t t' : TS} (h : PSs X e t) (f : ∀ D σ H, t' D σ H → t D σ H) : PSs X e t' := ⟨fun pins s σ H D I q => h.run pins s σ H D I (f D σ H q)⟩
section
variable {X : Cx} {p : Pm} {c : Cc} {k : Nat} {e a b d it : Expr} {st : Stmt} {sts : List Stmt} {ca cb cd : C} {sa sb : St} {pos : Pos}
theorem k_sbad : PS X st (tS p X.K .bad) := ⟨fun _ _ _ _ _ _ h => by obtain ⟨_, _, _, _, _, _, h, _⟩ := h; simp [ex] at h⟩
theorem k_ssbad : PSs X sts (tS p X.K .bad) := ⟨fun _ _ _ _ _ _ h => by obtain ⟨_, _, _, _, _, _, h, _⟩ := h; simp [ex] at h⟩
theorem k_sskip : PSs X [] (tS p X.K .skip) := PSs.imp pss_nil fun D σ H h => by
  obtain ⟨ρ, S, e, r, sm, en, h, q⟩ := h
  simp only [ex, Option.some.injEq] at h
  subst h
  exact q ρ H (Pre.refl ρ) (Gro.refl H) sm σ en
theorem k_pass : PS X (.Pass pos) (tS p X.K .skip) := PS.imp ps_pass fun D σ H h => by
  obtain ⟨ρ, S, e, r, sm, en, h, q⟩ := h
  simp only [ex, Option.some.injEq] at h
  subst h
  exact q ρ H (Pre.refl ρ) (Gro.refl H) sm σ en
theorem k_brk : PS X (.Break pos) (tS p X.K .brk) := PS.imp ps_break fun D σ H h => by
  obtain ⟨ρ, S, e, r, sm, en, h, q⟩ := h
  simp only [ex, Option.some.injEq] at h
  subst h
  exact q ρ H (Pre.refl ρ) (Gro.refl H) sm σ en
theorem k_cont : PS X (.Continue pos) (tS p X.K .cont) := PS.imp ps_continue fun D σ H h => by
  obtain ⟨ρ, S, e, r, sm, en, h, q⟩ := h
  simp only [ex, Option.some.injEq] at h
  subst h
  exact q ρ H (Pre.refl ρ) (Gro.refl H) sm σ en
theorem k_seq (ha : PS X st (tS p X.K sa)) (hb : PSs X sts (tS p X.K sb)) : PSs X (st :: sts) (tS p X.K (.seq sa sb)) := by
  refine PSs.imp (pss_cons ha hb) fun D σ H h => ?_
  obtain ⟨ρ, S, e, r, sm, en, h, q⟩ := h
  simp only [ex, Option.bind_eq_some_iff] at h
  obtain ⟨⟨f1, e1, S1⟩, h1, h2⟩ := h
  refine ⟨ρ, S, e, _, sm, en, h1, fun ρ1 H1 p1 g1 s1 => ?_⟩
  cases f1 with
  | nx => exact fun σ1 en1 => ⟨ρ1, S1, e1, r, s1, en1, h2, q.mono p1 g1⟩
  | bk => simp only [Option.some.injEq] at h2; subst h2; exact q ρ1 H1 p1 g1 s1
  | ct => simp only [Option.some.injEq] at h2; subst h2; exact q ρ1 H1 p1 g1 s1
  | rt v => simp only [Option.some.injEq] at h2; subst h2; exact q ρ1 H1 p1 g1 s1
theorem k_drop (hs : isComp e = false) (ha : PE X e (tE p X.K ca)) : PS X (.Expr e pos) (tS p X.K (.drop ca)) := by
  refine PS.imp (ps_expr ha (by cases e <;> first | rfl | (simp [isComp] at hs; done))) fun D σ H h => ?_
  obtain ⟨ρ, S, e, r, sm, en, h, q⟩ := h
  simp only [ex, Option.map_eq_some_iff] at h
  obtain ⟨x, h1, h2⟩ := h
  subst h2
  exact st1 sm en h1 fun ρ1 H1 v p1 g1 s1 e1 r1 => q ρ1 H1 p1 g1 s1 σ e1
theorem k_ret (ha : PE X e (tE p X.K ca)) : PS X (.Return (some e) pos) (tS p X.K (.ret ca)) := by
  refine PS.imp (ps_ret ha) fun D σ H h => ?_
  obtain ⟨ρ, S, e, r, sm, en, h, q⟩ := h
  simp only [ex, Option.map_eq_some_iff] at h
  obtain ⟨x, h1, h2⟩ := h
  subst h2
  exact st1 sm en h1 fun ρ1 H1 v p1 g1 s1 e1 r1 => q ρ1 H1 p1 g1 s1 v r1
theorem k_retN : PS X (.Return none pos) (tS p X.K (.ret (.lit .non))) := by
  refine PS.imp ps_retN fun D σ H h => ?_
  obtain ⟨ρ, S, e, r, sm, en, h, q⟩ := h
  simp only [ex, ev, isScal, if_true, Option.map_some, Option.some.injEq] at h
  subst h
  exact q ρ H (Pre.refl ρ) (Gro.refl H) sm .non .non
theorem k_if (ht : PT X e (tTs p X.K ca)) (ha : PSs X sts (tS p X.K sa)) {sts2 : List Stmt} (hb : PSs X sts2 (tS p X.K sb)) : PS X (.If e sts sts2 pos) (tS p X.K (.ifs ca sa sb)) := by
  refine PS.imp (ps_if ht ha hb) fun D σ H h => ?_
  obtain ⟨ρ, S, e, r, sm, en, h, q⟩ := h
  simp only [ex, Option.bind_eq_some_iff] at h
  obtain ⟨⟨d1, S1⟩, h1, h2⟩ := h
  split at h2
  · rename_i hi
    simp only at hi
    subst hi
    refine stT sm en h1 fun ρ' H' p1 g1 s1 e1 => ?_
    rw [if_pos rfl]
    exact ⟨ρ', S1, e, r, s1, e1, h2, q.mono p1 g1⟩
  · rename_i hi
    simp only at hi
    subst hi
    refine stT sm en h1 fun ρ' H' p1 g1 s1 e1 => ?_
    rw [if_neg (by decide)]
    exact ⟨ρ', S1, e, r, s1, e1, h2, q.mono p1 g1⟩
  · cases h2
theorem asg_read {K : PySem.W.Frag} {t : Tg} {D : Ends} {σ : L2.St} {H : Hp} (h : tS p K (.asg t ca) D σ H) : tAsg (tE p K ca) (tG K t) D σ H := by
  obtain ⟨ρ, S, e, r, sm, en, h, q⟩ := h
  simp only [ex, Option.bind_eq_some_iff, Option.map_eq_some_iff] at h
  obtain ⟨x, h1, e1, h2, h3⟩ := h
  subst h3
  exact st1 sm en h1 fun ρ1 H1 v p1 g1 s1 en1 r1 => ⟨ρ1, x.2, e, x.1, e1, s1, en1, r1, h2, fun σ' en2 _ => q ρ1 H1 p1 g1 s1 σ' en2⟩
end
end Tm

set_option Elab.async false
set_option linter.all false
set_option maxRecDepth 100000
set_option maxHeartbeats 4000000
namespace Tm
open PySem PySem.Spec PyProof.Rows L2
section
variable {X : Cx} {p : Pm} {c : Cc} {k : Nat} {e a b d it : Expr} {st : Stmt} {sts : List Stmt} {ca cb cd ci : C} {sa sb : St} {pos : Pos}
theorem Mat.block (M : Mat X p c k) : X.env.blockKind = .function := by
  unfold Env.blockKind
  rw [M.kind]; rfl
theorem Mat.kindOf (M : Mat X p c k) (y : Str) : X.env.kindOf y = c.names.lookup y := by
  unfold Env.kindOf
  rw [M.sc]
theorem noPar_ok (M : Mat X p c k) {ts : List Expr} {k1 : Nat} {p1 : Pos} {v : Expr} (h : noPar c (.Tuple ts k1 p1) v = true) : swappedStores [.Tuple ts k1 p1] v X.env = pure none := by
  cases v with
  | Tuple vs k2 p2 =>
    unfold swappedStores
    unfold noPar at h
    simp only [M.block, M.kindOf, bne_self_eq_false, Bool.or_false] at h ⊢
    split
    · rfl
    · rename_i c1
      split
      · rfl
      · rename_i c2
        split
        · rfl
        · rename_i c3
          split
          · rfl
          · rename_i c4
            have z := ((if_neg c1).trans ((if_neg c2).trans ((if_neg c3).trans (if_neg c4)))).symm.trans h
            exact Bool.noConfusion z
  | _ => rfl
theorem parN_ok (M : Mat X p c k) {ts vs names : List Expr} {k1 k2 : Nat} {p1 p2 : Pos} {nm : List Str} (h : parN c (.Tuple ts k1 p1) (.Tuple vs k2 p2) = some nm) : swappedStores [.Tuple ts k1 p1] (.Tuple vs k2 p2) X.env = pure (some nm) := by
  unfold swappedStores
  unfold parN at h
  simp only [M.block, M.kindOf, bne_self_eq_false, Bool.or_false] at h ⊢
  split
  · rename_i c1
    have z := ((if_pos c1).symm.trans h)
    cases z
  · rename_i c1
    split
    · rename_i c2
      have z := (((if_neg c1).trans (if_pos c2)).symm.trans h)
      cases z
    · rename_i c2
      split
      · rename_i c3
        have z := (((if_neg c1).trans ((if_neg c2).trans (if_pos c3))).symm.trans h)
        cases z
      · rename_i c3
        split
        · rename_i c4
          have z := (((if_neg c1).trans ((if_neg c2).trans ((if_neg c3).trans (if_pos c4)))).symm.trans h)
          cases z
        · rename_i c4
          split
          · rename_i c5
            have z := (((if_neg c1).trans ((if_neg c2).trans ((if_neg c3).trans ((if_neg c4).trans (if_pos c5))))).symm.trans h)
            cases z
          · rename_i c5
            have z := Option.some.inj (((if_neg c1).trans ((if_neg c2).trans ((if_neg c3).trans ((if_neg c4).trans (if_neg c5))))).symm.trans h)
            rw [← z]
            rfl
theorem swaps_lc (M : Mat X p c k) {elt : Expr} {gs : List Comprehension} {scope : Scope} {ps py : Pos} {y : Str} (l : Nat) :
    swapsWith (.ListComp elt gs scope ps) (some (.Name y py)) l X.env = pure (swapC c y py (.ListComp elt gs scope ps)) := by
  unfold swapsWith swapC
  simp only [M.block, M.kindOf]
  rfl
theorem k_asgN (M : Mat X p c k) {x : Str} {i : Nat} {px : Pos} (hl : locB c x = true) (hi : ixOf c.N x = some i) (hs : swapsWith e (some (.Name x px)) pos.line X.env = pure false) (ha : PE X e (tE p X.K ca)) : PS X (.Assign [.Name x px] e pos) (tS p X.K (.asg (.nm i) ca)) := by
  obtain ⟨h1, h2⟩ := M.loc hl
  refine PS.imp (ps_set (i := i) (by rw [M.hN]; exact M.nd) (by rw [M.hN]; exact ixOf_get hi) h1 ha hs h2) fun D σ H h => ?_
  obtain ⟨ρ, S, e, r, sm, en, h, q⟩ := h
  simp only [ex, Option.bind_eq_some_iff, Option.map_eq_some_iff] at h
  obtain ⟨x, h1, e1, h2, h3⟩ := h
  subst h3
  refine st1 sm en h1 fun ρ1 H1 v p1 g1 s1 en1 r1 => ?_
  simp only [bindT] at h2
  split at h2
  · cases h2
    exact q ρ1 H1 p1 g1 s1 _ (en1.set r1 i)
  · cases h2
theorem k_asgLc (M : Mat X p c k) {x : Str} {i : Nat} {px : Pos} {elt tg it : Expr} {scope : Scope} {ps : Pos} {ifs : List Expr} {t : Tg} {cif : C} (hl : locB c x = true) (hi : ixOf c.N x = some i)
    (hb : blkC c.N { kind := .function, names := c.names, isGenerator := false, isCoroutine := false } scope (ownOf c.N scope.names) = true)
    (ht : tgIn ((ownOf c.N scope.names).map (·.2)) t = true) (hs : notSet it = true) (hi2 : PI X tg it (tI p X.K ci))
    (hg : ∀ X', Mat X' p (blkCc c scope.names) k → PG X' tg (tG X'.K t)) (hif : ∀ X', Mat X' p (blkCc c scope.names) k → PTs X' ifs (tTs p X'.K cif))
    (he : ∀ X', Mat X' p (blkCc c scope.names) k → PE X' elt (tE p X'.K ca)) : PS X (.Assign [.Name x px] (.ListComp elt [⟨tg, it, ifs, 0⟩] scope ps) pos) (tS p X.K (.asg (.nm i) (.lc ci t cif ca ((ownOf c.N scope.names).map (·.2))))) := by
  by_cases sw : swapC c x px (.ListComp elt [⟨tg, it, ifs, 0⟩] scope ps) = true
  · have ok1 := blkOk_by hb
    have hk : scope.kind = .function := ok1.kind
    have ok : BlkOk X.N X.env.scope scope (ownOf c.N scope.names) := ⟨ok1.kind, ok1.uniq, by rw [M.hN]; exact ok1.ix, by rw [M.sc]; exact ok1.free, by rw [M.hN]; exact ok1.own⟩
    have hloc : X.env.scope.names.lookup x = some .local := by
      simp only [swapC, Bool.and_eq_true] at sw
      rw [M.sc]
      exact eq_of_beq sw.1.1
    refine PS.imp (ps_setLc (i := i) (te := tE p X.K ca) (tt := tTs p X.K cif) (g := tG X.K t) (wi := tI p X.K ci) M.calm (by rw [M.hN]; exact M.nd) (by rw [M.hN]; exact ixOf_get hi) hloc (by rw [swaps_lc M, sw]) hi2 ok (fun s H C cl fp => hg _ (M.blk hk s H C cl fp)) (fun s H C cl fp => hif _ (M.blk hk s H C cl fp)) (fun s H C cl fp => he _ (M.blk hk s H C cl fp)) (foldNo hs _)) fun D σ H h => ?_
    obtain ⟨ρ, S, e, r, sm, en, h, q⟩ := h
    simp only [ex, Option.bind_eq_some_iff, Option.map_eq_some_iff] at h
    obtain ⟨x, h1, e1, h2, h3⟩ := h
    subst h3
    refine lc_read ht (st1 sm en h1 fun ρ1 H1 v p1 g1 s1 en1 r1 => ?_)
    simp only [bindT] at h2
    split at h2
    · cases h2
      exact q ρ1 H1 p1 g1 s1 _ (en1.set r1 i)
    · cases h2
  · exact k_asgN M hl hi (by rw [swaps_lc M]; simp [sw]) (k_lc M hb ht hs hi2 hg hif he)
theorem k_asgT (M : Mat X p c k) {ts : List Expr} {k1 : Nat} {p1 : Pos} {t : Tg} (hn : noPar c (.Tuple ts k1 p1) e = true) (hc : isComp e = false) (hg : PG X (.Tuple ts k1 p1) (tG X.K t)) (ha : PE X e (tE p X.K ca)) :
    PS X (.Assign [.Tuple ts k1 p1] e pos) (tS p X.K (.asg t ca)) :=
  PS.imp (ps_asg ha hg (by cases e <;> first | rfl | (simp [isComp] at hc; done)) (noPar_ok M hn) rfl) fun D σ H h => asg_read h
/-- a value put into a dict of the store -/
theorem k_seti (hu : X.A.units + 1 < cLine) {o i : Expr} {p1 : Pos} (hs : isSlice i = false) (hc : isComp e = false) (ho : PE X o (tE p X.K ca)) (hi : PE X i (tE p X.K cb)) (hv : PE X e (tE p X.K cd)) :
    PS X (.Assign [.Subscript o i p1] e pos) (tS p X.K (.seti cd ca cb)) := by
  have one : PS X (.Assign [.Subscript o i p1] e pos) _ := ps_asg hv (pg_sub ho hi set_list (by intro v; cases i <;> first | rfl | (simp [isSlice] at hs; done))) (by cases e <;> first | rfl | (simp [isComp] at hc; done)) (by cases e <;> rfl) rfl
  have two : PS X (.Assign [.Subscript o i p1] e pos) _ := ps_dput hu ho hi hv (by cases e <;> first | rfl | (simp [isComp] at hc; done))
  refine PS.by2 one two fun D σ H h => ?_
  obtain ⟨ρ, S, e, r, sm, en, h, q⟩ := h
  simp only [ex, Option.bind_eq_some_iff, Option.map_eq_some_iff] at h
  obtain ⟨x1, h1, x2, h2, x3, h3, S', h4, h5⟩ := h
  subst h5
  replace h4 := alt_or h4
  rcases h4 with h4 | h4
  · left
    refine st1 sm en h1 fun ρ1 H1 v p1 g1 s1 e1 r1 => st1 s1 e1 h2 fun ρ2 H2 w p2 g2 s2 e2 r2 => st1 s2 e2 h3 fun ρ3 H3 z p3 g3 s3 e3 r3 => ?_
    obtain ⟨d2, S2⟩ := x2
    obtain ⟨d3, S3⟩ := x3
    unfold setS at h4
    split at h4
    · rename_i n kk hn hk
      simp only at hn hk
      subst hn; subst hk
      split at h4
      · rename_i xs hx
        simp only [Option.map_eq_some_iff] at h4
        obtain ⟨j, hj, h6⟩ := h4
        subst h6
        obtain ⟨A, ev1, hA⟩ := rep_ref r2
        have hA3 := p3 _ _ hA
        obtain ⟨vs, q1, q2⟩ := s3.obj n _ A hx hA3
        refine ⟨A, vs, kk, j, ev1, rep_int r3, q1, by rw [q2.length]; exact hj, ?_⟩
        have rr := Reps.set ((r1.mono g2 p2).mono g3 p3) j q2
        have gm : Gro H3 (upd H3 A (.lst (vs.set j v))) := Gro.mut q1
        exact q ρ3 _ (p1.trans (p2.trans p3)) ((g1.trans (g2.trans g3)).trans gm) (s3.put hx hA3 q1 rr) σ (e3.mono (Pre.refl _) gm)
      · cases h4
    · cases h4
  · right
    refine st1 sm en h1 fun ρ1 H1 v p1 g1 s1 e1 r1 => st1 s1 e1 h2 fun ρ2 H2 w p2 g2 s2 e2 r2 => st1 s2 e2 h3 fun ρ3 H3 z p3 g3 s3 e3 r3 => ?_
    obtain ⟨d2, S2⟩ := x2
    obtain ⟨d3, S3⟩ := x3
    unfold dputS at h4
    split at h4
    · rename_i n hn
      simp only at hn
      subst hn
      simp only [Option.bind_eq_some_iff] at h4
      obtain ⟨kk, h6, kvs, h7, h8⟩ := h4
      split at h8
      · rename_i hz
        cases h8
        obtain ⟨A, ev1, hA⟩ := rep_ref r2
        have hA3 := p3 _ _ hA
        obtain ⟨e4, ws, q1, q2, q3⟩ := s3.dct h7 hA3
        have hl : ws.length < sizeLine := by
          have := congrArg List.length q2
          simp only [List.length_map] at this
          rw [this]; exact hz
        obtain ⟨t1, t2⟩ := put_rel (kk := kk) ((r1.mono g2 p2).mono g3 p3) q2 q3
        have gm : Gro H3 (upd H3 A (.dK (putK ws kk v))) := Gro.mutD q1
        exact ⟨A, _, ev1, .inl ⟨ws, kk, q1, rep_key r3 h6, hl, rfl⟩, q ρ3 _ (p1.trans (p2.trans p3)) ((g1.trans (g2.trans g3)).trans gm) (s3.putD e4 hA3 q1 t1 t2) σ (e3.mono (Pre.refl _) gm)⟩
      · cases h8
    · cases h4
/-- name += e -/
def rAug (K : PySem.W.Frag) (o : Bin) : TIp := fun v w H Q => ∃ (ρ : List Addr) (a b d : D), Rep K ρ H v a ∧ Rep K ρ H w b ∧ augop o a b = some d ∧ ∀ x, Rep K ρ H x d → Q x H
theorem pip_aug {op : Operator} {o : Bin} (h : augB op = some o) : PIp X op (rAug X.K o) := by
  intro pins s σ H x y v u Q I rx ry q
  obtain ⟨ρ, a, b, d, ra, rb, e, k⟩ := q
  cases op <;> simp only [augB, Option.some.injEq, reduceCtorEq] at h <;> subst h
  · cases ra with
    | int i => cases rb with
      | int j => cases e; exact in_add pins s σ H _ _ v u Q I rx ry ⟨i, j, rfl, rfl, k _ (.int _)⟩
      | _ => cases e
    | str i => cases rb with
      | str j =>
        simp only [augop] at e
        split at e
        · rename_i hz
          cases e
          exact in_addS pins s σ H _ _ v u Q I rx ry ⟨i, j, rfl, rfl, hz, k _ (.str _)⟩
        · cases e
      | _ => cases e
    | _ => cases e
  · cases ra with
    | int i => cases rb with
      | int j => cases e; exact in_sub pins s σ H _ _ v u Q I rx ry ⟨i, j, rfl, rfl, k _ (.int _)⟩
      | _ => cases e
    | _ => cases e
theorem k_aug (M : Mat X p c k) {op : Operator} {o : Bin} {x : Str} {px : Pos} {i : Nat} (hl : locB c x = true) (hi : ixOf c.N x = some i) (ho : augB op = some o) (ha : PE X e (tE p X.K ca)) :
    PS X (.AugAssign (.Name x px) op e pos) (tS p X.K (.aug i o ca)) := by
  obtain ⟨hloc, hf⟩ := M.loc hl
  refine PS.imp (ps_aug (by rw [M.hN]; exact M.nd) (by rw [M.hN]; exact ixOf_get hi) hloc ha (pip_aug ho) hf) fun D σ H h => ?_
  obtain ⟨ρ, S, e, r, sm, en, h, q⟩ := h
  simp only [ex] at h
  split at h
  · rename_i d hd
    simp only [Option.bind_eq_some_iff, Option.map_eq_some_iff] at h
    obtain ⟨x1, h1, z, h2, h3⟩ := h
    subst h3
    obtain ⟨v, hv, rv⟩ := en.2 i d hd
    refine ⟨v, hv, st1 sm en h1 fun ρ1 H1 w p1 g1 s1 e1 r1 => ⟨ρ1, d, x1.1, z, rv.mono g1 p1, r1, h2, fun y ry => ?_⟩⟩
    exact q ρ1 H1 p1 g1 s1 _ (e1.set ry i)
  · cases h
theorem k_setf (M : Mat X p c k) {o : Expr} {f : Str} {p1 : Pos} (hc : isComp e = false) (ho : PE X o (tE p X.K ca)) (hv : PE X e (tE p X.K cd)) : PS X (.Assign [.Attribute o f p1] e pos) (tS p X.K (.setf cd ca f (clsFor c.G f))) := by
  refine PS.imp (ps_fld ho hv (by cases e <;> first | rfl | (simp [isComp] at hc; done))) fun D σ H h => ?_
  obtain ⟨ρ, S, e, r, sm, en, h, q⟩ := h
  simp only [ex, Option.bind_eq_some_iff, Option.map_eq_some_iff] at h
  obtain ⟨⟨d1, S1⟩, h1, ⟨d2, S2⟩, h2, S', h3, h4⟩ := h
  subst h4
  obtain ⟨n, c', fs, e1, hi, hcc, hl, e2⟩ := putfS_some h3
  simp only at e1 hi e2
  subst e1; subst e2
  refine st1 sm en h1 fun ρ1 H1 v p1 g1 s1 e1 r1 => st1 s1 e1 h2 fun ρ2 H2 w p2 g2 s2 e2 r2 => ?_
  obtain ⟨A, eA, hA⟩ := rep_ref r2
  subst eA
  obtain ⟨q0, C, dx, ws, q1, q2, q3, q4⟩ := s2.ins hi hA
  obtain ⟨c1, c2⟩ := M.cls hcc q2
  obtain ⟨k1, k2⟩ := putF_reps (f := f) (r1.mono g2 p2) q3 q4
  have gm : Gro H2 (upd H2 A (.ins C dx (putF f v ws))) := Gro.mutI q1
  refine ⟨A, C, dx, ws, rfl, q1, c1, c2, ?_, q ρ2 _ (p1.trans p2) ((g1.trans g2).trans gm) (s2.putI q0 hA q1 q2 k1 k2) σ (e2.mono (Pre.refl _) gm)⟩
  have : ws.length = fs.length := by simpa using congrArg List.length q3
  rw [this]; exact hl
theorem k_augf (M : Mat X p c k) {o : Expr} {f : Str} {p1 : Pos} {op : Operator} {q : Bin} (hq : augB op = some q) (ho : PE X o (tE p X.K ca)) (hv : PE X e (tE p X.K cd)) : PS X (.AugAssign (.Attribute o f p1) op e pos) (tS p X.K (.augf ca f (clsFor c.G f) q cd)) := by
  refine PS.imp (ps_fldaug ho hv (pip_aug hq)) fun D σ H h => ?_
  obtain ⟨ρ, S, e, r, sm, en, h, kq⟩ := h
  simp only [ex, Option.bind_eq_some_iff] at h
  obtain ⟨⟨d1, S1⟩, h1, d, h2, ⟨d2, S2⟩, h3, z, h4, h5⟩ := h
  split at h5
  · rename_i hcl
    simp only [Option.map_eq_some_iff] at h5
    obtain ⟨S', h5, h6⟩ := h5
    subst h6
    obtain ⟨n, c', fs, e1, hi, hcc, hl⟩ := fldS_some h2
    simp only at e1 hi
    subst e1
    obtain ⟨n', c'', fs', e2, hi', hcc', hl', e3⟩ := putfS_some h5
    cases e2
    subst e3
    have hcl : (insAt S1 n).map (·.1) = (insAt S2 n).map (·.1) := hcl
    rw [hi, hi'] at hcl
    simp only [Option.map_some, Option.some.injEq] at hcl
    subst hcl
    refine st1 sm en h1 fun ρ1 H1 v p1 g1 s1 e1 r1 => ?_
    obtain ⟨A, eA, hA⟩ := rep_ref r1
    subst eA
    obtain ⟨_, C, dx, ws, q1, q2, q3, q4⟩ := s1.ins hi hA
    obtain ⟨u, l1, l2⟩ := Rep.of_lookup q3 q4 hl
    obtain ⟨c1, c2⟩ := M.cls hcc q2
    refine ⟨A, C, dx, ws, u, rfl, q1, c1, c2, l1, st1 s1 e1 h3 fun ρ2 H2 w p2 g2 s2 e2 r2 => ?_⟩
    refine ⟨ρ2, d, _, z, l2.mono g2 p2, r2, h4, fun y ry => ?_⟩
    have hA2 := p2 _ _ hA
    obtain ⟨q0', C', dx', ws', q1', q2', q3', q4'⟩ := s2.ins hi' hA2
    rw [q2] at q2'
    cases q2'
    obtain ⟨k1, k2⟩ := putF_reps (f := f) ry q3' q4'
    have gm : Gro H2 (upd H2 A (.ins C dx' (putF f y ws'))) := Gro.mutI q1'
    refine ⟨dx', ws', q1', ?_, kq ρ2 _ (p1.trans p2) ((g1.trans g2).trans gm) (s2.putI q0' hA2 q1' q2 k1 k2) σ (e2.mono (Pre.refl _) gm)⟩
    have : ws'.length = fs'.length := by simpa using congrArg List.length q3'
    rw [this]; exact hl'
  · cases h5
theorem k_for (M : Mat X p c k) {tg it : Expr} {t : Tg} (hs : notSet it = true) (hi : PI X tg it (tI p X.K ci)) (hg : PG X tg (tG X.K t)) (hb : PSs X sts (tS p X.K sb)) : PS X (.For tg it sts [] pos) (tS p X.K (.for_ ci t sb)) := by
  refine PS.imp (ps_for (by rw [M.xe]; exact PassesOwn.never) M.calm hi hg hb (foldNo hs _)) fun D σ H h => ?_
  obtain ⟨ρ, S, e, r, sm, en, h, q⟩ := h
  simp only [ex, Option.bind_eq_some_iff] at h
  obtain ⟨⟨d1, S1⟩, h1, h2⟩ := h
  split at h2
  · rename_i items cks hd
    simp only at hd
    subst hd
    refine ⟨ρ, S, e, items, cks, S1, sm, en, h1, fun ρ1 H1 J p1 g1 s1 ok => ?_⟩
    refine ⟨fun i m σ2 H2 => m = items.length - i ∧ i ≤ items.length ∧ ∃ (ρ2 : List Addr) (S2 : Store) (e2 : Env'), Pre ρ1 ρ2 ∧ Gro H1 H2 ∧ Sim X.K ρ2 S2 H2 ∧ EnvR X.K ρ2 H2 e2 σ2 ∧ forL (ex p sb) t cks (items.drop i) e2 S2 = some r,
      ⟨items.length, by simp, Nat.zero_le _, ρ1, S1, e, Pre.refl _, Gro.refl _, s1, en.mono p1 g1, by simpa using h2⟩, ?_⟩
    rintro i m σ2 H2 ⟨rfl, hle, ρ2, S2, e2, p2, g2, s2, en2, h5⟩
    cases hdr : items.drop i with
    | nil =>
      rw [hdr] at h5
      simp only [forL] at h5
      split at h5
      · rename_i hc
        cases h5
        exact .inl ⟨((ok ρ2 S2 H2 p2 g2 s2 hc) i).1 (drop_nil hdr hle), q ρ2 H2 (p1.trans p2) (g1.trans g2) s2 σ2 en2⟩
      · cases h5
    | cons d rr =>
      obtain ⟨hdi, hdr2, hlt⟩ := drop_cons hdr
      rw [hdr] at h5
      simp only [forL] at h5
      split at h5
      · rename_i hc
        obtain ⟨go, yl⟩ := ((ok ρ2 S2 H2 p2 g2 s2 hc) i).2 d hdi
        simp only [Option.bind_eq_some_iff] at h5
        obtain ⟨e3, hbd, ⟨f4, e4, S4⟩, hbo, h6⟩ := h5
        refine .inr ⟨go, fun σ' H' => ∃ m', m' < items.length - i ∧ (m' = items.length - (i + 1) ∧ i + 1 ≤ items.length ∧ ∃ (ρ2 : List Addr) (S2 : Store) (e2 : Env'), Pre ρ1 ρ2 ∧ Gro H1 H' ∧ Sim X.K ρ2 S2 H' ∧ EnvR X.K ρ2 H' e2 σ' ∧ forL (ex p sb) t cks (items.drop (i + 1)) e2 S2 = some r), fun σ' H' z => z, fun x H3 hy => ?_⟩
        obtain ⟨g3, s3, r3⟩ := yl x H3 hy
        refine ⟨ρ2, S2, e2, d, e3, s3, en2.mono (Pre.refl _) g3, r3, hbd, fun σ4 en4 _ => ⟨ρ2, S2, e3, _, s3, en4, hbo, fun ρ5 H5 p5 g5 s5 => ?_⟩⟩
        cases f4 with
        | nx => exact fun σ6 en6 => ⟨items.length - (i + 1), by omega, rfl, hlt, ρ5, S4, e4, p2.trans p5, (g2.trans g3).trans g5, s5, en6, by rw [hdr2]; exact h6⟩
        | ct => exact fun σ6 en6 => ⟨items.length - (i + 1), by omega, rfl, hlt, ρ5, S4, e4, p2.trans p5, (g2.trans g3).trans g5, s5, en6, by rw [hdr2]; exact h6⟩
        | bk =>
          simp only [Option.some.injEq] at h6
          subst h6
          exact fun σ6 en6 => q ρ5 H5 (p1.trans (p2.trans p5)) (g1.trans ((g2.trans g3).trans g5)) s5 σ6 en6
        | rt v =>
          simp only [Option.some.injEq] at h6
          subst h6
          exact fun w rw' => q ρ5 H5 (p1.trans (p2.trans p5)) (g1.trans ((g2.trans g3).trans g5)) s5 w rw'
      · cases h5
  · cases h2
theorem k_while (M : Mat X p c k) (ht : PT X e (tTs p X.K ca)) (hb : PSs X sts (tS p X.K sb)) : PS X (.While e sts [] pos) (tS p X.K (.whl ca sb)) := by
  refine PS.imp (ps_while (by rw [M.xe]; exact PassesOwn.never) ht hb) fun D σ H h => ?_
  obtain ⟨ρ, S, e, r, sm, en, h, q⟩ := h
  simp only [ex] at h
  refine ⟨fun m σ2 H2 => ∃ (ρ2 : List Addr) (S2 : Store) (e2 : Env'), Pre ρ ρ2 ∧ Gro H H2 ∧ Sim X.K ρ2 S2 H2 ∧ EnvR X.K ρ2 H2 e2 σ2 ∧ whL (ev p ca) (ex p sb) m e2 S2 = some r, ⟨p.W, ρ, S, e, Pre.refl _, Gro.refl _, sm, en, h⟩, ?_⟩
  rintro m σ2 H2 ⟨ρ2, S2, e2, p2, g2, s2, en2, h5⟩
  cases m with
  | zero => simp [whL] at h5
  | succ m =>
    simp only [whL, Option.bind_eq_some_iff] at h5
    obtain ⟨⟨bv, S3⟩, hcnd, h6⟩ := h5
    split at h6
    · rename_i hbv
      simp only at hbv
      subst hbv
      simp only [Option.bind_eq_some_iff] at h6
      obtain ⟨⟨f4, e4, S4⟩, hbo, h7⟩ := h6
      refine stT s2 en2 hcnd fun ρ3 H3 p3 g3 s3 en3 => ?_
      rw [if_pos rfl]
      refine ⟨fun σ' H' => ∃ m', m' < m + 1 ∧ ∃ (ρ2 : List Addr) (S2 : Store) (e2 : Env'), Pre ρ ρ2 ∧ Gro H H' ∧ Sim X.K ρ2 S2 H' ∧ EnvR X.K ρ2 H' e2 σ' ∧ whL (ev p ca) (ex p sb) m' e2 S2 = some r, fun σ' H' z => z, ρ3, S3, e2, _, s3, en3, hbo, fun ρ5 H5 p5 g5 s5 => ?_⟩
      cases f4 with
      | nx => exact fun σ6 en6 => ⟨m, by omega, ρ5, S4, e4, p2.trans (p3.trans p5), (g2.trans g3).trans g5, s5, en6, h7⟩
      | ct => exact fun σ6 en6 => ⟨m, by omega, ρ5, S4, e4, p2.trans (p3.trans p5), (g2.trans g3).trans g5, s5, en6, h7⟩
      | bk =>
        simp only [Option.some.injEq] at h7
        subst h7
        exact fun σ6 en6 => q ρ5 H5 (p2.trans (p3.trans p5)) ((g2.trans g3).trans g5) s5 σ6 en6
      | rt v =>
        simp only [Option.some.injEq] at h7
        subst h7
        exact fun w rw' => q ρ5 H5 (p2.trans (p3.trans p5)) ((g2.trans g3).trans g5) s5 w rw'
    · rename_i hbv
      simp only at hbv
      subst hbv
      simp only [Option.some.injEq] at h6
      subst h6
      refine stT s2 en2 hcnd fun ρ3 H3 p3 g3 s3 en3 => ?_
      rw [if_neg (by decide)]
      exact q ρ3 H3 (p2.trans p3) (g2.trans g3) s3 σ2 en3
    · cases h6
theorem k_par2 (M : Mat X p c k) {x y : Str} {i j : Nat} {px py pt p2 : Pos} {kt k2 : Nat} (hp : parN c (.Tuple [.Name x px, .Name y py] kt pt) (.Tuple [a, b] k2 p2) = some [x, y]) (hi : ixOf c.N x = some i) (hj : ixOf c.N y = some j) (hij : i ≠ j)
    (h1 : notStar a = true) (h2 : notStar b = true) (hx : c.names.lookup x = some .local) (hy : c.names.lookup y = some .local) (ha : PE X a (tE p X.K ca)) (hb : PE X b (tE p X.K cb)) :
    PS X (.Assign [.Tuple [.Name x px, .Name y py] kt pt] (.Tuple [a, b] k2 p2) pos) (tS p X.K (.asg (.tp 2 (.cons (.nm i) (.cons (.nm j) .nil))) (.tup (.cons ca (.cons cb .nil))))) := by
  have hA : PA X [a, b] (tA p X.K (.cons ca (.cons cb .nil))) := k_acons h1 ha (k_acons h2 hb k_anil)
  refine PS.imp (ps_par (i := i) (j := j) M.calm (by rw [M.hN]; exact M.nd) (by rw [M.hN]; exact ixOf_get hi) (by rw [M.hN]; exact ixOf_get hj) hij (by rw [M.sc]; exact hx) (by rw [M.sc]; exact hy) hA (parN_ok (names := []) M hp)) fun D σ H h => ?_
  obtain ⟨ρ, S, e, r, sm, en, h, q⟩ := h
  simp only [ex, Option.bind_eq_some_iff, Option.map_eq_some_iff] at h
  obtain ⟨⟨d0, S0⟩, h1, e1, h2, h3⟩ := h
  subst h3
  rw [ev] at h1
  simp only [Option.bind_eq_some_iff] at h1
  obtain ⟨⟨dd, S1⟩, h4, h5⟩ := h1
  split at h5
  · rename_i ds hd
    simp only at hd
    subst hd
    obtain ⟨hz, h6⟩ := okI_some h5
    cases h6
    refine stA sm en h4 fun ρ1 H1 vs p1 g1 s1 en1 r1 => ?_
    simp only [bindT] at h2
    split at h2
    · rename_i hn
      match ds, hn, r1 with
      | [d1, d2], _, .cons r1 (.cons r2 .nil) =>
        simp only [bindTs, bindT, Option.bind_eq_some_iff] at h2
        obtain ⟨e2, h6, e3, h7, h8⟩ := h2
        split at h6
        · cases h6
          split at h7
          · cases h7
            cases h8
            exact ⟨_, _, rfl, q ρ1 H1 p1 g1 s1 _ ((en1.set r1 i).set r2 j)⟩
          · cases h7
        · cases h6
    · cases h2
  · cases h5
theorem k_par3 (M : Mat X p c k) {x y z : Str} {i j l : Nat} {px py pz pt p2 : Pos} {kt k2 : Nat} (hp : parN c (.Tuple [.Name x px, .Name y py, .Name z pz] kt pt) (.Tuple [a, b, d] k2 p2) = some [x, y, z])
    (hi : ixOf c.N x = some i) (hj : ixOf c.N y = some j) (hl : ixOf c.N z = some l) (hij : i ≠ j) (hil : i ≠ l) (hjl : j ≠ l)
    (h1 : notStar a = true) (h2 : notStar b = true) (h3 : notStar d = true) (hx : c.names.lookup x = some .local) (hy : c.names.lookup y = some .local) (hz : c.names.lookup z = some .local) (ha : PE X a (tE p X.K ca)) (hb : PE X b (tE p X.K cb)) (hd : PE X d (tE p X.K cd)) :
    PS X (.Assign [.Tuple [.Name x px, .Name y py, .Name z pz] kt pt] (.Tuple [a, b, d] k2 p2) pos) (tS p X.K (.asg (.tp 3 (.cons (.nm i) (.cons (.nm j) (.cons (.nm l) .nil)))) (.tup (.cons ca (.cons cb (.cons cd .nil)))))) := by
  have hA : PA X [a, b, d] (tA p X.K (.cons ca (.cons cb (.cons cd .nil)))) := k_acons h1 ha (k_acons h2 hb (k_acons h3 hd k_anil))
  refine PS.imp (ps_par3 (i := i) (j := j) (l := l) M.calm (by rw [M.hN]; exact M.nd) (by rw [M.hN]; exact ixOf_get hi) (by rw [M.hN]; exact ixOf_get hj) (by rw [M.hN]; exact ixOf_get hl) hij hil hjl (by rw [M.sc]; exact hx) (by rw [M.sc]; exact hy) (by rw [M.sc]; exact hz) hA (parN_ok (names := []) M hp)) fun D σ H h => ?_
  obtain ⟨ρ, S, e, r, sm, en, h, q⟩ := h
  simp only [ex, Option.bind_eq_some_iff, Option.map_eq_some_iff] at h
  obtain ⟨⟨d0, S0⟩, h1, e1, h2, h3⟩ := h
  subst h3
  rw [ev] at h1
  simp only [Option.bind_eq_some_iff] at h1
  obtain ⟨⟨dd, S1⟩, h4, h5⟩ := h1
  split at h5
  · rename_i ds hd
    simp only at hd
    subst hd
    obtain ⟨hz, h6⟩ := okI_some h5
    cases h6
    refine stA sm en h4 fun ρ1 H1 vs p1 g1 s1 en1 r1 => ?_
    simp only [bindT] at h2
    split at h2
    · rename_i hn
      match ds, hn, r1 with
      | [d1, d2, d3], _, .cons r1 (.cons r2 (.cons r3 .nil)) =>
        simp only [bindTs, bindT, Option.bind_eq_some_iff] at h2
        obtain ⟨e2, h6, e3, h7, e4, h8, h9⟩ := h2
        split at h6
        · cases h6
          split at h7
          · cases h7
            split at h8
            · cases h8
              cases h9
              exact ⟨_, _, _, rfl, q ρ1 H1 p1 g1 s1 _ (((en1.set r1 i).set r2 j).set r3 l)⟩
            · cases h8
          · cases h7
        · cases h6
    · cases h2
  · cases h5
end
end Tm

set_option Elab.async false
set_option linter.all false
set_option maxRecDepth 100000
set_option maxHeartbeats 4000000
namespace Tm
open PySem PySem.Spec PyProof.Rows L2
section
variable {X : Cx} {p : Pm} {c : Cc} {k : Nat}
theorem k_cPar (M : Mat X p c k) (n : Nat) {t v : Expr} {nm : List Str} {pos : Pos} (hp : parN c t v = some nm) : PS X (.Assign [t] v pos) (tS p X.K (cPar n c t v nm)) := by
  have sn := snd_all p k n
  unfold cPar
  split
  · rename_i x px y py kt pt a b k2 p2
    split
    · rename_i i j hi hj
      split
      · rename_i hc
        simp only [Bool.and_eq_true, decide_eq_true_eq, Bool.not_eq_true', beq_eq_false_iff_ne, beq_iff_eq] at hc
        obtain ⟨⟨⟨⟨⟨h1, h2⟩, h3⟩, h4⟩, h5⟩, h6⟩ := hc
        exact k_par2 M (by rw [← h1]; exact hp) hi hj h4 h5 h6 h2 h3 (sn.e X c M a) (sn.e X c M b)
      · exact k_sbad
    · exact k_sbad
  · rename_i x px y py z pz kt pt a b d k2 p2
    split
    · rename_i i j l hi hj hl
      split
      · rename_i hc
        simp only [Bool.and_eq_true, decide_eq_true_eq, Bool.not_eq_true', beq_eq_false_iff_ne, beq_iff_eq] at hc
        obtain ⟨⟨⟨⟨⟨⟨⟨⟨⟨h1, h2⟩, h3⟩, h4⟩, h5⟩, h6⟩, h7⟩, h8⟩, h9⟩, h10⟩ := hc
        exact k_par3 M (by rw [← h1]; exact hp) hi hj hl h5 h6 h7 h8 h9 h10 h2 h3 h4 (sn.e X c M a) (sn.e X c M b) (sn.e X c M d)
      · exact k_sbad
    · exact k_sbad
  · exact k_sbad
theorem k_asgName (M : Mat X p c k) (n m : Nat) {x : Str} {px pos : Pos} {e : Expr} : PS X (.Assign [.Name x px] e pos) (tS p X.K (if (isComp e && !onlyLc e) = true then .bad else .asg (cTg m c (.Name x px)) (cE n c e))) := by
  have sn := snd_all p k n
  split
  · exact k_sbad
  · rename_i hc
    have gb : ∀ {ca : C}, PS X (.Assign [.Name x px] e pos) (tS p X.K (.asg .bad ca)) := fun {ca} => ⟨fun _ _ _ _ _ _ h => by
      obtain ⟨_, _, _, _, _, _, h, _⟩ := h
      simp only [ex, Option.bind_eq_some_iff, Option.map_eq_some_iff] at h
      obtain ⟨x, _, e1, h2, _⟩ := h
      simp [bindT] at h2⟩
    have cb : ∀ {t : Tg}, PS X (.Assign [.Name x px] e pos) (tS p X.K (.asg t .bad)) := fun {t} => ⟨fun _ _ _ _ _ _ h => by
      obtain ⟨_, _, _, _, _, _, h, _⟩ := h
      simp only [ex, ev, Option.bind_eq_some_iff] at h
      obtain ⟨x, h1, _⟩ := h
      cases h1⟩
    unfold cTg
    split
    · rename_i hl
      split
      · rename_i i hi
        by_cases hcp : isComp e = true
        · cases e with
          | ListComp elt gs scope ps =>
            cases n with
            | zero => unfold cE; exact cb
            | succ n =>
              have sm := snd_all p k n
              unfold cE
              simp only
              split
              · rename_i tg it ifs
                split
                · rename_i hb
                  rw [Bool.and_eq_true, Bool.and_eq_true] at hb
                  refine k_asgLc M hl hi hb.1.1 hb.1.2 hb.2 (sm.i X c M tg it) (fun X' M' => (k_tg_all M' n).1 tg) (fun X' M' => ?_) (fun X' M' => sm.e X' _ M' elt)
                  split
                  · exact k_ifs0
                  · exact k_ifs1 (sm.t X' _ M' _)
                  · exact k_ifsbad
                · exact cb
              · exact cb
          | SetComp => simp [isComp, onlyLc] at hc
          | DictComp => simp [isComp, onlyLc] at hc
          | _ => simp [isComp] at hcp
        · exact k_asgN M hl hi (by cases e <;> first | rfl | (simp [isComp] at hcp; done)) (sn.e X c M e)
      · exact gb
    · exact gb
structure SndS (p : Pm) (k n : Nat) : Prop where
  s : ∀ (X : Cx) (c : Cc), Mat X p c k → ∀ s, PS X s (tS p X.K (cS n c s))
  ss : ∀ (X : Cx) (c : Cc), Mat X p c k → ∀ s, PSs X s (tS p X.K (cSs n c s))
theorem snds_all (p : Pm) (k : Nat) : ∀ n, SndS p k n
  | 0 => ⟨fun X c M s => by unfold cS; exact k_sbad, fun X c M s => by unfold cSs; exact k_ssbad⟩
  | n + 1 => by
    have ih := snds_all p k n
    have sn := snd_all p k n
    refine ⟨fun X c M s => ?_, fun X c M ss => ?_⟩
    · cases s with
      | Expr e pos =>
        unfold cS
        simp only
        split
        · exact k_sbad
        · rename_i h; exact k_drop (by simpa using h) (sn.e X c M e)
      | Return e pos =>
        cases e with
        | none => exact k_retN
        | some e => exact k_ret (sn.e X c M e)
      | Assign ts e pos =>
        unfold cS
        simp only
        split
        · rename_i t
          split
          · exact k_asgName M n n
          · rename_i ts k1 p1
            split
            · exact k_sbad
            · rename_i hc
              have hc' : isComp e = false := by simpa using hc
              split
              · rename_i hn
                exact k_asgT M hn hc' ((k_tg_all M n).1 _) (sn.e X c M e)
              · split
                · rename_i nm hp; exact k_cPar M n hp
                · exact k_sbad
          · rename_i o i p1
            split
            · exact k_sbad
            · rename_i hc
              rw [Bool.or_eq_true, not_or] at hc
              exact k_seti (by have := M.hu; omega) (by simpa using hc.1) (by simpa using hc.2) (sn.e X c M o) (sn.e X c M i) (sn.e X c M e)
          · rename_i o f p1
            split
            · exact k_sbad
            · rename_i hc
              exact k_setf M (by simpa using hc) (sn.e X c M o) (sn.e X c M e)
          · exact k_sbad
        · exact k_sbad
      | AugAssign t op e pos =>
        unfold cS
        simp only
        split
        · rename_i x px
          split
          · rename_i i o hi ho
            split
            · rename_i hl; exact k_aug M hl hi ho (sn.e X c M e)
            · exact k_sbad
          · exact k_sbad
        · rename_i o f p1
          split
          · rename_i q hq; exact k_augf M hq (sn.e X c M o) (sn.e X c M e)
          · exact k_sbad
        · exact k_sbad
      | If t a b pos => exact k_if (sn.t X c M t) (ih.ss X c M a) (ih.ss X c M b)
      | For t it b o pos =>
        unfold cS
        simp only
        split
        · split
          · rename_i hs; exact k_for M hs (sn.i X c M t it) ((k_tg_all M n).1 t) (ih.ss X c M b)
          · exact k_sbad
        · exact k_sbad
      | While t b o pos =>
        unfold cS
        simp only
        split
        · exact k_while M (sn.t X c M t) (ih.ss X c M b)
        · exact k_sbad
      | Pass pos => exact k_pass
      | Break pos => exact k_brk
      | Continue pos => exact k_cont
      | _ => exact k_sbad
    · cases ss with
      | nil => exact k_sskip
      | cons s r => exact k_seq (ih.s X c M s) (ih.ss X c M r)
end
end Tm

set_option Elab.async false
set_option linter.all false
set_option maxRecDepth 100000
set_option maxHeartbeats 4000000
namespace Tm
open PySem PySem.Spec PyProof.Rows L2
/-! ## whole programs -/
/-- a program: parameters, slots, body of each def; the constants; the module's dicts -/
structure Pr where
  fs : Nat → Option (Nat × Nat × St)
  gl : Nat → D
  kd : Nat → List (Str × D)
  fx : Str → Option Nat
def fin : Option (Fl × Env' × Store) → Option (D × Store)
  | some (.rt d, _, S) => some (d, S)
  | some (.nx, _, S) => some (.non, S)
  | _ => none
def env0 (np ns : Nat) (ds : List D) : Env' := ds.map some ++ List.replicate (ns - np) none
def run (q : Pr) (W : Nat) : Nat → Nat → List D → Store → Option (D × Store)
  | 0, _, _, _ => none
  | k + 1, f, ds, S => match q.fs f with
    | some (np, ns, body) => if ds.length = np then fin (ex ⟨run q W k, q.gl, q.kd, W, q.fx⟩ body (env0 np ns ds) S) else none
    | none => none
abbrev pm (q : Pr) (W k : Nat) : Pm := ⟨run q W k, q.gl, q.kd, W, q.fx⟩
theorem run_arity {q : Pr} {W k f np ns : Nat} {body : St} (h : q.fs f = some (np, ns, body)) : Arity (run q W k) f np := by
  intro ds S x e
  cases k with
  | zero => cases e
  | succ k =>
    simp only [run, h] at e
    split at e
    · assumption
    · cases e
/-- how the text's defs stand in the heap behind the top -/
structure Stands (K : PySem.W.Frag) (mg : Str → Option Value) (w : World) (q : Pr) (G : Gx) (n : Nat) : Prop where
  funs : ∀ (x : Str) (f : Nat) (ps : List Str), G.funs.lookup x = some (f, ps) → ∃ (a : Addr) (fd : FuncData) (qual : Str) (st : Stmt) (N : List Str), mg x = some (.ref a) ∧ Fun K x qual st a fd ∧ FnScope N ps (defScope st) ∧ Binds K fd ps [] ∧
    (∀ r ∈ G.kws, r.1 = x → ∀ (t : Shared) (us ws : List Value), us.length = r.2.1 → ws.length = r.2.2.1.length → BindsTo t fd ⟨us, r.2.2.1.zip ws⟩ (ps.zip (pick r.2.2.2 (us ++ ws)))) ∧
    q.fs f = some (ps.length, N.length, cSs n ⟨N, (defScope st).names, none, G⟩ (defBody st))
  cons : ∀ (x : Str) (g : Nat), G.cons.lookup x = some g → ∃ (u : Value) (v : V), mg x = some u ∧ RelV v u ∧ ∀ ρ H, Rep K ρ H v (q.gl g)
  dics : ∀ (x : Str) (g : Nat), G.dics.lookup x = some g → ∃ (a : Addr) (es : Array DictEntry) (n : Nat), mg x = some (.ref a) ∧ KDict K w a es n ∧
    ∀ z : Str, match lookK (q.kd g) z with
      | none => PySem.W.nsIn K a z = some none
      | some d => ∃ (u : Value) (v : V), PySem.W.nsIn K a z = some (some u) ∧ RelV v u ∧ ∀ ρ H, Rep K ρ H v d
  blt : ∀ x : Str, G.blt.contains x = true → mg x = none
  fnv : ∀ (x : Str) (a : Addr), PySem.W.nsIn K mainGlobals x = some (some (.ref a)) → mg x = some (.ref a)
  fxs : ∀ (x : Str) (i : Nat), q.fx x = some i → ∃ ps, G.funs.lookup x = some (i, ps)
  clss : ∀ (x : Str) (f : Nat) (ps fl : List Str), G.clss.lookup x = some (f, ps, fl) → ∃ (C fa : Addr) (fd : FuncData) (qual : Str) (st : Stmt) (N : List Str), mg x = some (.ref C) ∧ PySem.W.nsIn K mainGlobals x = some (some (.ref C)) ∧ Mk K C fa ∧ Fun K "__init__" qual st fa fd ∧ FnScope N ps (defScope st) ∧ Binds K fd ps [] ∧
    q.fs f = some (ps.length, N.length, cSs n ⟨N, (defScope st).names, none, G⟩ (defBody st))
  flds : ∀ e ∈ G.clss, ∀ C, PySem.W.nsIn K mainGlobals e.1 = some (some (.ref C)) → Cls K C ∧ ∀ f ∈ e.2.2.2, NoAttr K C f
theorem start_env {K : PySem.W.Frag} {ρ : List Addr} {H : Hp} {vs : List V} {ds : List D} {N : List Str} {np : Nat} (r : Reps K ρ H vs ds) (hn : ds.length = np) : EnvR K ρ H (env0 np N.length ds) (L2.start N vs) := by
  subst hn
  unfold env0 L2.start
  rw [r.length]
  refine ⟨by simp [r.length], fun i d h => ?_⟩
  by_cases hi : i < ds.length
  · rw [List.getElem?_append_left (by simpa using hi), List.getElem?_map] at h
    cases e : ds[i]? with
    | none => rw [e] at h; cases h
    | some f =>
      rw [e] at h
      cases h
      obtain ⟨v, h1, h2⟩ := r.get e
      refine ⟨v, ?_, h2⟩
      rw [List.getElem?_append_left (by rw [List.length_map, r.length]; exact hi), List.getElem?_map, h1]
      rfl
  · rw [List.getElem?_append_right (by simpa using hi), List.getElem?_replicate] at h
    split at h <;> cases h
theorem fng_zero {P : Program} {w : World} {K : PySem.W.Frag} {mg : Str → Option Value} {base : Heap} {q : Pr} {W f : Nat} {a : Addr} {fd : FuncData} {ps : List Str} : FnG P w K mg base 0 a fd ps (spR K ps.length ((pm q W 0).R f)) :=
  ⟨fun vs H Q h => h.1, fun B out t H as us vs Q _ _ _ _ _ h => by
    obtain ⟨_, ρ, S, ds, d, S', _, _, e, _⟩ := h
    cases e⟩
theorem fng_succ {P : Program} {w : World} {K : PySem.W.Frag} {mg : Str → Option Value} {base : Heap} {q : Pr} {G : Gx} {n : Nat} {W k f : Nat} {x qual : Str} {st : Stmt} {a : Addr} {fd : FuncData} {N ps : List Str} (F : Fun K x qual st a fd) (S : FnScope N ps (defScope st))
    (hq : q.fs f = some (ps.length, N.length, cSs n ⟨N, (defScope st).names, none, G⟩ (defBody st))) (ih : GMat P w K mg base (pm q W k) G k) : FnG P w K mg base (k + 1) a fd ps (spR K ps.length ((pm q W (k + 1)).R f)) := by
  refine fnG_of F S (fun vs H Q h => h.1) fun cdv B out t H vs Q room gd h => ?_
  have M : Mat (cxOf CX0 P w K mg base N qual (defScope st) a cdv B out t H E0).nox (pm q W k) ⟨N, (defScope st).names, none, G⟩ k :=
    ⟨rfl, S.nd, rfl, S.kind, rfl, gd, room, rfl, fun x _ => .inl rfl, ih⟩
  refine ⟨_, (snds_all (pm q W k) k n).ss _ _ M (defBody st), ?_⟩
  obtain ⟨hl, ρ, S0, ds, d, S', sm, rs, e, kq⟩ := h
  simp only [run, hq] at e
  split at e
  · rename_i hn
    unfold fin at e
    split at e
    · rename_i d' e' S'' he
      cases e
      exact ⟨ρ, S0, _, _, sm, start_env rs hn, he, fun ρ' H' p1 g1 s1 v rv => kq ρ' H' v p1 g1 s1 rv⟩
    · rename_i e' S'' he
      cases e
      exact ⟨ρ, S0, _, _, sm, start_env rs hn, he, fun ρ' H' p1 g1 s1 σ' en => kq ρ' H' .non p1 g1 s1 .non⟩
    · cases e
  · cases e
theorem gmat_all {P : Program} {w : World} {K : PySem.W.Frag} {mg : Str → Option Value} {base : Heap} {q : Pr} {G : Gx} {n : Nat} (T : Stands K mg w q G n) (W : Nat) : ∀ k : Nat, GMat P w K mg base (pm q W k) G k := by
  intro k
  induction k with
  | zero =>
    refine ⟨fun x f ps h => ?_, T.cons, T.dics, T.blt, fun x f ps h => ?_, T.fnv, T.fxs, fun x f ps fl h => ?_, T.flds⟩
    · obtain ⟨a, fd, qual, st, N, h1, F, S, hb, hk, hq⟩ := T.funs x f ps h
      exact ⟨a, fd, h1, F.kp, fng_zero, hb, hk⟩
    · obtain ⟨a, fd, qual, st, N, h1, F, S, hb, hk, hq⟩ := T.funs x f ps h
      exact run_arity hq
    · obtain ⟨C, fa, fd, qual, st, N, h1, h2, M, F, S, hb, hq⟩ := T.clss x f ps fl h
      exact ⟨C, fa, fd, h1, h2, M, fng_zero, hb, run_arity hq⟩
  | succ k ih =>
    refine ⟨fun x f ps h => ?_, T.cons, T.dics, T.blt, fun x f ps h => ?_, T.fnv, T.fxs, fun x f ps fl h => ?_, T.flds⟩
    · obtain ⟨a, fd, qual, st, N, h1, F, S, hb, hk, hq⟩ := T.funs x f ps h
      exact ⟨a, fd, h1, F.kp, fng_succ F S hq ih, hb, hk⟩
    · obtain ⟨a, fd, qual, st, N, h1, F, S, hb, hk, hq⟩ := T.funs x f ps h
      exact run_arity hq
    · obtain ⟨C, fa, fd, qual, st, N, h1, h2, M, F, S, hb, hq⟩ := T.clss x f ps fl h
      exact ⟨C, fa, fd, h1, h2, M, fng_succ F S hq ih, hb, run_arity hq⟩
end Tm

set_option Elab.async false
set_option linter.all false
set_option maxRecDepth 100000
set_option maxHeartbeats 4000000
namespace Tm
open PySem PySem.Spec PyProof.Rows L2
/-! ## the law's own call -/
theorem room_caller {k : Nat} (h : k ≤ 200) : Room k callerA := ⟨rfl, by
  have e : callerA.depth = 1 + claimMargin := rfl
  rw [e]
  have : 1 + claimMargin + 3 * 200 + 5 < recursionLimit := by decide
  omega, by
  have e : callerA.units = 4 := rfl
  rw [e]
  have : 4 + 16 * 200 + 200 < cLine := by decide
  omega⟩
/-- what the law's def does, asked of the machine: at the script's ints it hands back True -/
def Says (q : Pr) (f : Nat) (ns : List Int) : Prop := ∃ (W k : Nat) (S : Store), k ≤ 200 ∧ run q W k f [.ref 0] [.ro (ns.map D.int)] = some (.bl true, S)
section
variable {P : Program} {w : World} {K : PySem.W.Frag} {mg mb : Str → Option Value} {fa a : Addr} {fd : FuncData} {t : Shared} {vs : List Value} {ns : List Int} {q : Pr} {f : Nat}
/-- from an abstract heap that knows the script at most -/
theorem law_from {k W : Nat} {S : Store} (H : Hp) (only : ∀ b u, H b = some u → b = a ∧ ∃ o xs, u = .frz o (.lst xs)) (apart : ∀ u, H a = some u → K.lookup a = none) (fx : Fix K H a (ns.map V.int)) (hok : HOk P w H t.heap)
    (KX : K.In t.heap) (hns : t.heap.Ns mainGlobals mg) (hb : t.heap.Ns builtinsNs mb) (hbb : ∀ x : Str, x ≠ "__name__" → mb x = bootBuiltins x) (hlim : t.heap.NoLimit) (hg : t.gens = #[]) (ha : t.heap.get? a = some { cls := .type "list", data := .seq vs.toArray })
    (hk : k ≤ 200) (F : ∀ base : Heap, K.In base → base.Ns mainGlobals mg → FnG P w K mg base k fa fd ["script"] (spR K 1 (run q W k f))) (hbind : ∀ (s : Shared) (u : Value), BindsTo s fd ⟨[u], []⟩ [(("script" : Str), u)])
    (hrun : run q W k f [.ref 0] [.ro (ns.map D.int)] = some (.bl true, S)) :
    codeAny (model P w) callerA (.call (.ref fa) ⟨[.ref a], []⟩) (fun r s' => r = .ok (.ret (.bool true)) ∧ OldK t.heap s'.heap ∧ s'.os = t.os ∧ AllBare s'.gens) t := by
  have keepD : ∀ {b : Addr} {m : Str → Option Value}, t.heap.Ns b m → (hidT t.heap H).Ns b m := by
    intro b m h
    obtain ⟨o, es, ep, h1, h2, h3⟩ := h
    refine ⟨o, es, ep, hidT_get h1 ?_, h2, h3⟩
    cases z : H b with
    | none => rfl
    | some u =>
      obtain ⟨e, _⟩ := only b u z
      subst e
      rw [ha] at h1
      cases h1
      cases h2
  have inB : K.In (hidT t.heap H) := by
    intro b o hb'
    refine hidT_get (KX b o hb') ?_
    cases z : H b with
    | none => rfl
    | some u =>
      obtain ⟨e, _⟩ := only b u z
      subst e
      rw [apart u z] at hb'
      cases hb'
  have modB : Mod K mg (hidT t.heap H) := by
    obtain ⟨mc, l1, l2⟩ := hlim
    exact ⟨inB, keepD hns, ⟨mb, keepD hb, hbb⟩, ⟨mc, keepD l1, l2⟩⟩
  have e0 : Env0 P w K mg (hidT t.heap H) callerA [] t H := by
    refine ⟨rfl, modB, fun b o e => of_hidT e, ?_, trivial, fun b hb' => ?_, hok, .of_eq hg⟩
    · rw [hidT_size]; exact Nat.le_refl _
    · cases hb'
  have sim : Sim K [a] [.ro (ns.map D.int)] H := by
    refine ⟨rfl, fun n o A e ea => ?_, fun m n A _ _ m1 _ => ?_⟩
    · match n, e, ea with
      | 0, e, ea =>
        cases e
        cases ea
        exact ⟨_, fx, reps_ints ns⟩
    · obtain ⟨xs, m1, m2⟩ := m1
      match m, m1 with
      | 0, m1 => cases m1; cases m2
  have sp : spR K 1 (run q W k f) [.ref a] H (fun v _ => v = .bl true) E0 :=
    ⟨rfl, [a], _, [.ref 0], .bl true, S, sim, .cons (.ref rfl) .nil, hrun, fun ρ' H' v _ _ _ r => rep_bl r⟩
  apply codeAny_mono ((F _ inB (keepD hns)).go callerA [] t H ⟨[.ref a], []⟩ [.ref a] [.ref a] _ (.of (room_caller hk)) rfl e0 (hbind t (.ref a)) (.cons rfl .nil) sp)
  intro r s' h
  match r, h with
  | .ok (.ret u), ⟨v, H', os, bare, un, hok', r', ev⟩ =>
    subst ev
    have eu : u = Value.bool true := r'
    subst eu
    refine ⟨rfl, OldK.of_keep fun b o e => ?_, os, bare⟩
    cases z : H b with
    | none => exact un.keep b o e z (fun x => by cases x) (fun x => by cases x)
    | some u =>
      obtain ⟨_, ob, xs, eu⟩ := only b u z
      subst eu
      have z2 := un.frzs b ob _ z
      have h1 := (hok b _ z).1
      have h2 := (hok' b _ z2).1
      rw [e] at h1
      cases h1
      exact h2
/-- the law's call, from the machine's word -/
theorem law_holds (KX : K.In t.heap) (hns : t.heap.Ns mainGlobals mg) (hb : t.heap.Ns builtinsNs mb) (hbb : ∀ x : Str, x ≠ "__name__" → mb x = bootBuiltins x) (hlim : t.heap.NoLimit) (hg : t.gens = #[]) (ha : t.heap.get? a = some { cls := .type "list", data := .seq vs.toArray })
    (hi : IntsAre vs ns) (hl : ns.length ≤ sizeLine) (F : ∀ (W k : Nat) (base : Heap), K.In base → base.Ns mainGlobals mg → FnG P w K mg base k fa fd ["script"] (spR K 1 (run q W k f))) (hbind : ∀ (s : Shared) (u : Value), BindsTo s fd ⟨[u], []⟩ [(("script" : Str), u)])
    (says : Says q f ns) : codeAny (model P w) callerA (.call (.ref fa) ⟨[.ref a], []⟩) (fun r s' => r = .ok (.ret (.bool true)) ∧ OldK t.heap s'.heap ∧ s'.os = t.os ∧ AllBare s'.gens) t := by
  obtain ⟨W, k, S, hk, hrun⟩ := says
  have rv := vals_ints hi
  have lv := hi.length
  cases hka : K.lookup a with
  | some o =>
    have e := KX a o hka
    rw [ha] at e
    cases e
    refine law_from (fun _ => none) (fun b u z => by cases z) (fun u z => by cases z) (.inr (.inr ⟨_, vs.toArray, _, hka, rfl, rfl, rfl, ?_, by simpa using rv⟩)) (fun b u z => by cases z) KX hns hb hbb hlim hg ha hk (F W k) hbind hrun
    rw [List.size_toArray, lv]; exact hl
  | none =>
    have at_ : ∀ b u, (fun b => if b = a then some (HO.frz { cls := .type "list", data := .seq vs.toArray } (.lst (ns.map V.int))) else none : Hp) b = some u → b = a ∧ u = HO.frz { cls := .type "list", data := .seq vs.toArray } (.lst (ns.map V.int)) := by
      intro b u z
      by_cases hba : b = a
      · subst hba
        simp only [if_pos] at z
        exact ⟨rfl, (Option.some.inj z).symm⟩
      · simp only [if_neg hba] at z
        cases z
    refine law_from (fun b => if b = a then some (.frz { cls := .type "list", data := .seq vs.toArray } (.lst (ns.map V.int))) else none) (fun b u z => ⟨(at_ b u z).1, _, _, (at_ b u z).2⟩) (fun _ _ => hka) (.inl ⟨_, if_pos rfl⟩) (fun b u z => ?_) KX hns hb hbb hlim hg ha hk (F W k) hbind hrun
    obtain ⟨e1, e2⟩ := at_ b u z
    subst e1; subst e2
    exact ⟨ha, by rw [List.length_map]; exact hl, vs, _, rv, ha⟩
end
/-- the goal that the head leaves -/
theorem walk_M {l : PySem.W.OpenLaw} {q0 : Program} {loose : List Str} {XP : (Str → Option Value) → Heap → Prop} {YP : World → Heap → Prop} {d : DefRec} {K : Params → PySem.W.Frag} {q : Pr} {f : Nat}
    (hn : l.most = some 63) (hdf : d.params.defaults = []) (hY : ∀ (w : World) (h : Heap), YP w h → (K w.params).In h)
    (F : ∀ (w : World) (mg : Str → Option Value) (fa : Addr) (h : Heap), (K w.params).In h → h.Ns mainGlobals mg → mg d.name = some (.ref fa) →
      ∃ fd : FuncData, (∀ (s : Shared) (u : Value), BindsTo s fd ⟨[u], []⟩ [(("script" : Str), u)]) ∧ ∀ (W k : Nat) (base : Heap), (K w.params).In base → base.Ns mainGlobals mg → FnG l.prog w (K w.params) mg base k fa fd ["script"] (spR (K w.params) 1 (run q W k f)))
    (says : ∀ ns : List Int, ns.length ≤ 63 → Says q f ns) : PySem.W.WalkO q0 loose XP YP l.row.toRowW d [] (fun g vs => PySem.call g vs) := by
  apply Att.attach_call hn hdf
  intro w s0 s1 mg mb fa o pm cd doc a vs ns G Y ho hd hcd hmg hobj hints hlen hg
  obtain ⟨fd, hbd, hF⟩ := F w mg fa _ (hY w _ Y) G.T.g hmg
  exact law_holds (hY w _ Y) G.T.g G.T.b G.T.builtins G.T.nolimit hg hobj hints (Nat.le_trans hlen (by decide)) hF hbd (says ns hlen)
end Tm

set_option Elab.async false
set_option maxRecDepth 100000
namespace Tm
open PySem L2
def b_4 : St := (.seq (.asg (.nm 2) (.bin .add (.bin .mul (.lit (.int 13)) (.var 1)) (.lit (.int 5))))
  (.seq (.ifs (.cmp .lt (.var 1) (.bi .len (.cons (.var 0) .nil))) (.seq (.asg (.nm 2) (.idx (.var 0) (.var 1)))
  .skip) .skip)
  (.seq (.asg (.nm 3) (.bin .add (.bin .add (.lit (.int 977)) (.bin .mul (.lit (.int 3)) (.var 1))) (.bin .mod (.bi .abs (.cons (.bi .int (.cons (.var 2) .nil)) .nil)) (.bin .add (.bin .pow (.lit (.int 10)) (.lit (.int 9))) (.lit (.int 7))))))
  (.seq (.for_ (.itv (.var 0)) (.nm 4) (.seq (.asg (.nm 3) (.bin .mod (.bi .int (.cons (.bin .add (.bin .mul (.var 3) (.lit (.int 524287))) (.bin .mod (.bi .int (.cons (.var 4) .nil)) (.bin .add (.bin .pow (.lit (.int 10)) (.lit (.int 18))) (.lit (.int 9))))) .nil)) (.bin .sub (.bin .pow (.lit (.int 2)) (.lit (.int 61))) (.lit (.int 1)))))
  .skip))
  (.seq (.ret (.lst (.cons (.bi .max (.cons (.lit (.int 0)) (.cons (.bin .sub (.var 2) (.bin .pow (.lit (.int 10)) (.lit (.int 18)))) .nil))) (.cons (.var 3) (.cons (.lit (.int 0)) .nil)))))
  .skip)))))
def b_5 : St := (.seq (.ifs (.cmp .gt (.idx (.var 0) (.lit (.int 0))) (.lit (.int 0))) (.seq (.asg (.nm 2) (.bin .mod (.bi .int (.cons (.idx (.var 0) (.lit (.int 0))) .nil)) (.var 1)))
  (.seq (.seti (.bin .fdiv (.idx (.var 0) (.lit (.int 0))) (.var 1)) (.var 0) (.lit (.int 0)))
  (.seq (.ret (.var 2))
  .skip))) .skip)
  (.seq (.seti (.bin .add (.idx (.var 0) (.lit (.int 2))) (.lit (.int 1))) (.var 0) (.lit (.int 2)))
  (.seq (.asg (.nm 3) (.bin .mod (.bi .int (.cons (.bin .add (.bin .pow (.bin .add (.idx (.var 0) (.lit (.int 1))) (.bin .mul (.lit (.int 1000003)) (.idx (.var 0) (.lit (.int 2))))) (.lit (.int 3))) (.bin .mul (.lit (.int 754974721)) (.idx (.var 0) (.lit (.int 2))))) .nil)) (.bin .add (.bin .pow (.lit (.int 10)) (.lit (.int 18))) (.lit (.int 9)))))
  (.seq (.ret (.bin .mod (.bin .fdiv (.bin .mod (.bi .int (.cons (.bin .mul (.var 3) (.bin .add (.var 3) (.lit (.int 40961)))) .nil)) (.bin .sub (.bin .pow (.lit (.int 2)) (.lit (.int 61))) (.lit (.int 1)))) (.lit (.int 4099))) (.var 1)))
  .skip))))
def b_6 : St := (.seq (.asg (.nm 1) (.call 5 [0, 1] (.cons (.var 0) (.cons (.lit (.int 4)) .nil)) .nil))
  (.seq (.ifs (.cmp .eq (.var 1) (.lit (.int 0))) (.seq (.ret (.call 5 [0, 1] (.cons (.var 0) (.cons (.lit (.int 4)) .nil)) .nil))
  .skip) .skip)
  (.seq (.ifs (.cmp .eq (.var 1) (.lit (.int 1))) (.seq (.ret (.bin .sub (.lit (.int 65535)) (.call 5 [0, 1] (.cons (.var 0) (.cons (.lit (.int 4)) .nil)) .nil)))
  .skip) .skip)
  (.seq (.ifs (.cmp .eq (.var 1) (.lit (.int 2))) (.seq (.ret (.bin .add (.lit (.int 32766)) (.call 5 [0, 1] (.cons (.var 0) (.cons (.lit (.int 4)) .nil)) .nil)))
  .skip) .skip)
  (.seq (.ret (.call 5 [0, 1] (.cons (.var 0) (.cons (.lit (.int 65536)) .nil)) .nil))
  .skip)))))
def b_7 : St := (.seq (.asg (.tp 3 (.cons (.nm 4) (.cons (.nm 5) (.cons (.nm 6) .nil)))) (.tup (.cons (.call 5 [0, 1] (.cons (.var 0) (.cons (.var 2) .nil)) .nil) (.cons (.call 5 [0, 1] (.cons (.var 0) (.cons (.var 2) .nil)) .nil) (.cons (.call 5 [0, 1] (.cons (.var 0) (.cons (.var 2) .nil)) .nil) .nil)))))
  (.seq (.asg (.tp 2 (.cons (.nm 7) (.cons (.nm 8) .nil))) (.tup (.cons (.call 6 [0] (.cons (.var 0) .nil) .nil) (.cons (.idx (.lst (.cons (.lit (.int 0)) (.cons (.var 3) (.cons (.call 5 [0, 1] (.cons (.var 0) (.cons (.bin .add (.var 3) (.lit (.int 1))) .nil)) .nil) .nil)))) (.call 5 [0, 1] (.cons (.var 0) (.cons (.lit (.int 3)) .nil)) .nil)) .nil))))
  (.seq (.ifs (.cmp .eq (.var 1) (.lit (.str "set"))) (.seq (.ret (.tup (.cons (.var 1) (.cons (.var 4) (.cons (.var 7) .nil)))))
  .skip) .skip)
  (.seq (.ifs (.cmp .in_ (.var 1) (.lst (.cons (.lit (.str "add")) (.cons (.lit (.str "sub")) (.cons (.lit (.str "and")) (.cons (.lit (.str "xor")) (.cons (.lit (.str "below")) .nil))))))) (.seq (.ret (.tup (.cons (.var 1) (.cons (.var 4) (.cons (.var 5) (.cons (.var 6) .nil))))))
  .skip) .skip)
  (.seq (.ifs (.cmp .in_ (.var 1) (.lst (.cons (.lit (.str "load")) (.cons (.lit (.str "store")) .nil)))) (.seq (.ret (.tup (.cons (.var 1) (.cons (.var 4) (.cons (.var 5) (.cons (.var 7) .nil))))))
  .skip) .skip)
  (.seq (.ifs (.cmp .in_ (.var 1) (.lst (.cons (.lit (.str "swap")) (.cons (.lit (.str "addto")) .nil)))) (.seq (.ret (.tup (.cons (.var 1) (.cons (.var 4) (.cons (.var 5) (.cons (.var 6) (.cons (.var 7) .nil)))))))
  .skip) .skip)
  (.seq (.ifs (.cmp .eq (.var 1) (.lit (.str "ifzero"))) (.seq (.ret (.tup (.cons (.var 1) (.cons (.var 4) (.cons (.var 8) .nil)))))
  .skip) .skip)
  (.seq (.ifs (.cmp .eq (.var 1) (.lit (.str "jump"))) (.seq (.ret (.tup (.cons (.var 1) (.cons (.var 8) .nil))))
  .skip) .skip)
  (.seq (.ret (.tup (.cons (.var 1) .nil)))
  .skip)))))))))
end Tm

set_option Elab.async false
set_option linter.all false
set_option maxRecDepth 100000
namespace Tm
open PySem L2
/-! ## the machine alone: its runs by rules -/
theorem run_at (q : Pr) (W k f : Nat) (ds : List D) (S : Store) {np ns : Nat} {b : St} (h : q.fs f = some (np, ns, b)) (hn : ds.length = np) : run q W (k + 1) f ds S = fin (ex (pm q W k) b (env0 np ns ds) S) := by
  simp only [run, h, hn, if_true]
theorem run_rt {q : Pr} {W k f : Nat} {ds : List D} {S : Store} {np ns : Nat} {b : St} (h : q.fs f = some (np, ns, b)) (hn : ds.length = np) {d : D} {e' : Env'} {S' : Store} {e0 : Env'} (he : env0 np ns ds = e0) (hx : ex (pm q W k) b e0 S = some (.rt d, e', S')) :
    run q W (k + 1) f ds S = some (d, S') := by
  rw [run_at q W k f ds S h hn, he, hx]; rfl
section
variable {q : Pr} {W k : Nat} {e e1 : Env'} {S S1 S2 S3 : Store} {a b c r : C} {d x y z : D} {ds fs es : List D} {op o2 : Cmp}
theorem er_var {i : Nat} (h : e[i]? = some (some d)) : ev (pm q W k) (.var i) e S = some (d, S) := by simp only [ev, h]
theorem er_lit (h : isScal d = true) : ev (pm q W k) (.lit d) e S = some (d, S) := by simp only [ev, h, if_true]
theorem er_glob {g : Nat} (h : q.gl g = d) : ev (pm q W k) (.glob g) e S = some (d, S) := by subst h; rfl
theorem er_nil : ev (pm q W k) .nil e S = some (.tup [], S) := rfl
theorem er_cons (h1 : ev (pm q W k) a e S = some (x, S1)) (h2 : ev (pm q W k) r e S1 = some (.tup ds, S2)) : ev (pm q W k) (.cons a r) e S = some (.tup (x :: ds), S2) := by
  simp only [ev, h1, h2, Option.bind_some]
theorem er_tup (h1 : ev (pm q W k) a e S = some (.tup ds, S1)) (hz : ds.length ≤ sizeLine) : ev (pm q W k) (.tup a) e S = some (.tup ds, S1) := by
  simp only [ev, h1, Option.bind_some, okI, decide_eq_true hz, if_true]
theorem er_lst (h1 : ev (pm q W k) a e S = some (.tup ds, S1)) (hz : ds.length ≤ sizeLine) : ev (pm q W k) (.lst a) e S = some (.ref S1.length, S1 ++ [.lst ds]) := by
  simp only [ev, h1, Option.bind_some, if_pos hz, new]
theorem er_bin {o : Bin} {w : D × Store} (h1 : ev (pm q W k) a e S = some (x, S1)) (h2 : ev (pm q W k) b e S1 = some (y, S2)) (h3 : binop o x y S2 = some w) : ev (pm q W k) (.bin o a b) e S = some w := by
  simp only [ev, h1, h2, h3, Option.bind_some]
theorem er_neg {i : Int} (h1 : ev (pm q W k) a e S = some (.int i, S1)) : ev (pm q W k) (.neg a) e S = some (.int (-i), S1) := by
  simp only [ev, h1, Option.bind_some]
theorem er_cmp {t : Bool} (h1 : ev (pm q W k) a e S = some (x, S1)) (h2 : ev (pm q W k) b e S1 = some (y, S2)) (h3 : cmpop op x y S2 = some t) : ev (pm q W k) (.cmp op a b) e S = some (.bl t, S2) := by
  simp only [ev, h1, h2, alt_some h3, Option.bind_some, Option.map_some]
theorem er_chain_t {t : Bool} (h1 : ev (pm q W k) a e S = some (x, S1)) (h2 : ev (pm q W k) b e S1 = some (y, S2)) (h3 : cmpop op x y S2 = some true) (h4 : ev (pm q W k) c e S2 = some (z, S3)) (h5 : cmpop o2 y z S3 = some t) :
    ev (pm q W k) (.chain op o2 a b c) e S = some (.bl t, S3) := by
  simp only [ev, h1, h2, h3, h4, h5, Option.bind_some, Option.map_some, if_true]
theorem er_chain_f (h1 : ev (pm q W k) a e S = some (x, S1)) (h2 : ev (pm q W k) b e S1 = some (y, S2)) (h3 : cmpop op x y S2 = some false) :
    ev (pm q W k) (.chain op o2 a b c) e S = some (.bl false, S2) := by
  simp only [ev, h1, h2, h3, Option.bind_some, Bool.false_eq_true, if_false]
theorem er_and_t {w : D × Store} (h1 : ev (pm q W k) a e S = some (.bl true, S1)) (h2 : ev (pm q W k) b e S1 = some w) : ev (pm q W k) (.and_ a b) e S = some w := by
  simp only [ev, h1, h2, Option.bind_some]
theorem er_and_f (h1 : ev (pm q W k) a e S = some (.bl false, S1)) : ev (pm q W k) (.and_ a b) e S = some (.bl false, S1) := by
  simp only [ev, h1, Option.bind_some]
theorem er_or_f {w : D × Store} (h1 : ev (pm q W k) a e S = some (.bl false, S1)) (h2 : ev (pm q W k) b e S1 = some w) : ev (pm q W k) (.or_ a b) e S = some w := by
  simp only [ev, h1, h2, Option.bind_some]
theorem er_or_t (h1 : ev (pm q W k) a e S = some (.bl true, S1)) : ev (pm q W k) (.or_ a b) e S = some (.bl true, S1) := by
  simp only [ev, h1, Option.bind_some]
theorem er_not {t : Bool} (h1 : ev (pm q W k) a e S = some (.bl t, S1)) : ev (pm q W k) (.not_ a) e S = some (.bl (!t), S1) := by
  simp only [ev, h1, Option.bind_some]
theorem er_not_f (h1 : ev (pm q W k) a e S = some (.bl true, S1)) : ev (pm q W k) (.not_ a) e S = some (.bl false, S1) := er_not h1
theorem er_not_t (h1 : ev (pm q W k) a e S = some (.bl false, S1)) : ev (pm q W k) (.not_ a) e S = some (.bl true, S1) := er_not h1
theorem er_ife_t {w : D × Store} (h1 : ev (pm q W k) c e S = some (.bl true, S1)) (h2 : ev (pm q W k) a e S1 = some w) : ev (pm q W k) (.ife c a b) e S = some w := by
  simp only [ev, h1, h2, Option.bind_some]
theorem er_ife_f {w : D × Store} (h1 : ev (pm q W k) c e S = some (.bl false, S1)) (h2 : ev (pm q W k) b e S1 = some w) : ev (pm q W k) (.ife c a b) e S = some w := by
  simp only [ev, h1, h2, Option.bind_some]
theorem er_idx (h1 : ev (pm q W k) a e S = some (x, S1)) (h2 : ev (pm q W k) b e S1 = some (y, S2)) (h3 : idxop x y S2 = some d) : ev (pm q W k) (.idx a b) e S = some (d, S2) := by
  simp only [ev, h1, h2, alt_some h3, Option.bind_some, Option.map_some]
theorem er_dget (h1 : ev (pm q W k) a e S = some (x, S1)) (h2 : ev (pm q W k) b e S1 = some (y, S2)) (h0 : idxop x y S2 = none) (h3 : dgetop x y S2 = some d) : ev (pm q W k) (.idx a b) e S = some (d, S2) := by
  simp only [ev, h1, h2, alt_none h0, h3, Option.bind_some, Option.map_some]
theorem er_din {t : Bool} (h1 : ev (pm q W k) a e S = some (x, S1)) (h2 : ev (pm q W k) b e S1 = some (y, S2)) (h0 : cmpop op x y S2 = none) (h3 : dinop op x y S2 = some t) : ev (pm q W k) (.cmp op a b) e S = some (.bl t, S2) := by
  simp only [ev, h1, h2, alt_none h0, h3, Option.bind_some, Option.map_some]
theorem er_dty {t : Ty} {u : Bool} (h1 : ev (pm q W k) a e S = some (x, S1)) (h0 : tyop x t S1 = none) (h3 : tydop x t S1 = some u) : ev (pm q W k) (.isty a t) e S = some (.bl u, S1) := by
  simp only [ev, h1, alt_none h0, h3, Option.bind_some, Option.map_some]
theorem er_mt {m : Mt} {w : D × Store} (h1 : ev (pm q W k) a e S = some (x, S1)) (h2 : ev (pm q W k) b e S1 = some (.tup ds, S2)) (h0 : okRef S1 x = true) (h3 : mtop m x ds S2 = some w) : ev (pm q W k) (.mt m a b) e S = some w := by
  simp only [ev, h1, h2, h3, h0, if_true, Option.bind_some]
theorem er_dnew : ev (pm q W k) .dnew e S = some (.ref S.length, S ++ [.dct []]) := rfl
theorem er_kgetd {g : Nat} {w : Str} (h1 : ev (pm q W k) a e S = some (.str w, S1)) (h2 : ev (pm q W k) b e S1 = some (y, S2)) (h3 : (lookK (q.kd g) w).getD y = d) : ev (pm q W k) (.kgetd g a b) e S = some (d, S2) := by
  subst h3
  simp only [ev, h1, h2, Option.bind_some]
theorem er_kget {g : Nat} {w : Str} (h1 : ev (pm q W k) a e S = some (.str w, S1)) (h3 : lookK (q.kd g) w = some d) : ev (pm q W k) (.kget g a) e S = some (d, S1) := by
  simp only [ev, h1, h3, Option.bind_some, Option.map_some]
theorem er_kin {g : Nat} {w : Str} {neg t : Bool} (h1 : ev (pm q W k) a e S = some (.str w, S1)) (h3 : (if neg then !(lookK (q.kd g) w).isSome else (lookK (q.kd g) w).isSome) = t) : ev (pm q W k) (.kin g neg a) e S = some (.bl t, S1) := by
  simp only [ev, h1, h3, Option.bind_some]
theorem er_call {f : Nat} {perm : List Nat} {w : D × Store} (h1 : ev (pm q W k) a e S = some (.tup ds, S1)) (h2 : ev (pm q W k) b e S1 = some (.tup fs, S2)) (he : pick perm (ds ++ fs) = es) (h3 : run q W k f es S2 = some w) : ev (pm q W k) (.call f perm a b) e S = some w := by
  subst he
  simp only [ev, h1, h2, Option.bind_some]
  exact h3
theorem er_bi {o : Bi} {w : D × Store} (h1 : ev (pm q W k) a e S = some (.tup ds, S1)) (h3 : biop o ds S1 = some w) : ev (pm q W k) (.bi o a) e S = some w := by
  simp only [ev, h1, h3, Option.bind_some]
theorem er_isty {t : Ty} {u : Bool} (h1 : ev (pm q W k) a e S = some (x, S1)) (h3 : tyop x t S1 = some u) : ev (pm q W k) (.isty a t) e S = some (.bl u, S1) := by
  simp only [ev, h1, alt_some h3, Option.bind_some, Option.map_some]
theorem push_ok {n : Nat} {S' : Store} (h : push n y S = some S') : okRef S (.ref n) = true := by
  unfold push at h
  split at h
  · rename_i xs hx
    show (listAt S n).isSome = true
    unfold listAt
    rw [hx]; rfl
  · cases h
theorem lst_ok {n : Nat} {xs : List D} (h : listAt S n = some xs) : okRef S (.ref n) = true := by
  show (listAt S n).isSome = true
  rw [h]; rfl
theorem er_appG {n : Nat} (h1 : ev (pm q W k) a e S = some (.ref n, S1)) (h0 : okRef S1 (.ref n) = true) (h2 : ev (pm q W k) b e S1 = some (y, S2)) (h3 : push n y S2 = some S3) : ev (pm q W k) (.app a b) e S = some (.non, S3) := by
  simp only [ev, h1, h2, h3, h0, if_true, Option.bind_some, Option.map_some]
theorem er_app {n : Nat} (h1 : ev (pm q W k) a e S = some (.ref n, S1)) (h2 : ev (pm q W k) b e S1 = some (y, S1)) (h3 : push n y S1 = some S3) : ev (pm q W k) (.app a b) e S = some (.non, S3) :=
  er_appG h1 (push_ok h3) h2 h3
theorem er_fld {cs : List Str} {f : Str} (h1 : ev (pm q W k) a e S = some (x, S1)) (h2 : fldS cs f x S1 = some y) : ev (pm q W k) (.fld a f cs) e S = some (y, S1) := by
  simp only [ev, h1, h2, Option.bind_some, Option.map_some]
theorem er_mk {c : Str} {f : Nat} (h1 : ev (pm q W k) a e S = some (.tup ds, S1)) (h2 : run q W k f (.ref S1.length :: ds) (S1 ++ [.ins c []]) = some (.non, S2)) : ev (pm q W k) (.mk c f a) e S = some (.ref S1.length, S2) := by
  simp only [ev, h1, h2, Option.bind_some]
theorem er_revl {n : Nat} (h1 : ev (pm q W k) a e S = some (.ref n, S1)) (h2 : listAt S1 n = some ds) : ev (pm q W k) (.revl a) e S = some (.ref S1.length, S1 ++ [.lst ds.reverse]) := by
  simp only [ev, h1, h2, Option.bind_some, Option.map_some, new]
theorem es_setf {v : C} {cs : List Str} {f : Str} (h1 : ev (pm q W k) v e S = some (x, S1)) (h2 : ev (pm q W k) a e S1 = some (y, S2)) (h3 : putfS cs f y x S2 = some S3) : ex (pm q W k) (.setf v a f cs) e S = some (.nx, e, S3) := by
  simp only [ex, h1, h2, h3, Option.bind_some, Option.map_some]
theorem es_augf {cs : List Str} {f : Str} {op : Bin} {x d y z : D} (h1 : ev (pm q W k) a e S = some (x, S1)) (h2 : fldS cs f x S1 = some d) (h3 : ev (pm q W k) b e S1 = some (y, S2)) (h4 : augop op d y = some z) (h5 : clsS x S1 = clsS x S2) (h6 : putfS cs f x z S2 = some S3) :
    ex (pm q W k) (.augf a f cs op b) e S = some (.nx, e, S3) := by
  simp only [ex, h1, h2, h3, h4, if_pos h5, h6, Option.bind_some, Option.map_some]
theorem er_itv (h1 : ev (pm q W k) a e S = some (x, S1)) (h3 : itOf S1 x = some (ds, fs)) : ev (pm q W k) (.itv a) e S = some (itD ds fs, S1) := by
  simp only [ev, h1, h3, Option.bind_some, Option.map_some]
theorem er_irng (h1 : ev (pm q W k) a e S = some (.tup es, S1)) (h3 : rngs es = some ds) : ev (pm q W k) (.irng a) e S = some (itD ds [], S1) := by
  simp only [ev, h1, h3, Option.bind_some, Option.map_some]
theorem er_lc {i : C} {t : Tg} {own : List Nat} (h1 : ev (pm q W k) i e S = some (itD ds fs, S1)) (h2 : lcL (ev (pm q W k) b) (ev (pm q W k) a) t fs (wipeE e own) S1.length ds (S1 ++ [.lst []]) = some S2) :
    ev (pm q W k) (.lc i t b a own) e S = some (.ref S1.length, S2) := by
  simp only [ev, h1, Option.bind_some, itD, h2, Option.map_some]
/-! statements -/
variable {s u : St} {f : Fl}
theorem es_nx {w : Fl × Env' × Store} (h1 : ex (pm q W k) s e S = some (.nx, e1, S1)) (h2 : ex (pm q W k) u e1 S1 = some w) : ex (pm q W k) (.seq s u) e S = some w := by
  simp only [ex, h1, h2, Option.bind_some]
theorem es_rt (h1 : ex (pm q W k) s e S = some (.rt d, e1, S1)) : ex (pm q W k) (.seq s u) e S = some (.rt d, e1, S1) := by
  simp only [ex, h1, Option.bind_some]
theorem es_bk (h1 : ex (pm q W k) s e S = some (.bk, e1, S1)) : ex (pm q W k) (.seq s u) e S = some (.bk, e1, S1) := by
  simp only [ex, h1, Option.bind_some]
theorem es_ct (h1 : ex (pm q W k) s e S = some (.ct, e1, S1)) : ex (pm q W k) (.seq s u) e S = some (.ct, e1, S1) := by
  simp only [ex, h1, Option.bind_some]
theorem es_skip : ex (pm q W k) .skip e S = some (.nx, e, S) := rfl
theorem es_asg {t : Tg} (h1 : ev (pm q W k) c e S = some (x, S1)) (h2 : bindT t x S1 e = some e1) : ex (pm q W k) (.asg t c) e S = some (.nx, e1, S1) := by
  simp only [ex, h1, h2, Option.bind_some, Option.map_some]
theorem es_seti (h1 : ev (pm q W k) c e S = some (x, S1)) (h2 : ev (pm q W k) a e S1 = some (y, S2)) (h3 : ev (pm q W k) b e S2 = some (z, S3)) {S' : Store} (h4 : setS y z x S3 = some S') : ex (pm q W k) (.seti c a b) e S = some (.nx, e, S') := by
  simp only [ex, h1, h2, h3, alt_some h4, Option.bind_some, Option.map_some]
theorem es_dput (h1 : ev (pm q W k) c e S = some (x, S1)) (h2 : ev (pm q W k) a e S1 = some (y, S2)) (h3 : ev (pm q W k) b e S2 = some (z, S3)) {S' : Store} (h0 : setS y z x S3 = none) (h4 : dputS y z x S3 = some S') :
    ex (pm q W k) (.seti c a b) e S = some (.nx, e, S') := by
  simp only [ex, h1, h2, h3, alt_none h0, h4, Option.bind_some, Option.map_some]
theorem es_aug {i : Nat} {op : Bin} (h0 : e[i]? = some (some y)) (h1 : ev (pm q W k) c e S = some (x, S1)) (h2 : augop op y x = some z) : ex (pm q W k) (.aug i op c) e S = some (.nx, e.set i (some z), S1) := by
  simp only [ex, h0, h1, h2, Option.bind_some, Option.map_some]
theorem es_drop (h1 : ev (pm q W k) c e S = some (x, S1)) : ex (pm q W k) (.drop c) e S = some (.nx, e, S1) := by
  simp only [ex, h1, Option.map_some]
theorem es_ret (h1 : ev (pm q W k) c e S = some (x, S1)) : ex (pm q W k) (.ret c) e S = some (.rt x, e, S1) := by
  simp only [ex, h1, Option.map_some]
theorem es_if_t {w : Fl × Env' × Store} (h1 : ev (pm q W k) c e S = some (.bl true, S1)) (h2 : ex (pm q W k) s e S1 = some w) : ex (pm q W k) (.ifs c s u) e S = some w := by
  simp only [ex, h1, h2, Option.bind_some]
theorem es_if_f {w : Fl × Env' × Store} (h1 : ev (pm q W k) c e S = some (.bl false, S1)) (h2 : ex (pm q W k) u e S1 = some w) : ex (pm q W k) (.ifs c s u) e S = some w := by
  simp only [ex, h1, h2, Option.bind_some]
theorem es_for {t : Tg} {w : Fl × Env' × Store} (h1 : ev (pm q W k) c e S = some (itD ds fs, S1)) (h2 : forL (ex (pm q W k) s) t fs ds e S1 = some w) : ex (pm q W k) (.for_ c t s) e S = some w := by
  simp only [ex, h1, Option.bind_some, itD, h2]
end
/-! ## operators at known values -/
/-- small: below 2 ^ 200 -/
def Sm (i : Int) : Prop := i.natAbs < 2 ^ 200
theorem log_sm {i : Int} (h : Sm i) : i.natAbs.log2 < 200 := by
  by_cases z : i.natAbs = 0
  · rw [z]; decide
  · exact (Nat.log2_lt z).mpr h
section
variable {i j : Int} {S S' : Store} {x y : D} {xs : List D}
theorem o_add : binop .add (.int i) (.int j) S = some (.int (i + j), S) := rfl
theorem o_sub : binop .sub (.int i) (.int j) S = some (.int (i - j), S) := rfl
theorem o_mul (hi : Sm i) (hj : Sm j) : binop .mul (.int i) (.int j) S = some (.int (i * j), S) := by
  have h1 := log_sm hi
  have h2 := log_sm hj
  show okI (decide (i.natAbs.log2 + j.natAbs.log2 < 1000000) || decide (j.natAbs < 2 ^ 64)) _ _ = _
  rw [decide_eq_true (show i.natAbs.log2 + j.natAbs.log2 < 1000000 by omega)]; rfl
theorem o_mulS (hj : j.natAbs < 2 ^ 64) : binop .mul (.int i) (.int j) S = some (.int (i * j), S) := by
  show okI (decide (i.natAbs.log2 + j.natAbs.log2 < 1000000) || decide (j.natAbs < 2 ^ 64)) _ _ = _
  rw [decide_eq_true hj, Bool.or_true]; rfl
theorem o_pow (hi : i.natAbs < 2 ^ 64) (hj : 0 ≤ j ∧ j ≤ 1000000) : binop .pow (.int i) (.int j) S = some (.int (i ^ j.toNat), S) := by
  have h2 : (Builtin.Int.intBits i : Int) * j ≤ 2 ^ 27 := PyProof.Rows.bits_mul_le hi hj.1 hj.2
  show okI (decide (0 ≤ j) && decide ((Builtin.Int.intBits i : Int) * j ≤ 2 ^ 27)) _ _ = _
  rw [decide_eq_true hj.1, decide_eq_true h2]; rfl
theorem o_powW (hi : i.natAbs < 2 ^ 300) (hj : 0 ≤ j ∧ j ≤ 1000) : binop .pow (.int i) (.int j) S = some (.int (i ^ j.toNat), S) := by
  have hb : Builtin.Int.intBits i ≤ 300 := bits_lt hi
  have h2 : (Builtin.Int.intBits i : Int) * j ≤ 2 ^ 27 := by
    have : (Builtin.Int.intBits i : Int) * j ≤ 300 * 1000 := Int.mul_le_mul (by omega) hj.2 hj.1 (by decide)
    omega
  show okI (decide (0 ≤ j) && decide ((Builtin.Int.intBits i : Int) * j ≤ 2 ^ 27)) _ _ = _
  rw [decide_eq_true hj.1, decide_eq_true h2]; rfl
theorem o_mod (h : 0 < j) : binop .mod (.int i) (.int j) S = some (.int (i % j), S) := by
  show okI (decide (0 < j)) _ _ = _
  rw [decide_eq_true h]; rfl
theorem o_div (h : 0 < j) (hj : Sm j) : binop .fdiv (.int i) (.int j) S = some (.int (i / j), S) := by
  have h2 := log_sm hj
  show okI (decide (0 < j) && decide (j.natAbs.log2 < 9000)) _ _ = _
  rw [decide_eq_true h, decide_eq_true (by omega)]; rfl
theorem c_eq_t (h : i = j) : cmpop .eq (.int i) (.int j) S = some true := by show some (decide (i = j)) = _; rw [decide_eq_true h]
theorem c_eq_f (h : ¬ i = j) : cmpop .eq (.int i) (.int j) S = some false := by show some (decide (i = j)) = _; rw [decide_eq_false h]
theorem c_ne_f (h : i = j) : cmpop .ne (.int i) (.int j) S = some false := by show some (!decide (i = j)) = _; rw [decide_eq_true h]; rfl
theorem c_ne_t (h : ¬ i = j) : cmpop .ne (.int i) (.int j) S = some true := by show some (!decide (i = j)) = _; rw [decide_eq_false h]; rfl
theorem c_lt_t (h : i < j) : cmpop .lt (.int i) (.int j) S = some true := by show some (decide (i < j)) = _; rw [decide_eq_true h]
theorem c_lt_f (h : ¬ i < j) : cmpop .lt (.int i) (.int j) S = some false := by show some (decide (i < j)) = _; rw [decide_eq_false h]
theorem c_le_t (h : i ≤ j) : cmpop .le (.int i) (.int j) S = some true := by show some (decide (i ≤ j)) = _; rw [decide_eq_true h]
theorem c_le_f (h : ¬ i ≤ j) : cmpop .le (.int i) (.int j) S = some false := by show some (decide (i ≤ j)) = _; rw [decide_eq_false h]
theorem c_gt_t (h : j < i) : cmpop .gt (.int i) (.int j) S = some true := by show some (decide (j < i)) = _; rw [decide_eq_true h]
theorem c_gt_f (h : ¬ j < i) : cmpop .gt (.int i) (.int j) S = some false := by show some (decide (j < i)) = _; rw [decide_eq_false h]
theorem c_ge_t (h : j ≤ i) : cmpop .ge (.int i) (.int j) S = some true := by show some (decide (j ≤ i)) = _; rw [decide_eq_true h]
theorem c_ge_f (h : ¬ j ≤ i) : cmpop .ge (.int i) (.int j) S = some false := by show some (decide (j ≤ i)) = _; rw [decide_eq_false h]
theorem c_str_t {x y : Str} (h : x = y) : cmpop .eq (.str x) (.str y) S = some true := by show some (decide (x = y)) = _; rw [decide_eq_true h]
theorem c_str_f {x y : Str} (h : ¬ x = y) : cmpop .eq (.str x) (.str y) S = some false := by show some (decide (x = y)) = _; rw [decide_eq_false h]
theorem c_strn_t {x y : Str} (h : ¬ x = y) : cmpop .ne (.str x) (.str y) S = some true := by show some (!decide (x = y)) = _; rw [decide_eq_false h]; rfl
theorem c_strn_f {x y : Str} (h : x = y) : cmpop .ne (.str x) (.str y) S = some false := by show some (!decide (x = y)) = _; rw [decide_eq_true h]; rfl
theorem i_tup {d : D} (h : atI xs i = some d) : idxop (.tup xs) (.int i) S = some d := h
theorem i_lst {d : D} {n : Nat} (hn : listAt S n = some xs) (h : atI xs i = some d) : idxop (.ref n) (.int i) S = some d := by
  show (listAt S n).bind (fun xs => atI xs i) = _
  rw [hn]; exact h
theorem l_lst {n : Nat} (h : S[n]? = some (.lst xs)) : listAt S n = some xs := by unfold listAt; rw [h]
theorem l_ro {n : Nat} (h : S[n]? = some (.ro xs)) : listAt S n = some xs := by unfold listAt; rw [h]
theorem l_last : listAt (S ++ [.lst xs]) S.length = some xs := l_lst (by simp)
theorem g_last {o : O} : (S ++ [o])[S.length]? = some o := by simp
theorem c_in {t : Bool} {n : Nat} (hn : listAt S n = some xs) (hx : isScal x = true) (hs : xs.all isScal = true) (ht : (xs.any fun y => scEq y x) = t) : cmpop .in_ x (.ref n) S = some t := by
  show inD S x (.ref n) = some t
  simp only [inD, hn, hx, hs, ht, Option.bind_some, Bool.and_self, if_true]
theorem c_inT {t : Bool} (hx : isScal x = true) (hs : xs.all isScal = true) (ht : (xs.any fun y => scEq y x) = t) : cmpop .in_ x (.tup xs) S = some t := by
  show inD S x (.tup xs) = some t
  simp only [inD, hx, hs, ht, Bool.and_self, if_true]
theorem c_nin {t : Bool} {n : Nat} (hn : listAt S n = some xs) (hx : isScal x = true) (hs : xs.all isScal = true) (ht : (xs.any fun y => scEq y x) = t) : cmpop .nin x (.ref n) S = some (!t) := by
  show (inD S x (.ref n)).map (!·) = some (!t)
  simp only [inD, hn, hx, hs, ht, Option.bind_some, Bool.and_self, if_true, Option.map_some]
theorem set_get {a : Nat} {o o' : O} (h : S[a]? = some o) : (S.set a o')[a]? = some o' := by
  have := (List.getElem?_eq_some_iff.mp h).1
  rw [List.getElem?_set_self this]
theorem s_set {a j : Nat} {v : D} (h : S[a]? = some (.lst xs)) (hj : ixN xs.length i = some j) : setS (.ref a) (.int i) v S = some (S.set a (.lst (xs.set j v))) := by
  simp only [setS, h, hj, Option.map_some]
end
/-! ## what stays -/
/-- all objects but those at A stand as they stood -/
def Kp (A : List Nat) (S S' : Store) : Prop := ∀ (i : Nat) (o : O), i ∉ A → S[i]? = some o → S'[i]? = some o
theorem Kp.refl (A : List Nat) (S : Store) : Kp A S S := fun _ _ _ h => h
theorem Kp.trans {A : List Nat} {S S1 S2 : Store} (h : Kp A S S1) (k : Kp A S1 S2) : Kp A S S2 := fun i o n e => k i o n (h i o n e)
theorem Kp.more {A B : List Nat} {S S1 : Store} (h : Kp A S S1) (s : ∀ i ∈ A, i ∈ B) : Kp B S S1 := fun i o n e => h i o (fun z => n (s i z)) e
theorem Kp.set {S : Store} {a : Nat} {o : O} : Kp [a] S (S.set a o) := fun i u n e => by
  rw [List.getElem?_set_ne (fun z => n (by simp [z]))]; exact e
theorem Kp.push {A : List Nat} {S : Store} {o : O} : Kp A S (S ++ [o]) := fun i u n e => by
  have := (List.getElem?_eq_some_iff.mp e).1
  rw [List.getElem?_append_left this]; exact e
theorem Kp.len {A : List Nat} {S S' : Store} (h : Kp A S S') {n : Nat} (hn : n ∉ A) (hl : n < S.length) : n < S'.length := by
  have e := h n S[n] hn (by simp [hl])
  exact (List.getElem?_eq_some_iff.mp e).1

/-! ## rules that decide nothing -/
section
variable {q : Pr} {W k : Nat} {e e1 : Env'} {S S1 S2 S3 : Store} {a b c r : C} {d x y z : D} {s u : St} {f : Fl}
/-- what follows a flow -/
structure Nxt (q : Pr) (W k : Nat) (u : St) (f : Fl) (e : Env') (S : Store) (w : Fl × Env' × Store) : Prop where
  h : (match f with | .nx => ex (pm q W k) u e S | f => some (f, e, S)) = some w
theorem nxt_nx {w : Fl × Env' × Store} (h : ex (pm q W k) u e S = some w) : Nxt q W k u .nx e S w := ⟨h⟩
theorem nxt_rt : Nxt q W k u (.rt d) e S (.rt d, e, S) := ⟨rfl⟩
theorem nxt_bk : Nxt q W k u .bk e S (.bk, e, S) := ⟨rfl⟩
theorem nxt_ct : Nxt q W k u .ct e S (.ct, e, S) := ⟨rfl⟩
theorem es_sq {w : Fl × Env' × Store} (h1 : ex (pm q W k) s e S = some (f, e1, S1)) (h2 : Nxt q W k u f e1 S1 w) : ex (pm q W k) (.seq s u) e S = some w := by
  have h3 := h2.h
  cases f <;> simp only [ex, h1, Option.bind_some] at h3 ⊢ <;> exact h3
structure Brs (q : Pr) (W k : Nat) (t : Bool) (s u : St) (e : Env') (S : Store) (w : Fl × Env' × Store) : Prop where
  h : (if t = true then ex (pm q W k) s e S else ex (pm q W k) u e S) = some w
theorem brs_t {w : Fl × Env' × Store} (h : ex (pm q W k) s e S = some w) : Brs q W k true s u e S w := ⟨h⟩
theorem brs_f {w : Fl × Env' × Store} (h : ex (pm q W k) u e S = some w) : Brs q W k false s u e S w := ⟨h⟩
theorem es_br {t : Bool} {w : Fl × Env' × Store} (h1 : ev (pm q W k) c e S = some (.bl t, S1)) (h2 : Brs q W k t s u e S1 w) : ex (pm q W k) (.ifs c s u) e S = some w := by
  cases t
  · exact es_if_f h1 h2.h
  · exact es_if_t h1 h2.h
structure Bre (q : Pr) (W k : Nat) (t : Bool) (a b : C) (e : Env') (S : Store) (w : D × Store) : Prop where
  h : (if t = true then ev (pm q W k) a e S else ev (pm q W k) b e S) = some w
theorem bre_t {w : D × Store} (h : ev (pm q W k) a e S = some w) : Bre q W k true a b e S w := ⟨h⟩
theorem bre_f {w : D × Store} (h : ev (pm q W k) b e S = some w) : Bre q W k false a b e S w := ⟨h⟩
theorem er_br {t : Bool} {w : D × Store} (h1 : ev (pm q W k) c e S = some (.bl t, S1)) (h2 : Bre q W k t a b e S1 w) : ev (pm q W k) (.ife c a b) e S = some w := by
  cases t
  · exact er_ife_f h1 h2.h
  · exact er_ife_t h1 h2.h
structure Ands (q : Pr) (W k : Nat) (t : Bool) (b : C) (e : Env') (S : Store) (w : D × Store) : Prop where
  h : (if t = true then ev (pm q W k) b e S else some (.bl false, S)) = some w
theorem ands_t {w : D × Store} (h : ev (pm q W k) b e S = some w) : Ands q W k true b e S w := ⟨h⟩
theorem ands_f : Ands q W k false b e S (.bl false, S) := ⟨rfl⟩
theorem er_ands {t : Bool} {w : D × Store} (h1 : ev (pm q W k) a e S = some (.bl t, S1)) (h2 : Ands q W k t b e S1 w) : ev (pm q W k) (.and_ a b) e S = some w := by
  cases t
  · rw [er_and_f h1]; exact h2.h
  · exact er_and_t h1 h2.h
structure Ors (q : Pr) (W k : Nat) (t : Bool) (b : C) (e : Env') (S : Store) (w : D × Store) : Prop where
  h : (if t = true then some (.bl true, S) else ev (pm q W k) b e S) = some w
theorem ors_f {w : D × Store} (h : ev (pm q W k) b e S = some w) : Ors q W k false b e S w := ⟨h⟩
theorem ors_t : Ors q W k true b e S (.bl true, S) := ⟨rfl⟩
theorem er_ors {t : Bool} {w : D × Store} (h1 : ev (pm q W k) a e S = some (.bl t, S1)) (h2 : Ors q W k t b e S1 w) : ev (pm q W k) (.or_ a b) e S = some w := by
  cases t
  · exact er_or_f h1 h2.h
  · rw [er_or_t h1]; exact h2.h
inductive Neg : Bool → Bool → Prop
  | t : Neg true false
  | f : Neg false true
theorem er_nots {t v : Bool} (h1 : ev (pm q W k) a e S = some (.bl t, S1)) (h2 : Neg t v) : ev (pm q W k) (.not_ a) e S = some (.bl v, S1) := by
  cases h2
  · exact er_not h1
  · exact er_not h1
theorem b_int {i : Int} : biop .int [.int i] S = some (.int i, S) := rfl
theorem b_bool {t : Bool} : biop .int [.bl t] S = some (.int (if t then 1 else 0), S) := by cases t <;> rfl
theorem b_abs {i : Int} : biop .abs [.int i] S = some (.int (if i < 0 then -i else i), S) := rfl
theorem b_max {i j : Int} : biop .max [.int i, .int j] S = some (.int (if j > i then j else i), S) := rfl
theorem b_min {i j : Int} : biop .min [.int i, .int j] S = some (.int (if j < i then j else i), S) := rfl
theorem b_lenT {xs : List D} : biop .len [.tup xs] S = some (.int xs.length, S) := rfl
theorem b_lenL {n : Nat} {xs : List D} (h : listAt S n = some xs) : biop .len [.ref n] S = some (.int xs.length, S) := by
  show (listAt S n).map _ = _
  rw [h]; rfl
end
end Tm

set_option Elab.async false
set_option linter.all false
set_option maxRecDepth 100000
namespace Tm
open PySem L2
/-! ## data that are like themselves -/
/-- a datum without lists whose text is known and short -/
def Nice (d : D) : Prop := ∃ x, (∀ S, pd S d = some x) ∧ x.layable0 = true ∧ PyData.intsShort 13 x = true ∧ x.showable = true
theorem Nice.rp {d : D} (h : Nice d) : ∃ z, ∀ S, biop .repr [d] S = some (.str z, S) := by
  obtain ⟨x, h1, h2, h3, h4⟩ := h
  refine ⟨x.shown, fun S => ?_⟩
  have h5 := PyData.shown_le_of_layable0 h2 h3
  have h6 := PyData.depth_of_layable h2
  show ((pd S d).bind fun x => if x.showable && decide (x.depth ≤ 64) && decide (x.shown.length ≤ sizeLine) then some (D.str x.shown, S) else none) = some (D.str x.shown, S)
  rw [h1 S]
  show (if x.showable && decide (x.depth ≤ 64) && decide (x.shown.length ≤ sizeLine) then some (D.str x.shown, S) else none) = some (D.str x.shown, S)
  rw [h4, decide_eq_true h6, decide_eq_true (show x.shown.length ≤ sizeLine from Nat.le_trans h5 (by decide))]
  rfl
theorem Nice.eq {d : D} (h : Nice d) (S : Store) : cmpop .eq d d S = some true := by
  obtain ⟨x, h1, h2, h3, h4⟩ := h
  have h6 := PyData.depth_of_layable h2
  have h7 : x.canLay0 = true := by
    rw [PyData.layable0.eq_1] at h2
    revert h2; cases x.canLay0 <;> simp
  show eqD S d d = some true
  have g : ((pd S d).bind fun x => (pd S d).bind fun y => if SeqAt.shaped x && SeqAt.shaped y then some (PyData.eqv x y) else none) = some true := by
    rw [h1 S]
    show (if SeqAt.shaped x && SeqAt.shaped x then some (PyData.eqv x x) else none) = _
    have : SeqAt.shaped x = true := by show (x.canLay0 && decide (x.depth ≤ 64)) = true; rw [h7, decide_eq_true h6]; rfl
    rw [this, SeqAt.eqv_refl x h7]; rfl
  cases d with
  | non => rfl
  | bl b => show some (decide (b = b)) = _; rw [decide_eq_true rfl]
  | int i => show some (decide (i = i)) = _; rw [decide_eq_true rfl]
  | str z => show some (decide (z = z)) = _; rw [decide_eq_true rfl]
  | tup xs => exact g
  | ref n => exact g
  | fn n => exact g
theorem weight_int {i : Int} (h : i.natAbs < 10 ^ 12) : (PyData.int i).weight ≤ 50 := by
  rw [PyData.weight.eq_def]
  show (if (i == 0) = true then 0 else i.natAbs.log2 + 1) ≤ 50
  split
  · omega
  · have : i.natAbs.log2 < 40 := Flt.log2_lt_of (by decide) (by omega)
    omega
theorem Nice.int {i : Int} (h : i.natAbs < 10 ^ 12) : Nice (.int i) := by
  refine ⟨.int i, fun _ => rfl, ?_, ?_, ?_⟩
  · have := weight_int h
    rw [PyData.layable0.eq_1, decide_eq_true (show (PyData.int i).weight ≤ 2 ^ 20 by omega)]; rfl
  · rw [PyData.intsShort.eq_5]; exact decide_eq_true (PyData.shown_int_le h)
  · rw [PyData.showable.eq_4]; exact decide_eq_true (by have : i.natAbs.log2 < 40 := Flt.log2_lt_of (by decide) (by omega); omega)
theorem Nice.non : Nice .non := ⟨.none, fun _ => rfl, by decide, by decide, by decide⟩
/-- a flat datum: an int that is small, or a short text -/
def Flat1 (d : D) : Prop := ∃ x, (∀ S, pd S d = some x) ∧ x.canLay0 = true ∧ x.depth = 0 ∧ x.weight ≤ 60 ∧ PyData.intsShort 13 x = true ∧ x.showable = true
theorem Flat1.int {i : Int} (h : i.natAbs < 10 ^ 12) : Flat1 (.int i) := by
  obtain ⟨x, h1, h2, h3, h4⟩ := Nice.int h
  cases h1 []
  exact ⟨_, h1, rfl, rfl, by have := weight_int h; omega, h3, h4⟩
theorem Flat1.str {z : Str} (h : PyData.strOk z = true) (k : z.cps.size ≤ 60) : Flat1 (.str z) :=
  ⟨.str z, fun _ => rfl, h, rfl, k, rfl, rfl⟩
theorem flats {ds : List D} (h : ∀ d ∈ ds, Flat1 d) : ∃ xs, (∀ S, pds S ds = some xs) ∧ PyData.canLayAll0 xs = true ∧ PyData.depthAll xs = 0 ∧ PyData.weightAll xs ≤ 61 * ds.length ∧ PyData.intsShortAll 13 xs = true ∧ PyData.showableAll xs = true := by
  induction ds with
  | nil => exact ⟨[], fun _ => rfl, rfl, rfl, by decide, rfl, rfl⟩
  | cons d ds ih =>
    obtain ⟨xs, h1, h2, h3, h4, h5, h6⟩ := ih (fun e he => h e (List.mem_cons_of_mem _ he))
    obtain ⟨x, k1, k2, k3, k4, k5, k6⟩ := h d List.mem_cons_self
    refine ⟨x :: xs, fun S => ?_, ?_, ?_, ?_, ?_, ?_⟩
    · show ((pd S d).bind fun x => (pds S ds).map fun xs => x :: xs) = _
      rw [k1 S, h1 S]; rfl
    · show (x.canLay0 && PyData.canLayAll0 xs) = true
      rw [k2, h2]; rfl
    · rw [PyData.depthAll.eq_def]; show max x.depth (PyData.depthAll xs) = 0; rw [k3, h3]; rfl
    · rw [PyData.weightAll.eq_2]; simp only [List.length_cons]; omega
    · rw [PyData.intsShortAll.eq_2, k5, h5]; rfl
    · rw [PyData.showableAll.eq_2, k6, h6]; rfl
theorem Nice.tup {ds : List D} (h : ∀ d ∈ ds, Flat1 d) (hl : ds.length ≤ 1000) : Nice (.tup ds) := by
  obtain ⟨xs, h1, h2, h3, h4, h5, h6⟩ := flats h
  refine ⟨.tuple xs, fun S => ?_, ?_, ?_, ?_⟩
  · show (pds S ds).map PyData.tuple = some (PyData.tuple xs)
    rw [h1 S]; rfl
  · rw [PyData.layable0.eq_1, PyData.canLay0.eq_6, h2, PyData.weight.eq_3, decide_eq_true (show PyData.weightAll xs ≤ 2 ^ 20 by omega), PyData.depth.eq_def]
    show (true && decide (PyData.depthAll xs + 1 ≤ 64) && true) = true
    rw [h3]; rfl
  · rw [PyData.intsShort.eq_7]; exact h5
  · rw [PyData.showable.eq_6]; exact h6
end Tm

set_option Elab.async false
set_option linter.all false
set_option maxRecDepth 100000
namespace Tm
open PySem L2
/-! ## nested data without lists: their depth and weight -/
def NW (dp w : Nat) (d : D) : Prop := ∃ x, (∀ g, pdG g d = some x) ∧ x.canLay0 = true ∧ x.depth ≤ dp ∧ x.weight ≤ w ∧ PyData.intsShort 13 x = true ∧ x.showable = true
theorem NW.mono {a b a' b' : Nat} {d : D} (h : NW a b d) (h1 : a ≤ a') (h2 : b ≤ b') : NW a' b' d := by
  obtain ⟨x, k1, k2, k3, k4, k5⟩ := h
  exact ⟨x, k1, k2, by omega, by omega, k5⟩
theorem NW.nice {dp w : Nat} {d : D} (h : NW dp w d) (h1 : dp ≤ 64 := by decide) (h2 : w ≤ 2 ^ 20 := by decide) : Nice d := by
  obtain ⟨x, k1, k2, k3, k4, k5, k6⟩ := h
  refine ⟨x, fun S => k1 _, ?_, k5, k6⟩
  rw [PyData.layable0.eq_1, k2, decide_eq_true (show x.weight ≤ 2 ^ 20 by omega), decide_eq_true (show x.depth ≤ 64 by omega)]
  rfl
theorem NW.int {i : Int} (h : i.natAbs < 10 ^ 12) : NW 0 50 (.int i) := by
  obtain ⟨x, h1, h2, h3, h4⟩ := Nice.int h
  cases h1 []
  exact ⟨_, fun _ => rfl, rfl, Nat.le_of_eq rfl, weight_int h, h3, h4⟩
theorem NW.non : NW 0 50 .non := ⟨.none, fun _ => rfl, rfl, by decide, by decide, rfl, rfl⟩
theorem NW.str {z : Str} (h : PyData.strOk z = true) (k : z.cps.size ≤ 50) : NW 0 50 (.str z) :=
  ⟨.str z, fun _ => rfl, h, Nat.le_of_eq rfl, k, rfl, rfl⟩
theorem nws {dp w : Nat} {ds : List D} (h : ∀ d ∈ ds, NW dp w d) : ∃ xs, (∀ g, pdsG g ds = some xs) ∧ PyData.canLayAll0 xs = true ∧ PyData.depthAll xs ≤ dp ∧ PyData.weightAll xs ≤ (w + 1) * ds.length ∧ PyData.intsShortAll 13 xs = true ∧ PyData.showableAll xs = true := by
  induction ds with
  | nil => exact ⟨[], fun _ => rfl, rfl, Nat.zero_le _, Nat.zero_le _, rfl, rfl⟩
  | cons d ds ih =>
    obtain ⟨xs, h1, h2, h3, h4, h5, h6⟩ := ih (fun e he => h e (List.mem_cons_of_mem _ he))
    obtain ⟨x, k1, k2, k3, k4, k5, k6⟩ := h d List.mem_cons_self
    refine ⟨x :: xs, fun g => ?_, ?_, ?_, ?_, ?_, ?_⟩
    · show ((pdG g d).bind fun x => (pdsG g ds).map fun xs => x :: xs) = _
      rw [k1 g, h1 g]; rfl
    · show (x.canLay0 && PyData.canLayAll0 xs) = true
      rw [k2, h2]; rfl
    · rw [PyData.depthAll.eq_def]; show max x.depth (PyData.depthAll xs) ≤ dp; omega
    · rw [PyData.weightAll.eq_2]; simp only [List.length_cons, Nat.mul_add, Nat.mul_one]; omega
    · rw [PyData.intsShortAll.eq_2, k5, h5]; rfl
    · rw [PyData.showableAll.eq_2, k6, h6]; rfl
theorem NW.tup {dp w : Nat} {ds : List D} (h : ∀ d ∈ ds, NW dp w d) : NW (dp + 1) ((w + 1) * ds.length) (.tup ds) := by
  obtain ⟨xs, h1, h2, h3, h4, h5, h6⟩ := nws h
  refine ⟨.tuple xs, fun g => ?_, ?_, ?_, ?_, ?_, ?_⟩
  · show (pdsG g ds).map PyData.tuple = some (PyData.tuple xs)
    rw [h1 g]; rfl
  · rw [PyData.canLay0.eq_6]; exact h2
  · rw [PyData.depth.eq_def]; show PyData.depthAll xs + 1 ≤ dp + 1; omega
  · rw [PyData.weight.eq_3]; exact h4
  · rw [PyData.intsShort.eq_7]; exact h5
  · rw [PyData.showable.eq_6]; exact h6
/-- a list of such data, read off the store -/
theorem pd_list {dp w n : Nat} {S : Store} {ds : List D} (hn : listAt S n = some ds) (h : ∀ d ∈ ds, NW dp w d) (h1 : dp < 64) (h2 : (w + 1) * ds.length ≤ 2 ^ 20) :
    ∃ x, pd S (.ref n) = some x ∧ x.layable0 = true ∧ PyData.intsShort 13 x = true ∧ x.showable = true := by
  obtain ⟨xs, k1, k2, k3, k4, k5, k6⟩ := nws h
  refine ⟨.list xs, ?_, ?_, ?_, ?_⟩
  · show pdN S 60 n = _
    show (listAt S n).bind (fun xs => (pdsG (pdN S 59) xs).map PyData.list) = _
    rw [hn]
    show (pdsG (pdN S 59) ds).map PyData.list = _
    rw [k1]; rfl
  · rw [PyData.layable0.eq_1, PyData.canLay0.eq_5, k2, PyData.weight.eq_2, decide_eq_true (show PyData.weightAll xs ≤ 2 ^ 20 by omega), PyData.depth.eq_def]
    show (true && decide (PyData.depthAll xs + 1 ≤ 64) && true) = true
    rw [decide_eq_true (by omega)]; rfl
  · rw [PyData.intsShort.eq_6]; exact k5
  · rw [PyData.showable.eq_5]; exact k6
theorem eq_lists {dp w m n : Nat} {S : Store} {ds : List D} (hm : listAt S m = some ds) (hn : listAt S n = some ds) (h : ∀ d ∈ ds, NW dp w d) (h1 : dp < 64) (h2 : (w + 1) * ds.length ≤ 2 ^ 20) :
    cmpop .eq (.ref m) (.ref n) S = some true ∧ ∃ z, biop .repr [.ref m] S = some (.str z, S) ∧ biop .repr [.ref n] S = some (.str z, S) := by
  obtain ⟨x, a1, a2, a3, a4⟩ := pd_list hm h h1 h2
  obtain ⟨y, b1, b2, b3, b4⟩ := pd_list hn h h1 h2
  have e : x = y := by
    obtain ⟨xs, k1, _⟩ := nws h
    have q : ∀ {n' : Nat} {x' : PyData}, listAt S n' = some ds → pd S (.ref n') = some x' → x' = .list xs := by
      intro n' x' g1 g2
      have : (listAt S n').bind (fun xs => (pdsG (pdN S 59) xs).map PyData.list) = some x' := g2
      rw [g1] at this
      have : (pdsG (pdN S 59) ds).map PyData.list = some x' := this
      rw [k1] at this
      exact (Option.some.inj this).symm
    rw [q hm a1, q hn b1]
  subst e
  have h5 := PyData.shown_le_of_layable0 a2 a3
  have h6 := PyData.depth_of_layable a2
  have h7 : x.canLay0 = true := by
    rw [PyData.layable0.eq_1] at a2
    revert a2; cases x.canLay0 <;> simp
  constructor
  · show ((pd S (.ref m)).bind fun x => (pd S (.ref n)).bind fun y => if SeqAt.shaped x && SeqAt.shaped y then some (PyData.eqv x y) else none) = some true
    rw [a1, b1]
    show (if SeqAt.shaped x && SeqAt.shaped x then some (PyData.eqv x x) else none) = _
    have : SeqAt.shaped x = true := by show (x.canLay0 && decide (x.depth ≤ 64)) = true; rw [h7, decide_eq_true h6]; rfl
    rw [this, SeqAt.eqv_refl x h7]; rfl
  · refine ⟨x.shown, ?_, ?_⟩
    · show ((pd S (.ref m)).bind fun x => if x.showable && decide (x.depth ≤ 64) && decide (x.shown.length ≤ sizeLine) then some (D.str x.shown, S) else none) = some (D.str x.shown, S)
      rw [a1]
      show (if x.showable && decide (x.depth ≤ 64) && decide (x.shown.length ≤ sizeLine) then some (D.str x.shown, S) else none) = some (D.str x.shown, S)
      rw [a4, decide_eq_true h6, decide_eq_true (show x.shown.length ≤ sizeLine from Nat.le_trans h5 (by decide))]; rfl
    · show ((pd S (.ref n)).bind fun x => if x.showable && decide (x.depth ≤ 64) && decide (x.shown.length ≤ sizeLine) then some (D.str x.shown, S) else none) = some (D.str x.shown, S)
      rw [b1]
      show (if x.showable && decide (x.depth ≤ 64) && decide (x.shown.length ≤ sizeLine) then some (D.str x.shown, S) else none) = some (D.str x.shown, S)
      rw [b4, decide_eq_true h6, decide_eq_true (show x.shown.length ≤ sizeLine from Nat.le_trans h5 (by decide))]; rfl
/-- a list against the empty one -/
theorem eq_nil {dp w m n : Nat} {S : Store} {ds : List D} (hm : listAt S m = some ds) (hn : listAt S n = some []) (h : ∀ d ∈ ds, NW dp w d) (h1 : dp < 64) (h2 : (w + 1) * ds.length ≤ 2 ^ 20) :
    cmpop .eq (.ref m) (.ref n) S = some ds.isEmpty := by
  obtain ⟨xs, k1, k2, k3, k4, _⟩ := nws h
  have a1 : pd S (.ref m) = some (.list xs) := by
    show (listAt S m).bind (fun xs => (pdsG (pdN S 59) xs).map PyData.list) = _
    rw [hm]
    show (pdsG (pdN S 59) ds).map PyData.list = _
    rw [k1]; rfl
  have b1 : pd S (.ref n) = some (.list []) := by
    show (listAt S n).bind (fun xs => (pdsG (pdN S 59) xs).map PyData.list) = _
    rw [hn]; rfl
  show ((pd S (.ref m)).bind fun x => (pd S (.ref n)).bind fun y => if SeqAt.shaped x && SeqAt.shaped y then some (PyData.eqv x y) else none) = _
  rw [a1, b1]
  have s1 : SeqAt.shaped (.list xs) = true := by
    show ((PyData.list xs).canLay0 && decide ((PyData.list xs).depth ≤ 64)) = true
    rw [PyData.canLay0.eq_5, k2, PyData.depth.eq_def]
    show (true && decide (PyData.depthAll xs + 1 ≤ 64)) = true
    rw [decide_eq_true (by omega)]; rfl
  show (if SeqAt.shaped (.list xs) && SeqAt.shaped (.list []) then some (PyData.eqv (.list xs) (.list [])) else none) = _
  rw [s1, show SeqAt.shaped (.list []) = true from by decide]
  cases ds with
  | nil =>
    have := k1 (fun _ => none)
    cases this
    rfl
  | cons d ds =>
    have := k1 (fun _ => none)
    simp only [pdsG, Option.bind_eq_some_iff, Option.map_eq_some_iff] at this
    obtain ⟨y, _, ys, _, rfl⟩ := this
    rfl
end Tm

set_option Elab.async false
set_option linter.all false
set_option maxRecDepth 100000
set_option maxHeartbeats 1000000
namespace Tm
open PySem L2
local macro_rules | `(tactic| walk_at "sm") => `(tactic| first | assumption | (unfold Sm; first | omega | decide))
local macro_rules | `(tactic| walk_at "in") => `(tactic| first | assumption | omega | decide)
local macro_rules | `(tactic| walk_at "lst") => `(tactic| first | assumption | exact l_last | exact l_lst (by assumption) | exact l_ro (by assumption) | exact l_lst (set_get (by assumption)))
local macro_rules | `(tactic| walk_at "op") => `(tactic| first
  | with_reducible exact o_add
  | with_reducible exact o_sub
  | ((with_reducible refine' o_mod ?h); (case h => walk_at "in"))
  | ((with_reducible refine' o_div ?h ?g); (case h => walk_at "in"); (case g => walk_at "sm"))
  | ((with_reducible refine' o_mul ?h ?g); (case h => walk_at "sm"); (case g => walk_at "sm"))
  | ((with_reducible refine' o_pow ?h ?g); (case h => walk_at "in"); (case g => decide)))
local macro_rules | `(tactic| walk_at "cmp") => `(tactic| first
  | ((with_reducible refine' c_eq_t ?h); (case h => walk_at "in"))
  | ((with_reducible refine' c_lt_t ?h); (case h => walk_at "in"))
  | ((with_reducible refine' c_gt_t ?h); (case h => walk_at "in"))
  | ((with_reducible refine' c_ne_t ?h); (case h => walk_at "in"))
  | ((with_reducible refine' c_le_t ?h); (case h => walk_at "in"))
  | ((with_reducible refine' c_ge_t ?h); (case h => walk_at "in"))
  | ((with_reducible refine' c_eq_f ?h); (case h => walk_at "in"))
  | ((with_reducible refine' c_lt_f ?h); (case h => walk_at "in"))
  | ((with_reducible refine' c_gt_f ?h); (case h => walk_at "in"))
  | ((with_reducible refine' c_ne_f ?h); (case h => walk_at "in"))
  | ((with_reducible refine' c_le_f ?h); (case h => walk_at "in"))
  | ((with_reducible refine' c_ge_f ?h); (case h => walk_at "in"))
  | ((with_reducible refine' c_str_t ?h); (case h => with_reducible exact rfl))
  | ((with_reducible refine' c_str_f ?h); (case h => decide))
  | ((with_reducible refine' c_strn_f ?h); (case h => with_reducible exact rfl))
  | ((with_reducible refine' c_strn_t ?h); (case h => decide))
  | ((with_reducible refine' c_in (t := true) ?h ?g ?f ?e); (case h => walk_at "lst"); (case g => exact rfl); (case f => exact rfl); (case e => decide))
  | ((with_reducible refine' c_in (t := false) ?h ?g ?f ?e); (case h => walk_at "lst"); (case g => exact rfl); (case f => exact rfl); (case e => decide))
  | ((with_reducible refine' c_inT (t := true) ?g ?f ?e); (case g => exact rfl); (case f => exact rfl); (case e => decide))
  | ((with_reducible refine' c_inT (t := false) ?g ?f ?e); (case g => exact rfl); (case f => exact rfl); (case e => decide)))
local macro_rules | `(tactic| walk_at "bi") => `(tactic| first | with_reducible exact b_int | with_reducible exact b_bool | with_reducible exact b_abs | with_reducible exact b_max | with_reducible exact b_min | with_reducible exact b_lenT | ((with_reducible refine' b_lenL ?h); (case h => walk_at "lst")))
local macro_rules | `(tactic| walk_at "call") => `(tactic| first | assumption)
local macro_rules | `(tactic| walk_at "ev") => `(tactic| first
  | (exact er_nil)
  | ((with_reducible refine' er_lit ?h); (case h => exact rfl))
  | ((with_reducible refine' er_var ?h); (case h => exact rfl))
  | ((with_reducible refine' er_cons ?h1 ?h2); (case h1 => walk_at "ev"); (case h2 => walk_at "ev"))
  | ((with_reducible refine' er_tup ?h1 ?h2); (case h1 => walk_at "ev"); (case h2 => exact Nat.le_of_ble_eq_true rfl))
  | ((with_reducible refine' er_lst ?h1 ?h2); (case h1 => walk_at "ev"); (case h2 => exact Nat.le_of_ble_eq_true rfl))
  | ((with_reducible refine' er_bin ?h1 ?h2 ?h3); (case h1 => walk_at "ev"); (case h2 => walk_at "ev"); (case h3 => walk_at "op"))
  | ((with_reducible refine' er_idx ?h1 ?h2 ?h3); (case h1 => walk_at "ev"); (case h2 => walk_at "ev"); (case h3 => first | exact i_tup (by first | assumption | rfl) | exact i_lst (by walk_at "lst") (by first | assumption | rfl)))
  | ((with_reducible refine' er_call ?h1 ?h2 ?h3 ?h4); (case h1 => walk_at "ev"); (case h2 => walk_at "ev"); (case h3 => exact rfl); (case h4 => walk_at "call"))
  | ((with_reducible refine' er_bi ?h1 ?h2); (case h1 => walk_at "ev"); (case h2 => walk_at "bi"))
  | ((with_reducible refine' er_cmp ?h1 ?h2 ?h3); (case h1 => walk_at "ev"); (case h2 => walk_at "ev"); (case h3 => walk_at "cmp"))
  | ((with_reducible refine' er_nots ?h1 ?h2); (case h1 => walk_at "ev"); (case h2 => first | exact Neg.t | exact Neg.f))
  | ((with_reducible refine' er_ors ?h1 ?h2); (case h1 => walk_at "ev"); (case h2 => first | exact ors_t | ((with_reducible refine' ors_f ?h3); (case h3 => walk_at "ev"))))
  | ((with_reducible refine' er_ands ?h1 ?h2); (case h1 => walk_at "ev"); (case h2 => first | exact ands_f | ((with_reducible refine' ands_t ?h3); (case h3 => walk_at "ev"))))
  | ((with_reducible refine' er_br ?h1 ?h2); (case h1 => walk_at "ev"); (case h2 => first | ((with_reducible refine' bre_t ?h3); (case h3 => walk_at "ev")) | ((with_reducible refine' bre_f ?h3); (case h3 => walk_at "ev")))))
local macro_rules | `(tactic| walk_at "ex") => `(tactic| first
  | (exact es_skip)
  | ((with_reducible refine' es_sq ?h1 ?h2); (case h1 => walk_at "ex"); (case h2 => first | exact nxt_rt | exact nxt_bk | exact nxt_ct | ((with_reducible refine' nxt_nx ?h3); (case h3 => walk_at "ex"))))
  | ((with_reducible refine' es_ret ?h1); (case h1 => walk_at "ev"))
  | ((with_reducible refine' es_asg ?h1 ?h2); (case h1 => walk_at "ev"); (case h2 => exact rfl))
  | ((with_reducible refine' es_seti ?h1 ?h2 ?h3 ?h4); (case h1 => walk_at "ev"); (case h2 => walk_at "ev"); (case h3 => walk_at "ev"); (case h4 => exact s_set (by first | assumption | exact set_get (by assumption)) rfl))
  | ((with_reducible refine' es_drop ?h1); (case h1 => walk_at "ev"))
  | ((with_reducible refine' es_br ?h1 ?h2); (case h1 => walk_at "ev"); (case h2 => first | ((with_reducible refine' brs_t ?h3); (case h3 => walk_at "ex")) | ((with_reducible refine' brs_f ?h3); (case h3 => walk_at "ex")))))
/-! ## the spring: numbers that are drawn -/
/-- at a stands a spring from which at most c numbers were drawn by mixing -/
def Spr (S : Store) (a : Nat) (c : Int) : Prop := ∃ x m n : Int, S[a]? = some (.lst [.int x, .int m, .int n]) ∧ 0 ≤ m ∧ m < 2 ^ 61 ∧ 0 ≤ n ∧ n ≤ c
theorem Spr.kp {S S' : Store} {a : Nat} {c : Int} {A : List Nat} (h : Spr S a c) (k : Kp A S S') (n : a ∉ A) : Spr S' a c := by
  obtain ⟨x, m, n', h1, h2⟩ := h
  exact ⟨x, m, n', k _ _ n h1, h2⟩
theorem Spr.le {S : Store} {a : Nat} {c d : Int} (h : Spr S a c) (k : c ≤ d) : Spr S a d := by
  obtain ⟨x, m, n', h1, h2, h3, h4, h5⟩ := h
  exact ⟨x, m, n', h1, h2, h3, h4, by omega⟩
theorem Spr.lt {S : Store} {a : Nat} {c : Int} (h : Spr S a c) : a < S.length := by
  obtain ⟨x, m, n', h1, _⟩ := h
  exact (List.getElem?_eq_some_iff.mp h1).1
section
variable {q : Pr} (hq : q.fs 5 = some (2, 4, b_5)) {W : Nat}
include hq
theorem pick_a (k : Nat) {S : Store} {a : Nat} {x m c many : Int} (hS : S[a]? = some (.lst [.int x, .int m, .int c])) (hx : 0 < x) (hm : 0 < many) (hl : Sm many) :
    run q W (k + 1) 5 [.ref a, .int many] S = some (.int (x % many), S.set a (.lst [.int (x / many), .int m, .int c])) := by
  refine' run_rt hq rfl rfl ?h
  case h => unfold b_5; walk_at "ex"
theorem pick_b (k : Nat) {S : Store} {a : Nat} {x m c many : Int} (hS : S[a]? = some (.lst [.int x, .int m, .int c])) (hx : ¬ 0 < x) (hm0 : 0 ≤ m) (hm : m < 2 ^ 61) (hc0 : 0 ≤ c) (hc : c < 10 ^ 12) (hn : 0 < many) (hl : Sm many) :
    ∃ r, run q W (k + 1) 5 [.ref a, .int many] S = some (.int r, S.set a (.lst [.int x, .int m, .int (c + 1)])) ∧ 0 ≤ r ∧ r < many := by
  have w0 : Sm (c + 1) := by unfold Sm; omega
  have w1 : Sm (1000003 * (c + 1)) := by unfold Sm; omega
  have w2 : (m + 1000003 * (c + 1)).natAbs < 2 ^ 64 := by omega
  have w3 : 0 < (10 : Int) ^ (18 : Int).toNat + 9 := by decide
  have w4 : 0 < (2 : Int) ^ (61 : Int).toNat - 1 := by decide
  have w5 : ((m + 1000003 * (c + 1)) ^ (3 : Int).toNat + 754974721 * (c + 1)) % ((10 : Int) ^ (18 : Int).toNat + 9) < 10 ^ 18 + 9 := Int.emod_lt_of_pos _ w3
  have w6 : 0 ≤ ((m + 1000003 * (c + 1)) ^ (3 : Int).toNat + 754974721 * (c + 1)) % ((10 : Int) ^ (18 : Int).toNat + 9) := Int.emod_nonneg _ (by decide)
  generalize hg : ((m + 1000003 * (c + 1)) ^ (3 : Int).toNat + 754974721 * (c + 1)) % ((10 : Int) ^ (18 : Int).toNat + 9) = g at w5 w6
  have w7 : Sm g := by unfold Sm; omega
  have w8 : Sm (g + 40961) := by unfold Sm; omega
  refine ⟨(g * (g + 40961)) % ((2 : Int) ^ (61 : Int).toNat - 1) / 4099 % many, ?_, Int.emod_nonneg _ (by omega), Int.emod_lt_of_pos _ hn⟩
  subst hg
  have hS' : (S.set a (.lst [.int x, .int m, .int (c + 1)]))[a]? = some (.lst [.int x, .int m, .int (c + 1)]) := set_get hS
  refine' run_rt hq rfl rfl ?h
  case h => unfold b_5; walk_at "ex"
end
theorem pick_spec {q : Pr} (hq : q.fs 5 = some (2, 4, b_5)) {W : Nat} (k : Nat) {S : Store} {a : Nat} {c many : Int} (h : Spr S a c) (hc : c < 10 ^ 12) (hn : 0 < many) (hl : Sm many) :
    ∃ r S', run q W (k + 1) 5 [.ref a, .int many] S = some (.int r, S') ∧ 0 ≤ r ∧ r < many ∧ Spr S' a (c + 1) ∧ Kp [a] S S' := by
  obtain ⟨x, m, n, h1, h2, h3, h4, h5⟩ := h
  by_cases hx : 0 < x
  · exact ⟨_, _, pick_a hq k h1 hx hn hl, Int.emod_nonneg _ (by omega), Int.emod_lt_of_pos _ hn, ⟨_, _, _, set_get h1, h2, h3, h4, by omega⟩, Kp.set⟩
  · obtain ⟨r, g1, g2, g3⟩ := pick_b hq k (W := W) h1 hx h2 h3 h4 (by omega) hn hl
    exact ⟨r, _, g1, g2, g3, ⟨_, _, _, set_get h1, h2, h3, by omega, by omega⟩, Kp.set⟩
theorem word_spec {q : Pr} (h5 : q.fs 5 = some (2, 4, b_5)) (h6 : q.fs 6 = some (1, 2, b_6)) {W : Nat} (k : Nat) {S : Store} {a : Nat} {c : Int} (h : Spr S a c) (hc : c + 1 < 10 ^ 12) :
    ∃ r S', run q W (k + 2) 6 [.ref a] S = some (.int r, S') ∧ 0 ≤ r ∧ r < 65536 ∧ Spr S' a (c + 2) ∧ Kp [a] S S' := by
  obtain ⟨r1, S1, p1, l1, u1, s1, k1⟩ := pick_spec h5 (W := W) k h (by omega) (show (0 : Int) < 4 by decide) (by unfold Sm; decide)
  obtain ⟨r2, S2, p2, l2, u2, s2, k2⟩ := pick_spec h5 (W := W) k s1 (by omega) (show (0 : Int) < 4 by decide) (by unfold Sm; decide)
  obtain ⟨r3, S3, p3, l3, u3, s3, k3⟩ := pick_spec h5 (W := W) k s1 (by omega) (show (0 : Int) < 65536 by decide) (by unfold Sm; decide)
  by_cases e0 : r1 = 0
  · exact ⟨_, _, by refine' run_rt h6 rfl rfl ?h; (case h => unfold b_6; walk_at "ex"), l2, by omega, s2.le (by omega), k1.trans k2⟩
  by_cases e1 : r1 = 1
  · exact ⟨_, _, by refine' run_rt h6 rfl rfl ?h; (case h => unfold b_6; walk_at "ex"), by omega, by omega, s2.le (by omega), k1.trans k2⟩
  by_cases e2 : r1 = 2
  · exact ⟨_, _, by refine' run_rt h6 rfl rfl ?h; (case h => unfold b_6; walk_at "ex"), by omega, by omega, s2.le (by omega), k1.trans k2⟩
  · exact ⟨_, _, by refine' run_rt h6 rfl rfl ?h; (case h => unfold b_6; walk_at "ex"), l3, u3, s3.le (by omega), k1.trans k3⟩

end Tm

set_option Elab.async false
set_option linter.all false
set_option maxRecDepth 100000
set_option maxHeartbeats 4000000
namespace Tm
open PySem L2
local macro_rules | `(tactic| walk_at "sm") => `(tactic| first | assumption | (unfold Sm; first | omega | decide))
local macro_rules | `(tactic| walk_at "in") => `(tactic| first | assumption | omega | decide)
local macro_rules | `(tactic| walk_at "lst") => `(tactic| first | assumption | exact l_last | exact l_lst (by assumption) | exact l_ro (by assumption) | exact l_lst (set_get (by assumption)))
local macro_rules | `(tactic| walk_at "op") => `(tactic| first
  | with_reducible exact o_add
  | with_reducible exact o_sub
  | ((with_reducible refine' o_mod ?h); (case h => walk_at "in"))
  | ((with_reducible refine' o_div ?h ?g); (case h => walk_at "in"); (case g => walk_at "sm"))
  | ((with_reducible refine' o_mul ?h ?g); (case h => walk_at "sm"); (case g => walk_at "sm"))
  | ((with_reducible refine' o_pow ?h ?g); (case h => walk_at "in"); (case g => decide)))
local macro_rules | `(tactic| walk_at "cmp") => `(tactic| first
  | ((with_reducible refine' c_eq_t ?h); (case h => walk_at "in"))
  | ((with_reducible refine' c_lt_t ?h); (case h => walk_at "in"))
  | ((with_reducible refine' c_gt_t ?h); (case h => walk_at "in"))
  | ((with_reducible refine' c_ne_t ?h); (case h => walk_at "in"))
  | ((with_reducible refine' c_le_t ?h); (case h => walk_at "in"))
  | ((with_reducible refine' c_ge_t ?h); (case h => walk_at "in"))
  | ((with_reducible refine' c_eq_f ?h); (case h => walk_at "in"))
  | ((with_reducible refine' c_lt_f ?h); (case h => walk_at "in"))
  | ((with_reducible refine' c_gt_f ?h); (case h => walk_at "in"))
  | ((with_reducible refine' c_ne_f ?h); (case h => walk_at "in"))
  | ((with_reducible refine' c_le_f ?h); (case h => walk_at "in"))
  | ((with_reducible refine' c_ge_f ?h); (case h => walk_at "in"))
  | ((with_reducible refine' c_str_t ?h); (case h => with_reducible exact rfl))
  | ((with_reducible refine' c_str_f ?h); (case h => decide))
  | ((with_reducible refine' c_strn_f ?h); (case h => with_reducible exact rfl))
  | ((with_reducible refine' c_strn_t ?h); (case h => decide))
  | ((with_reducible refine' c_in (t := true) ?h ?g ?f ?e); (case h => walk_at "lst"); (case g => exact rfl); (case f => exact rfl); (case e => decide))
  | ((with_reducible refine' c_in (t := false) ?h ?g ?f ?e); (case h => walk_at "lst"); (case g => exact rfl); (case f => exact rfl); (case e => decide))
  | ((with_reducible refine' c_inT (t := true) ?g ?f ?e); (case g => exact rfl); (case f => exact rfl); (case e => decide))
  | ((with_reducible refine' c_inT (t := false) ?g ?f ?e); (case g => exact rfl); (case f => exact rfl); (case e => decide)))
local macro_rules | `(tactic| walk_at "bi") => `(tactic| first | with_reducible exact b_int | with_reducible exact b_bool | with_reducible exact b_abs | with_reducible exact b_max | with_reducible exact b_min | with_reducible exact b_lenT | ((with_reducible refine' b_lenL ?h); (case h => walk_at "lst")))
local macro_rules | `(tactic| walk_at "call") => `(tactic| first | assumption)
local macro_rules | `(tactic| walk_at "ev") => `(tactic| first
  | (exact er_nil)
  | ((with_reducible refine' er_lit ?h); (case h => exact rfl))
  | ((with_reducible refine' er_var ?h); (case h => exact rfl))
  | ((with_reducible refine' er_cons ?h1 ?h2); (case h1 => walk_at "ev"); (case h2 => walk_at "ev"))
  | ((with_reducible refine' er_tup ?h1 ?h2); (case h1 => walk_at "ev"); (case h2 => exact Nat.le_of_ble_eq_true rfl))
  | ((with_reducible refine' er_lst ?h1 ?h2); (case h1 => walk_at "ev"); (case h2 => exact Nat.le_of_ble_eq_true rfl))
  | ((with_reducible refine' er_bin ?h1 ?h2 ?h3); (case h1 => walk_at "ev"); (case h2 => walk_at "ev"); (case h3 => walk_at "op"))
  | ((with_reducible refine' er_idx ?h1 ?h2 ?h3); (case h1 => walk_at "ev"); (case h2 => walk_at "ev"); (case h3 => first | exact i_tup (by first | assumption | rfl) | exact i_lst (by walk_at "lst") (by first | assumption | rfl)))
  | ((with_reducible refine' er_call ?h1 ?h2 ?h3 ?h4); (case h1 => walk_at "ev"); (case h2 => walk_at "ev"); (case h3 => exact rfl); (case h4 => walk_at "call"))
  | ((with_reducible refine' er_bi ?h1 ?h2); (case h1 => walk_at "ev"); (case h2 => walk_at "bi"))
  | ((with_reducible refine' er_cmp ?h1 ?h2 ?h3); (case h1 => walk_at "ev"); (case h2 => walk_at "ev"); (case h3 => walk_at "cmp"))
  | ((with_reducible refine' er_nots ?h1 ?h2); (case h1 => walk_at "ev"); (case h2 => first | exact Neg.t | exact Neg.f))
  | ((with_reducible refine' er_ors ?h1 ?h2); (case h1 => walk_at "ev"); (case h2 => first | exact ors_t | ((with_reducible refine' ors_f ?h3); (case h3 => walk_at "ev"))))
  | ((with_reducible refine' er_ands ?h1 ?h2); (case h1 => walk_at "ev"); (case h2 => first | exact ands_f | ((with_reducible refine' ands_t ?h3); (case h3 => walk_at "ev"))))
  | ((with_reducible refine' er_br ?h1 ?h2); (case h1 => walk_at "ev"); (case h2 => first | ((with_reducible refine' bre_t ?h3); (case h3 => walk_at "ev")) | ((with_reducible refine' bre_f ?h3); (case h3 => walk_at "ev")))))
local macro_rules | `(tactic| walk_at "ex") => `(tactic| first
  | (exact es_skip)
  | ((with_reducible refine' es_sq ?h1 ?h2); (case h1 => walk_at "ex"); (case h2 => first | exact nxt_rt | exact nxt_bk | exact nxt_ct | ((with_reducible refine' nxt_nx ?h3); (case h3 => walk_at "ex"))))
  | ((with_reducible refine' es_ret ?h1); (case h1 => walk_at "ev"))
  | ((with_reducible refine' es_asg ?h1 ?h2); (case h1 => walk_at "ev"); (case h2 => exact rfl))
  | ((with_reducible refine' es_seti ?h1 ?h2 ?h3 ?h4); (case h1 => walk_at "ev"); (case h2 => walk_at "ev"); (case h3 => walk_at "ev"); (case h4 => exact s_set (by first | assumption | exact set_get (by assumption)) rfl))
  | ((with_reducible refine' es_drop ?h1); (case h1 => walk_at "ev"))
  | ((with_reducible refine' es_br ?h1 ?h2); (case h1 => walk_at "ev"); (case h2 => first | ((with_reducible refine' brs_t ?h3); (case h3 => walk_at "ex")) | ((with_reducible refine' brs_f ?h3); (case h3 => walk_at "ex")))))
def b_7t : St := (.seq (.ifs (.cmp .eq (.var 1) (.lit (.str "set"))) (.seq (.ret (.tup (.cons (.var 1) (.cons (.var 4) (.cons (.var 7) .nil)))))
  .skip) .skip)
  (.seq (.ifs (.cmp .in_ (.var 1) (.lst (.cons (.lit (.str "add")) (.cons (.lit (.str "sub")) (.cons (.lit (.str "and")) (.cons (.lit (.str "xor")) (.cons (.lit (.str "below")) .nil))))))) (.seq (.ret (.tup (.cons (.var 1) (.cons (.var 4) (.cons (.var 5) (.cons (.var 6) .nil))))))
  .skip) .skip)
  (.seq (.ifs (.cmp .in_ (.var 1) (.lst (.cons (.lit (.str "load")) (.cons (.lit (.str "store")) .nil)))) (.seq (.ret (.tup (.cons (.var 1) (.cons (.var 4) (.cons (.var 5) (.cons (.var 7) .nil))))))
  .skip) .skip)
  (.seq (.ifs (.cmp .in_ (.var 1) (.lst (.cons (.lit (.str "swap")) (.cons (.lit (.str "addto")) .nil)))) (.seq (.ret (.tup (.cons (.var 1) (.cons (.var 4) (.cons (.var 5) (.cons (.var 6) (.cons (.var 7) .nil)))))))
  .skip) .skip)
  (.seq (.ifs (.cmp .eq (.var 1) (.lit (.str "ifzero"))) (.seq (.ret (.tup (.cons (.var 1) (.cons (.var 4) (.cons (.var 8) .nil)))))
  .skip) .skip)
  (.seq (.ifs (.cmp .eq (.var 1) (.lit (.str "jump"))) (.seq (.ret (.tup (.cons (.var 1) (.cons (.var 8) .nil))))
  .skip) .skip)
  (.seq (.ret (.tup (.cons (.var 1) .nil)))
  .skip)))))))
theorem Spr.push {S : Store} {a : Nat} {c : Int} {o : O} (h : Spr S a c) : Spr (S ++ [o]) a c := h.kp (A := []) Kp.push (by simp)
abbrev nms : List Str := ["set", "add", "sub", "and", "xor", "below", "load", "store", "swap", "addto", "fence", "ifzero", "jump", "gap", "stop"]
def shape (nm : Str) (a b c w g : Int) : List D :=
  if nm = "set" then [.int a, .int w] else if nm = "add" ∨ nm = "sub" ∨ nm = "and" ∨ nm = "xor" ∨ nm = "below" then [.int a, .int b, .int c]
  else if nm = "load" ∨ nm = "store" then [.int a, .int b, .int w] else if nm = "swap" ∨ nm = "addto" then [.int a, .int b, .int c, .int w]
  else if nm = "ifzero" then [.int a, .int g] else if nm = "jump" then [.int g] else []
theorem pick3 (x y z r : Int) (h0 : 0 ≤ r) (h3 : r < 3) : ∃ t, atI [D.int x, D.int y, D.int z] r = some (D.int t) ∧ (t = x ∨ t = y ∨ t = z) := by
  have : r = 0 ∨ r = 1 ∨ r = 2 := by omega
  rcases this with rfl | rfl | rfl
  · exact ⟨x, rfl, Or.inl rfl⟩
  · exact ⟨y, rfl, Or.inr (Or.inl rfl)⟩
  · exact ⟨z, rfl, Or.inr (Or.inr rfl)⟩
theorem instr_spec {q : Pr} (h5 : q.fs 5 = some (2, 4, b_5)) (h6 : q.fs 6 = some (1, 2, b_6)) (h7 : q.fs 7 = some (4, 9, b_7)) {W : Nat} (k : Nat) {S : Store} {a : Nat} {c few many : Int} (h : Spr S a c) (hc : c + 7 < 10 ^ 12)
    (f0 : 0 < few) (f1 : few < 100) (m0 : 0 ≤ many) (m1 : many < 100) {nm : Str} (hm : nm ∈ nms) :
    ∃ (i1 i2 i3 w g : Int) (S' : Store), run q W (k + 3) 7 [.ref a, .str nm, .int few, .int many] S = some (.tup (.str nm :: shape nm i1 i2 i3 w g), S') ∧ 0 ≤ i1 ∧ i1 < few ∧ 0 ≤ i2 ∧ i2 < few ∧ 0 ≤ i3 ∧ i3 < few ∧ 0 ≤ w ∧ w < 65536 ∧ 0 ≤ g ∧ g ≤ many
      ∧ Spr S' a (c + 7) ∧ Kp [a] S S' := by
  obtain ⟨r1, S1, p1, l1, u1, s1, k1⟩ := pick_spec h5 (W := W) (k + 1) h (by omega) f0 (by unfold Sm; omega)
  obtain ⟨r2, S2, p2, l2, u2, s2, k2⟩ := pick_spec h5 (W := W) (k + 1) s1 (by omega) f0 (by unfold Sm; omega)
  obtain ⟨r3, S3, p3, l3, u3, s3, k3⟩ := pick_spec h5 (W := W) (k + 1) s2 (by omega) f0 (by unfold Sm; omega)
  obtain ⟨w, S4, p4, l4, u4, s4, k4⟩ := word_spec h5 h6 (W := W) k s3 (by omega)
  obtain ⟨r5, S5, p5, l5, u5, s5, k5⟩ := pick_spec h5 (W := W) (k + 1) s4 (by omega) (show 0 < many + 1 by omega) (by unfold Sm; omega)
  obtain ⟨r6, S6, p6, l6, u6, s6, k6⟩ := pick_spec h5 (W := W) (k + 1) (s5.push (o := .lst [.int 0, .int many, .int r5])) (by omega) (show (0 : Int) < 3 by decide) (by unfold Sm; decide)
  obtain ⟨g, hg, hgo⟩ := pick3 0 many r5 r6 l6 u6
  have hL : listAt S6 S5.length = some [.int 0, .int many, .int r5] := l_lst (k6 _ _ (by have := s5.lt; simp; omega) g_last)
  have K : Kp [a] S S6 := k1.trans (k2.trans (k3.trans (k4.trans (k5.trans (Kp.push.trans k6)))))
  have Z : Spr S6 a (c + 7) := s6.le (by omega)
  have G : 0 ≤ g ∧ g ≤ many := by omega
  have R0 : ∀ (w' : Fl × Env' × Store), ex (pm q W (k + 2)) b_7t [some (.ref a), some (.str nm), some (.int few), some (.int many), some (.int r1), some (.int r2), some (.int r3), some (.int w), some (.int g)] S6 = some w' → ex (pm q W (k + 2)) b_7 (env0 4 9 [.ref a, .str nm, .int few, .int many]) S = some w' := by
    intro w' hw
    unfold b_7
    refine' es_nx ?x1 ?x2
    case x1 => walk_at "ex"
    case x2 =>
    refine' es_nx ?y1 ?y2
    case y1 => walk_at "ex"
    case y2 => exact hw
  simp only [nms, List.mem_cons, List.not_mem_nil, or_false] at hm
  rcases hm with rfl | rfl | rfl | rfl | rfl | rfl | rfl | rfl | rfl | rfl | rfl | rfl | rfl | rfl | rfl
  all_goals
    refine' ⟨r1, r2, r3, w, g, _, ?h, l1, u1, l2, u2, l3, u3, l4, u4, G.1, G.2, ?z, ?k⟩
    case h => refine' run_rt h7 rfl rfl ?h; (case h => refine' R0 _ ?h; (case h => unfold b_7t; walk_at "ex"))
    case z => repeat (first | exact Z | apply Spr.push)
    case k => repeat (first | exact K | refine Kp.trans ?_ Kp.push)
end Tm

set_option Elab.async false
set_option linter.all false
set_option maxRecDepth 100000
namespace Tm
open PySem L2
/-! ## and and xor, bit by bit -/
def bs (t : Nat) : Nat → Nat → Nat → Nat
  | 0, _, _ => 0
  | n + 1, x, y => (if x % 2 + y % 2 = t then 1 else 0) + 2 * bs t n (x / 2) (y / 2)
theorem and_mod2 (x y : Nat) : (x &&& y) % 2 = (x % 2) * (y % 2) := by
  have h := Nat.and_mod_two_pow (a := x) (b := y) (n := 1)
  simp only [Nat.pow_one] at h
  rw [h]
  have hx : x % 2 = 0 ∨ x % 2 = 1 := by omega
  have hy : y % 2 = 0 ∨ y % 2 = 1 := by omega
  rcases hx with hx | hx <;> rcases hy with hy | hy <;> rw [hx, hy] <;> rfl
theorem or_mod2 (x y : Nat) : (x ||| y) % 2 + (x % 2) * (y % 2) = x % 2 + y % 2 := by
  have h := Nat.or_mod_two_pow (a := x) (b := y) (n := 1)
  simp only [Nat.pow_one] at h
  rw [h]
  have hx : x % 2 = 0 ∨ x % 2 = 1 := by omega
  have hy : y % 2 = 0 ∨ y % 2 = 1 := by omega
  rcases hx with hx | hx <;> rcases hy with hy | hy <;> rw [hx, hy] <;> rfl
theorem bs_and : ∀ (n x y : Nat), x < 2 ^ n → y < 2 ^ n → bs 2 n x y = x &&& y
  | 0, x, y, hx, hy => by
    have : x = 0 := by omega
    subst this; simp [bs]
  | n + 1, x, y, hx, hy => by
    have e := bs_and n (x / 2) (y / 2) (by rw [Nat.pow_succ] at hx; omega) (by rw [Nat.pow_succ] at hy; omega)
    have d := Nat.and_div_two (a := x) (b := y)
    have m := and_mod2 x y
    have hx : x % 2 = 0 ∨ x % 2 = 1 := by omega
    have hy : y % 2 = 0 ∨ y % 2 = 1 := by omega
    simp only [bs, e]
    rcases hx with hx | hx <;> rcases hy with hy | hy <;> rw [hx, hy] at m ⊢ <;> simp <;> omega
theorem bs_xor : ∀ (n x y : Nat), x < 2 ^ n → y < 2 ^ n → bs 1 n x y + (x &&& y) = x ||| y
  | 0, x, y, hx, hy => by
    have : x = 0 := by omega
    have : y = 0 := by omega
    subst x; subst y; simp [bs]
  | n + 1, x, y, hx, hy => by
    have e := bs_xor n (x / 2) (y / 2) (by rw [Nat.pow_succ] at hx; omega) (by rw [Nat.pow_succ] at hy; omega)
    have d := Nat.and_div_two (a := x) (b := y)
    have d' := Nat.or_div_two (a := x) (b := y)
    have m := and_mod2 x y
    have m' := or_mod2 x y
    have hx : x % 2 = 0 ∨ x % 2 = 1 := by omega
    have hy : y % 2 = 0 ∨ y % 2 = 1 := by omega
    rw [← d, ← d'] at e
    simp only [bs]
    generalize bs 1 n (x / 2) (y / 2) = B at e ⊢
    generalize (x &&& y) = A at e m m' ⊢
    generalize (x ||| y) = O at e m m' ⊢
    clear d d'
    rcases hx with hx | hx <;> rcases hy with hy | hy <;> rw [hx, hy] at m m' ⊢ <;> simp at m m' ⊢ <;> omega
theorem bitAnd_nat (x y : Nat) : Builtin.bitAnd (x : Int) (y : Int) = ((x &&& y : Nat) : Int) := by
  unfold Builtin.bitAnd
  rw [decide_eq_true (show (0 : Int) ≤ x by omega), decide_eq_true (show (0 : Int) ≤ y by omega)]
  rfl
theorem bitOr_nat (x y : Nat) : Builtin.bitOr (x : Int) (y : Int) = ((x ||| y : Nat) : Int) := by
  unfold Builtin.bitOr Builtin.bitAnd Builtin.bitNot
  rw [decide_eq_false (show ¬ (0 : Int) ≤ -(x : Int) - 1 by omega), decide_eq_false (show ¬ (0 : Int) ≤ -(y : Int) - 1 by omega)]
  simp only
  have h1 : (-(-(x : Int) - 1) - 1).toNat = x := by omega
  have h2 : (-(-(y : Int) - 1) - 1).toNat = y := by omega
  rw [h1, h2]; omega
theorem bitXor_nat (x y : Nat) (hx : x < 2 ^ 16) (hy : y < 2 ^ 16) : Builtin.bitXor (x : Int) (y : Int) = ((bs 1 16 x y : Nat) : Int) := by
  unfold Builtin.bitXor
  rw [bitAnd_nat, bitOr_nat, ← bs_xor 16 x y hx hy]; omega
end Tm

set_option Elab.async false
set_option linter.all false
set_option maxRecDepth 100000
set_option maxHeartbeats 4000000
namespace Tm
open PySem L2
theorem o_band {i j : Int} {S : Store} : binop .band (.int i) (.int j) S = some (.int (Builtin.bitAnd i j), S) := rfl
theorem o_bxor {i j : Int} {S : Store} : binop .bxor (.int i) (.int j) S = some (.int (Builtin.bitXor i j), S) := rfl
theorem forL_nx {bod : Env' → Store → Option (Fl × Env' × Store)} {t : Tg} {cks ds : List D} {d : D} {e e1 e2 : Env'} {S S2 : Store} {w : Fl × Env' × Store}
    (hc : chks S cks = true) (hb : bindT t d S e = some e1) (h : bod e1 S = some (.nx, e2, S2)) (r : forL bod t cks ds e2 S2 = some w) : forL bod t cks (d :: ds) e S = some w := by
  simp only [forL, hc, hb, h, if_true, Option.bind_some]; exact r
theorem forL_nil {bod : Env' → Store → Option (Fl × Env' × Store)} {t : Tg} {cks : List D} {e : Env'} {S : Store} (hc : chks S cks = true) : forL bod t cks [] e S = some (.nx, e, S) := by
  simp only [forL, hc, if_true]
inductive LcAll (cnd elt : Env' → Store → Option (D × Store)) (t : Tg) (w : Env') : List D → List D → Prop
  | nil : LcAll cnd elt t w [] []
  | cons {d y : D} {ds ys : List D} {e1 : Env'} (hb : ∀ S, bindT t d S w = some e1) (hc : ∀ S, cnd e1 S = some (.bl true, S)) (he : ∀ S, elt e1 S = some (y, S)) (r : LcAll cnd elt t w ds ys) : LcAll cnd elt t w (d :: ds) (y :: ys)
theorem lc_pure {cnd elt : Env' → Store → Option (D × Store)} {t : Tg} {w : Env'} {n : Nat} {ds ys : List D} (h : LcAll cnd elt t w ds ys) : ∀ {S : Store} {acc : List D}, S[n]? = some (.lst acc) → acc.length + ys.length ≤ sizeLine →
    lcL cnd elt t [] w n ds S = some (S.set n (.lst (acc ++ ys))) := by
  induction h with
  | nil =>
    intro S acc hS hl
    obtain ⟨hn, hv⟩ := List.getElem?_eq_some_iff.mp hS
    have : S.set n (.lst acc) = S := by rw [← hv]; exact List.set_getElem_self hn
    simp only [lcL, chks, if_true, List.append_nil, this]
  | cons hb hc he r ih =>
    intro S acc hS hl
    simp only [List.length_cons] at hl
    have hp : ∀ z, push n z S = some (S.set n (.lst (acc ++ [z]))) := by
      intro z; simp only [push, hS]; rw [if_pos (by omega)]
    simp only [lcL, chks, if_true, hb S, hc S, he S, Option.bind_some, hp]
    rw [ih (set_get hS) (by simp; omega)]
    simp
theorem er_lcp {q : Pr} {W k : Nat} {i a b : C} {t : Tg} {own : List Nat} {e : Env'} {S S1 : Store} {ds ys : List D} (h1 : ev (pm q W k) i e S = some (itD ds [], S1))
    (h2 : LcAll (ev (pm q W k) b) (ev (pm q W k) a) t (wipeE e own) ds ys) (h3 : ys.length ≤ sizeLine) : ev (pm q W k) (.lc i t b a own) e S = some (.ref S1.length, S1 ++ [.lst ys]) := by
  refine er_lc h1 ?_
  rw [lc_pure h2 (g_last) (by simpa using h3)]
  congr 1
  rw [List.nil_append, List.set_append_right _ _ (Nat.le_refl _)]
  simp
def sumOf (nm : Str) (x y : Int) : Int :=
  if nm = "add" then (x + y) % 65536 else if nm = "sub" then (x - y) % 65536 else if nm = "and" then Builtin.bitAnd x y else if nm = "xor" then Builtin.bitXor x y
  else if x < y then 1 else 0
abbrev sms : List Str := ["add", "sub", "and", "xor", "below"]
theorem sum_le {nm : Str} (hm : nm ∈ sms) {x y : Int} (hx : 0 ≤ x ∧ x < 65536) (hy : 0 ≤ y ∧ y < 65536) : (sumOf nm x y).natAbs < 10 ^ 12 := by
  obtain ⟨x, rfl⟩ := Int.eq_ofNat_of_zero_le hx.1
  obtain ⟨y, rfl⟩ := Int.eq_ofNat_of_zero_le hy.1
  simp only [sms, List.mem_cons, List.not_mem_nil, or_false] at hm
  rcases hm with rfl | rfl | rfl | rfl | rfl
  · show ((x + y : Int) % 65536).natAbs < _; omega
  · show ((x - y : Int) % 65536).natAbs < _; omega
  · show (Builtin.bitAnd x y).natAbs < _
    rw [bitAnd_nat]
    have := Nat.and_le_left (n := x) (m := y)
    omega
  · show (Builtin.bitXor x y).natAbs < _
    rw [show Builtin.bitXor x y = Builtin.bitOr x y - Builtin.bitAnd x y from rfl, bitAnd_nat, bitOr_nat]
    have h1 := Nat.and_le_left (n := x) (m := y)
    have h2 : x ||| y < 2 ^ 16 := Nat.or_lt_two_pow (by omega) (by omega)
    omega
  · show (if (x : Int) < y then (1 : Int) else 0).natAbs < _
    split <;> decide
/-! ## loops and comprehensions, by what holds before each item -/
/-- a comprehension: Inv (items left) (made so far) (store); the list under way stands at n -/
theorem lc_inv {cnd elt : Env' → Store → Option (D × Store)} {t : Tg} {w : Env'} {n : Nat} {cks : List D} (Inv : List D → List D → Store → Prop)
    (hc : ∀ ds acc S, Inv ds acc S → chks S cks = true)
    (step : ∀ d ds acc S, Inv (d :: ds) acc S → ∃ e1 S1, bindT t d S w = some e1 ∧ ((cnd e1 S = some (.bl false, S1) ∧ Inv ds acc S1) ∨
      (∃ y S2, cnd e1 S = some (.bl true, S1) ∧ elt e1 S1 = some (y, S2) ∧ S2[n]? = some (.lst acc) ∧ acc.length < sizeLine ∧ Inv ds (acc ++ [y]) (S2.set n (.lst (acc ++ [y])))))) :
    ∀ ds acc S, Inv ds acc S → ∃ acc' S', lcL cnd elt t cks w n ds S = some S' ∧ Inv [] acc' S' := by
  intro ds
  induction ds with
  | nil => intro acc S h; exact ⟨acc, S, by simp only [lcL, hc _ _ _ h, if_true], h⟩
  | cons d ds ih =>
    intro acc S h
    obtain ⟨e1, S1, hb, h2⟩ := step d ds acc S h
    rcases h2 with ⟨h3, h4⟩ | ⟨y, S2, h3, h4, h5, h6, h7⟩
    · obtain ⟨a', S', k1, k2⟩ := ih acc S1 h4
      exact ⟨a', S', by simp only [lcL, hc _ _ _ h, if_true, hb, h3, Option.bind_some]; exact k1, k2⟩
    · obtain ⟨a', S', k1, k2⟩ := ih _ _ h7
      have hp : push n y S2 = some (S2.set n (.lst (acc ++ [y]))) := by simp only [push, h5, h6, if_true]
      exact ⟨a', S', by simp only [lcL, hc _ _ _ h, if_true, hb, h3, h4, hp, Option.bind_some]; exact k1, k2⟩
/-- a for that runs to its end -/
theorem forL_inv {bod : Env' → Store → Option (Fl × Env' × Store)} {t : Tg} {cks : List D} (Inv : List D → Env' → Store → Prop)
    (hc : ∀ ds e S, Inv ds e S → chks S cks = true)
    (step : ∀ d ds e S, Inv (d :: ds) e S → ∃ e1 e2 S2, bindT t d S e = some e1 ∧ (bod e1 S = some (.nx, e2, S2) ∨ bod e1 S = some (.ct, e2, S2)) ∧ Inv ds e2 S2) :
    ∀ ds e S, Inv ds e S → ∃ e' S', forL bod t cks ds e S = some (.nx, e', S') ∧ Inv [] e' S' := by
  intro ds
  induction ds with
  | nil => intro e S h; exact ⟨e, S, by simp only [forL, hc _ _ _ h, if_true], h⟩
  | cons d ds ih =>
    intro e S h
    obtain ⟨e1, e2, S2, hb, h2, h3⟩ := step d ds e S h
    obtain ⟨e', S', k1, k2⟩ := ih e2 S2 h3
    rcases h2 with h2 | h2
    · exact ⟨e', S', by simp only [forL, hc _ _ _ h, if_true, hb, h2, Option.bind_some]; exact k1, k2⟩
    · exact ⟨e', S', by simp only [forL, hc _ _ _ h, if_true, hb, h2, Option.bind_some]; exact k1, k2⟩
theorem forL_rt {bod : Env' → Store → Option (Fl × Env' × Store)} {t : Tg} {cks ds : List D} {d v : D} {e e1 e2 : Env'} {S S2 : Store}
    (hc : chks S cks = true) (hb : bindT t d S e = some e1) (h : bod e1 S = some (.rt v, e2, S2)) : forL bod t cks (d :: ds) e S = some (.rt v, e2, S2) := by
  simp only [forL, hc, hb, h, if_true, Option.bind_some]
theorem forL_bk {bod : Env' → Store → Option (Fl × Env' × Store)} {t : Tg} {cks ds : List D} {d : D} {e e1 e2 : Env'} {S S2 : Store}
    (hc : chks S cks = true) (hb : bindT t d S e = some e1) (h : bod e1 S = some (.bk, e2, S2)) : forL bod t cks (d :: ds) e S = some (.nx, e2, S2) := by
  simp only [forL, hc, hb, h, if_true, Option.bind_some]
theorem forL_ct {bod : Env' → Store → Option (Fl × Env' × Store)} {t : Tg} {cks ds : List D} {d : D} {e e1 e2 : Env'} {S S2 : Store} {w : Fl × Env' × Store}
    (hc : chks S cks = true) (hb : bindT t d S e = some e1) (h : bod e1 S = some (.ct, e2, S2)) (r : forL bod t cks ds e2 S2 = some w) : forL bod t cks (d :: ds) e S = some w := by
  simp only [forL, hc, hb, h, if_true, Option.bind_some]; exact r
/-! ## slices, sums of tuples and lists -/
theorem cut_to (xs : List D) {i : Int} (h : 0 ≤ i) : cutD xs none (some i) = xs.take i.toNat := by
  unfold cutD HT.sIx
  simp only [if_neg (show ¬ i < 0 by omega), List.drop_zero, Nat.sub_zero]
  rw [← List.take_take]
  simp
theorem cut_from (xs : List D) {i : Int} (h : 0 ≤ i) : cutD xs (some i) none = xs.drop i.toNat := by
  unfold cutD HT.sIx
  simp only [if_neg (show ¬ i < 0 by omega)]
  by_cases g : i.toNat ≤ xs.length
  · rw [Nat.min_eq_left g, List.take_of_length_le (by simp)]
  · rw [Nat.min_eq_right (by omega), List.drop_of_length_le (show xs.length ≤ i.toNat by omega)]; simp
section
variable {q : Pr} {W k : Nat} {e : Env'} {S S1 S2 : Store} {a b : C} {x : D} {xs ys : List D} {i j : Int}
theorem er_slc_to (h1 : ev (pm q W k) a e S = some (.tup xs, S1)) (hb : isAbs b = false) (h2 : ev (pm q W k) b e S1 = some (.int i, S2)) (hi : 0 ≤ i) : ev (pm q W k) (.slc a .absent b) e S = some (.tup (xs.take i.toNat), S2) := by
  have ha : isAbs C.absent = true := rfl
  simp only [ev, h1, Option.bind_some, part, ha, if_true, hb, Bool.false_eq_true, if_false, h2, slcop, cut_to xs hi]
theorem er_slc_from (h1 : ev (pm q W k) a e S = some (.tup xs, S1)) (hb : isAbs b = false) (h2 : ev (pm q W k) b e S1 = some (.int i, S2)) (hi : 0 ≤ i) : ev (pm q W k) (.slc a b .absent) e S = some (.tup (xs.drop i.toNat), S2) := by
  have ha : isAbs C.absent = true := rfl
  simp only [ev, h1, Option.bind_some, part, ha, if_true, hb, Bool.false_eq_true, if_false, h2, slcop, cut_from xs hi]
theorem o_addT (h : xs.length + ys.length ≤ sizeLine) : binop .add (.tup xs) (.tup ys) S = some (.tup (xs ++ ys), S) := by
  show okI (decide (xs.length + ys.length ≤ sizeLine)) _ _ = _
  rw [decide_eq_true h]; rfl
theorem o_addL {m n : Nat} (h1 : S[m]? = some (.lst xs)) (h2 : S[n]? = some (.lst ys)) (h : xs.length + ys.length ≤ sizeLine) : binop .add (.ref m) (.ref n) S = some (.ref S.length, S ++ [.lst (xs ++ ys)]) := by
  simp only [binop, h1, h2, h, if_true, new]
theorem at_nat {n : Nat} {d : D} (h : xs[n]? = some d) : atI xs (n : Int) = some d := by
  have hl := (List.getElem?_eq_some_iff.mp h).1
  unfold atI ixN
  rw [if_pos (by omega), if_pos (by omega)]
  simpa using h
theorem at_pos {d : D} (h0 : 0 ≤ i) (h : xs[i.toNat]? = some d) : atI xs i = some d := by
  have := at_nat (n := i.toNat) h
  rwa [Int.toNat_of_nonneg h0] at this
/-- what `items[:i] + (x,) + items[i + 1:]` is -/
theorem put_at {n : Nat} (h : n < xs.length) : xs.take n ++ [x] ++ xs.drop (n + 1) = xs.set n x := by
  rw [List.set_eq_take_append_cons_drop, if_pos h]; simp
end
section
variable {a b c d : D}
theorem pk1 : pick [0] ([a] ++ []) = [a] := rfl
theorem pk2 : pick [0, 1] ([a, b] ++ []) = [a, b] := rfl
theorem pk3 : pick [0, 1, 2] ([a, b, c] ++ []) = [a, b, c] := rfl
theorem pk4 : pick [0, 1, 2, 3] ([a, b, c, d] ++ []) = [a, b, c, d] := rfl
theorem pn1 : pick [0] ([] ++ [a]) = [a] := rfl
theorem pn2 : pick [1, 0] ([] ++ [a, b]) = [b, a] := rfl
theorem es_skip2 {q : Pr} {W k : Nat} {e e' : Env'} {S S' : Store} (h1 : e = e') (h2 : S = S') : ex (pm q W k) .skip e S = some (.nx, e', S') := by subst h1 h2; rfl
theorem pn3 : pick [1, 2, 0] ([] ++ [a, b, c]) = [b, c, a] := rfl
end
theorem b_tupL {n : Nat} {xs : List D} {S : Store} (h : listAt S n = some xs) : biop .tuple [.ref n] S = some (.tup xs, S) := by
  show (listAt S n).map _ = _
  rw [h]; rfl
theorem pur_of {q : Pr} {W k f : Nat} {es : List D} {d : D} (h : ∀ S, ∃ S', run q W k f es S = some (d, S') ∧ Kp [] S S') : ∃ F : Store → Store, (∀ S, run q W k f es S = some (d, F S)) ∧ ∀ S, Kp [] S (F S) :=
  ⟨fun S => Classical.choose (h S), fun S => (Classical.choose_spec (h S)).1, fun S => (Classical.choose_spec (h S)).2⟩
theorem Kp.nil {S S' : Store} {A : List Nat} (h : Kp [] S S') : Kp A S S' := h.more (by simp)
theorem Spr.kp0 {S S' : Store} {a : Nat} {c : Int} (h : Spr S a c) (k : Kp [] S S') : Spr S' a c := h.kp k (by simp)
theorem Kp.drop {S S' : Store} {a : Nat} (h : Kp [a] S S') (l : S.length ≤ a) : Kp [] S S' := fun i o _ e => by
  refine h i o ?_ e
  have := (List.getElem?_eq_some_iff.mp e).1
  simp; omega
theorem Kp.from {S S1 S' : Store} {a : Nat} (h : Kp [] S S1) (k : Kp [a] S1 S') (l : S.length ≤ a) : Kp [] S S' := fun i o n e => by
  refine k i o ?_ (h i o n e)
  have := (List.getElem?_eq_some_iff.mp e).1
  simp; omega
theorem beqs_ints : ∀ ns : List Int, D.beqs (ns.map D.int) (ns.map D.int) = true
  | [] => rfl
  | n :: ns => by
    show (decide (n = n) && D.beqs (ns.map D.int) (ns.map D.int)) = true
    rw [beqs_ints ns, decide_eq_true rfl]; rfl
theorem at_ints (ns : List Int) (i : Int) (h0 : 0 ≤ i) (h1 : i < ((ns.map D.int).length : Int)) : ∃ u, atI (ns.map D.int) i = some (.int u) := by
  have hl : i.toNat < ns.length := by simp at h1; omega
  refine ⟨ns[i.toNat], ?_⟩
  have e : ixN (ns.map D.int).length i = some i.toNat := by
    unfold ixN
    rw [if_pos h0, if_pos h1]
  unfold atI
  rw [e]
  simp [hl]
end Tm

set_option Elab.async false
set_option linter.all false
set_option maxRecDepth 100000
set_option maxHeartbeats 4000000
namespace Tm
open PySem L2
theorem Kp.set_new {S0 S : Store} {n : Nat} {o : O} (h : Kp [] S0 S) (hn : S0.length ≤ n) : Kp [] S0 (S.set n o) := fun i u x e => by
  have := (List.getElem?_eq_some_iff.mp e).1
  rw [List.getElem?_set_ne (by omega)]
  exact h i u x e
theorem push_at {n : Nat} {d : D} {S : Store} {xs : List D} (h : S[n]? = some (.lst xs)) (l : xs.length < sizeLine) : push n d S = some (S.set n (.lst (xs ++ [d]))) := by
  simp only [push, h, l, if_true]
/-- a comprehension whose items each give something or nothing, with nothing else done -/
theorem lcF {α : Type} {cnd elt : Env' → Store → Option (D × Store)} {t : Tg} {w : Env'} {cks : List D} {n : Nat} {S0 : Store} (h : α → D) (f : α → Option D) (hck : ∀ S, Kp [] S0 S → chks S cks = true) (hn : S0.length ≤ n) : ∀ (ds : List α) (acc : List D) (S : Store),
    (∀ d ∈ ds, ∀ S, Kp [] S0 S → ∃ e1, bindT t (h d) S w = some e1 ∧ ((f d = none ∧ cnd e1 S = some (.bl false, S)) ∨ ∃ y S2, f d = some y ∧ cnd e1 S = some (.bl true, S) ∧ elt e1 S = some (y, S2) ∧ Kp [] S S2)) →
    S[n]? = some (.lst acc) → acc.length + ds.length ≤ sizeLine → Kp [] S0 S → ∃ S', lcL cnd elt t cks w n (ds.map h) S = some S' ∧ Kp [] S0 S' ∧ S'[n]? = some (.lst (acc ++ ds.filterMap f)) := by
  intro ds
  induction ds with
  | nil => intro acc S _ h2 _ h4; exact ⟨S, by simp only [List.map_nil, lcL, hck S h4, if_true], h4, by simpa using h2⟩
  | cons d ds ih =>
    intro acc S h1 h2 h3 h4
    simp only [List.length_cons] at h3
    obtain ⟨e1, g1, g⟩ := h1 d List.mem_cons_self S h4
    rcases g with ⟨g2, g3⟩ | ⟨y, S2, g2, g3, g4, g5⟩
    · obtain ⟨S', k1, k2, k3⟩ := ih acc S (fun d hd => h1 d (List.mem_cons_of_mem _ hd)) h2 (by omega) h4
      exact ⟨S', by simp only [List.map_cons, lcL, hck S h4, if_true, g1, g3, Option.bind_some]; exact k1, k2, by rw [List.filterMap_cons, g2]; exact k3⟩
    · have h2' := g5 n _ (by simp) h2
      obtain ⟨S', k1, k2, k3⟩ := ih (acc ++ [y]) (S2.set n (.lst (acc ++ [y]))) (fun d hd => h1 d (List.mem_cons_of_mem _ hd)) (set_get h2') (by simp; omega) ((h4.trans g5).set_new hn)
      exact ⟨S', by simp only [List.map_cons, lcL, hck S h4, if_true, g1, g3, g4, Option.bind_some, push_at h2' (show acc.length < sizeLine by omega)]; exact k1, k2, by rw [List.filterMap_cons, g2, k3]; simp⟩
theorem er_lcF {α : Type} {q : Pr} {W k : Nat} {i a b : C} {t : Tg} {own : List Nat} {e : Env'} {S S1 : Store} {ds : List α} {cks : List D} (h : α → D) (f : α → Option D) (h1 : ev (pm q W k) i e S = some (itD (ds.map h) cks, S1)) (hck : ∀ S, Kp [] S1 S → chks S cks = true) (hl : ds.length ≤ sizeLine)
    (step : ∀ d ∈ ds, ∀ S, Kp [] S1 S → ∃ e1, bindT t (h d) S (wipeE e own) = some e1 ∧ ((f d = none ∧ ev (pm q W k) b e1 S = some (.bl false, S)) ∨ ∃ y S2, f d = some y ∧ ev (pm q W k) b e1 S = some (.bl true, S) ∧ ev (pm q W k) a e1 S = some (y, S2) ∧ Kp [] S S2)) :
    ∃ S', ev (pm q W k) (.lc i t b a own) e S = some (.ref S1.length, S') ∧ Kp [] S1 S' ∧ S'[S1.length]? = some (.lst (ds.filterMap f)) := by
  obtain ⟨S', k1, k2, k3⟩ := lcF (S0 := S1) (n := S1.length) h f hck (Nat.le_refl _) ds [] (S1 ++ [.lst []]) step g_last (by simpa using hl) Kp.push
  exact ⟨S', er_lc h1 k1, k2, by simpa using k3⟩
theorem er_lcG {α : Type} {q : Pr} {W k : Nat} {i a : C} {t : Tg} {own : List Nat} {e : Env'} {S S1 : Store} {ds : List α} {cks : List D} (h f : α → D) (h1 : ev (pm q W k) i e S = some (itD (ds.map h) cks, S1)) (hck : ∀ S, Kp [] S1 S → chks S cks = true) (hl : ds.length ≤ sizeLine)
    (step : ∀ d ∈ ds, ∀ S, Kp [] S1 S → ∃ e1 S2, bindT t (h d) S (wipeE e own) = some e1 ∧ ev (pm q W k) a e1 S = some (f d, S2) ∧ Kp [] S S2) :
    ∃ S', ev (pm q W k) (.lc i t (.lit (.bl true)) a own) e S = some (.ref S1.length, S') ∧ Kp [] S1 S' ∧ S'[S1.length]? = some (.lst (ds.map f)) := by
  obtain ⟨S', k1, k2, k3⟩ := er_lcF (q := q) (W := W) (k := k) (b := .lit (.bl true)) (a := a) (t := t) (own := own) h (fun d => some (f d)) h1 hck hl fun d hd S hS => by
    obtain ⟨e1, S2, g1, g2, g3⟩ := step d hd S hS
    exact ⟨e1, g1, .inr ⟨f d, S2, rfl, er_lit rfl, g2, g3⟩⟩
  refine ⟨S', k1, k2, ?_⟩
  rw [k3, ← List.filterMap_eq_map]; rfl
theorem er_lcM {q : Pr} {W k : Nat} {i a : C} {t : Tg} {own : List Nat} {e : Env'} {S S1 : Store} {ds cks : List D} (f : D → D) (h1 : ev (pm q W k) i e S = some (itD ds cks, S1)) (hck : ∀ S, Kp [] S1 S → chks S cks = true) (hl : ds.length ≤ sizeLine)
    (step : ∀ d ∈ ds, ∀ S, Kp [] S1 S → ∃ e1 S2, bindT t d S (wipeE e own) = some e1 ∧ ev (pm q W k) a e1 S = some (f d, S2) ∧ Kp [] S S2) :
    ∃ S', ev (pm q W k) (.lc i t (.lit (.bl true)) a own) e S = some (.ref S1.length, S') ∧ Kp [] S1 S' ∧ S'[S1.length]? = some (.lst (ds.map f)) :=
  er_lcG (fun d => d) f (by rw [List.map_id']; exact h1) hck hl step
theorem zipF_map {α β : Type} (f : α → D) (g : β → D) : ∀ (xs : List α) (ys : List β), zipF (xs.map f) (ys.map g) = (xs.zip ys).map fun p => .tup [f p.1, g p.2]
  | [], ys => by cases ys <;> rfl
  | x :: xs, [] => rfl
  | x :: xs, y :: ys => by simp [zipF, zipF_map f g xs ys]
theorem b_all {n : Nat} {S : Store} {ds : List D} (h : listAt S n = some ds) (t : ∀ d ∈ ds, d = .bl true) : biop .all [.ref n] S = some (.bl true, S) := by
  have : ∃ bs, blsD ds = some bs ∧ bs.all id = true := by
    clear h
    induction ds with
    | nil => exact ⟨[], rfl, rfl⟩
    | cons d ds ih =>
      obtain ⟨bs, h1, h2⟩ := ih fun d hd => t d (List.mem_cons_of_mem _ hd)
      have := t d List.mem_cons_self
      subst this
      exact ⟨true :: bs, by simp only [blsD, h1, Option.map_some], by simpa using h2⟩
  obtain ⟨bs, h1, h2⟩ := this
  show ((listAt S n).bind fun xs => (blsD xs).map fun bs => (D.bl (bs.all id), S)) = _
  rw [h]
  show ((blsD ds).map fun bs => (D.bl (bs.all id), S)) = _
  rw [h1]
  show some (D.bl (bs.all id), S) = _
  rw [h2]
theorem b_allB {n : Nat} {S : Store} {bs : List Bool} (h : listAt S n = some (bs.map D.bl)) : biop .all [.ref n] S = some (.bl (bs.all id), S) := by
  have h1 : blsD (bs.map D.bl) = some bs := by
    clear h
    induction bs with
    | nil => rfl
    | cons b bs ih => simp only [List.map_cons, blsD, ih, Option.map_some]
  show ((listAt S n).bind fun xs => (blsD xs).map fun bs => (D.bl (bs.all id), S)) = _
  rw [h]
  show ((blsD (bs.map D.bl)).map fun bs => (D.bl (bs.all id), S)) = _
  rw [h1]; rfl
theorem itv_tup {q : Pr} {W k : Nat} {a : C} {e : Env'} {S S1 : Store} {ds : List D} (h : ev (pm q W k) a e S = some (.tup ds, S1)) : ev (pm q W k) (.itv a) e S = some (itD ds [], S1) := er_itv h rfl
theorem itv_lst {q : Pr} {W k : Nat} {a : C} {e : Env'} {S S1 : Store} {ds : List D} {n : Nat} (h : ev (pm q W k) a e S = some (.ref n, S1)) (hn : listAt S1 n = some ds) : ev (pm q W k) (.itv a) e S = some (itD ds [.tup [.ref n, .tup ds]], S1) :=
  er_itv h (by show (listAt S1 n).map _ = _; rw [hn]; rfl)
theorem Kp.at {S S' : Store} {n : Nat} {ds : List D} (k : Kp [] S S') (h : listAt S n = some ds) : listAt S' n = some ds := by
  unfold listAt at h ⊢
  split at h
  · rename_i xs e; rw [k _ _ (by simp) e]; exact h
  · rename_i xs e; rw [k _ _ (by simp) e]; exact h
  · cases h
theorem chk_lst {S S1 : Store} {n : Nat} {ds : List D} (hn : listAt S1 n = some ds) (k : Kp [] S1 S) : chks S [.tup [.ref n, .tup ds]] = true := by
  simp only [chks, chk1, k.at hn, D.beqs_refl, Bool.and_true]
theorem ty_ref {n : Nat} {S : Store} {ds : List D} {t : Ty} (h : listAt S n = some ds) : tyop (.ref n) t S = some (match t with | .list => true | _ => false) := by
  show (listAt S n).map _ = _
  rw [h]; rfl
theorem er_callv {q : Pr} {W k : Nat} {e : Env'} {S S1 S2 : Store} {a b : C} {x : Str} {i : Nat} {ds : List D} {w : D × Store} (h1 : ev (pm q W k) a e S = some (.fn x, S1)) (h2 : ev (pm q W k) b e S1 = some (.tup ds, S2)) (hx : q.fx x = some i) (h3 : run q W k i ds S2 = some w) :
    ev (pm q W k) (.callv a b) e S = some w := by
  simp only [ev, h1, h2, Option.bind_some, hx]
  exact h3
theorem c_isN {S : Store} : cmpop .is_ .non .non S = some true := rfl
theorem c_isnN {S : Store} : cmpop .isn .non .non S = some false := rfl
theorem c_isT {S : Store} {xs : List D} : cmpop .is_ (.tup xs) .non S = some false := rfl
theorem c_isnT {S : Store} {xs : List D} : cmpop .isn (.tup xs) .non S = some true := rfl
theorem c_isB {S : Store} {a b : Bool} : cmpop .is_ (.bl a) (.bl b) S = some (decide (a = b)) := rfl
theorem rng0 (n : Nat) : rng 0 n = (List.range n).map fun (i : Nat) => D.int (i : Int) := by
  unfold rng
  congr 1
  funext i
  simp
theorem er_rng {q : Pr} {W k : Nat} {e : Env'} {S S1 : Store} {a : C} {n : Nat} (h : ev (pm q W k) a e S = some (.tup [.int (n : Int)], S1)) (hn : n < 2 ^ 62) : ev (pm q W k) (.irng a) e S = some (itD ((List.range n).map fun (i : Nat) => D.int (i : Int)) [], S1) := by
  refine er_irng h ?_
  have h1 : decide (-(2 ^ 62) ≤ (n : Int)) = true := decide_eq_true (by omega)
  have h2 : decide ((n : Int) < 2 ^ 62) = true := decide_eq_true (by omega)
  simp only [rngs, h1, h2, Bool.and_self, if_true, Int.toNat_natCast, rng0]
theorem atN {xs : List D} {n : Nat} {d : D} (h : xs[n]? = some d) : atI xs (n : Int) = some d := at_nat h
theorem at_last {xs : List D} {d : D} : atI (xs ++ [d]) (-1) = some d := by
  unfold atI ixN
  have : ((xs ++ [d]).length : Int) = xs.length + 1 := by simp
  rw [if_neg (by decide), if_pos (by omega), this]
  have e : (-1 + ((xs.length : Int) + 1)).toNat = xs.length := by omega
  rw [e]
  simp
end Tm
namespace Tm
open PySem L2
theorem er_env {q : Pr} {W k : Nat} {e e' : Env'} {S : Store} {c : C} {w : D × Store} (he : e = e') (h : ev (pm q W k) c e' S = some w) : ev (pm q W k) c e S = some w := by subst he; exact h
theorem er_izipS {q : Pr} {W k : Nat} {e : Env'} {S S1 S2 : Store} {a b : C} {xs : List D} {z : Str} (h1 : ev (pm q W k) a e S = some (.tup xs, S1)) (h2 : ev (pm q W k) b e S1 = some (.str z, S2)) : ev (pm q W k) (.izip a b) e S = some (itD (zipF xs (z.cps.toList.map fun c => D.str ⟨#[c]⟩)) [], S2) := by
  simp only [ev, h1, h2, Option.bind_some]
theorem er_izipT {q : Pr} {W k : Nat} {e : Env'} {S S1 S2 : Store} {a b : C} {xs ys : List D} (h1 : ev (pm q W k) a e S = some (.tup xs, S1)) (h2 : ev (pm q W k) b e S1 = some (.tup ys, S2)) : ev (pm q W k) (.izip a b) e S = some (itD (zipF xs ys) [], S2) := by
  simp only [ev, h1, h2, Option.bind_some]
theorem pk5 {a b c d e : D} : pick [0, 1, 2, 3, 4] ([a, b, c, d, e] ++ []) = [a, b, c, d, e] := rfl
theorem c_ninT {S : Store} {x : D} {xs : List D} {t : Bool} (hx : isScal x = true) (hs : xs.all isScal = true) (ht : (xs.any fun y => scEq y x) = t) : cmpop .nin x (.tup xs) S = some (!t) := by
  show (inD S x (.tup xs)).map (!·) = some (!t)
  simp only [inD, hx, hs, ht, Bool.and_self, if_true, Option.map_some]
end Tm

set_option Elab.async false
set_option linter.all false
set_option maxRecDepth 100000
set_option maxHeartbeats 8000000
namespace Tm
open PySem L2 TL
/-! ## texts -/
def small : Str := "abcdefghijklmnopqrstuvwxyz"
def digs : Str := "0123456789"
def isSm (c : Nat) : Prop := 97 ≤ c ∧ c ≤ 122
def isDg (c : Nat) : Prop := 48 ≤ c ∧ c ≤ 57
theorem sm_mem {c : Nat} (h : isSm c) : c ∈ small.cps.toList := by
  have : ∀ k, k < 26 → 97 + k ∈ small.cps.toList := by decide +kernel
  have := this (c - 97) (by unfold isSm at h; omega)
  rwa [show 97 + (c - 97) = c by unfold isSm at h; omega] at this
theorem dg_mem {c : Nat} (h : isDg c) : c ∈ digs.cps.toList := by
  have : ∀ k, k < 10 → 48 + k ∈ digs.cps.toList := by decide +kernel
  have := this (c - 48) (by unfold isDg at h; omega)
  rwa [show 48 + (c - 48) = c by unfold isDg at h; omega] at this
def numS (n : Nat) : Str := Str.ofString (toString ((n : Nat) : Int))
theorem tl_numS (n : Nat) : tl (numS n) = numL n := tl_num n
theorem num_dg {n c : Nat} (h : c ∈ numL n) : isDg c := by
  by_cases q : c < 48 ∨ 57 < c
  · exact absurd h (numL_free q)
  · unfold isDg; omega
theorem num_head : ∀ (n : Nat), 1 ≤ n → ∃ c r, numL n = c :: r ∧ ¬ c = 48 := by
  intro n
  induction n using Nat.strongRecOn with
  | _ n ih =>
    intro h
    by_cases q : n < 10
    · exact ⟨48 + n, [], numL_lt q, by omega⟩
    · obtain ⟨c, r, h1, h2⟩ := ih (n / 10) (by omega) (by omega)
      exact ⟨c, r ++ [48 + n % 10], by rw [numL_step (by omega), h1]; rfl, h2⟩
section
variable {S : Store} {x z : Str} {c : Nat}
theorem c_inS : cmpop .in_ (.str ⟨#[c]⟩) (.str z) S = some (decide (c ∈ z.cps.toList)) := rfl
theorem c_ninS : cmpop .nin (.str ⟨#[c]⟩) (.str z) S = some (!decide (c ∈ z.cps.toList)) := rfl
theorem b_lenS (h : (tl z).length ≤ 1000) : biop .len [.str z] S = some (.int (tl z).length, S) := by
  show okI (decide (z.length ≤ sizeLine)) (D.int z.length) S = _
  have e := len_tl z
  rw [decide_eq_true (show z.length ≤ sizeLine by rw [e, sizeLine_eq]; omega), e]; rfl
theorem i_str0 {r : List Nat} (h : tl z = c :: r) (hl : (tl z).length ≤ 1000) : idxop (.str z) (.int 0) S = some (.str ⟨#[c]⟩) := by
  have e := len_tl z
  show (if z.length ≤ sizeLine then (atI z.cps.toList 0).map (fun c => D.str ⟨#[c]⟩) else none) = _
  have q : atI (c :: r) 0 = some c := by
    unfold atI ixN
    rw [if_pos (by omega), if_pos (by simp)]; rfl
  rw [if_pos (show z.length ≤ sizeLine by rw [e, sizeLine_eq]; omega), show z.cps.toList = c :: r from h, q]; rfl
theorem subAt_tl (x y : Str) (i : Nat) : PySem.Builtin.Str.subAt x y i = decide (((tl x).drop i).take (tl y).length = tl y) := by
  unfold PySem.Builtin.Str.subAt
  rw [Bool.eq_iff_iff, beq_iff_eq, decide_eq_true_iff, ← Array.toList_inj, Array.toList_extract, List.extract_eq_take_drop, len_tl y]
  rw [show i + (tl y).length - i = (tl y).length by omega]
theorem starts_cons {x y : Str} {r : List Nat} (h : tl x = c :: r) (hy : tl y = [c]) : Txt.startswith x y = true := by
  show (decide (0 + y.length ≤ x.length) && PySem.Builtin.Str.subAt x y 0) = true
  rw [subAt_tl, len_tl, len_tl, h, hy]
  simp
theorem ends_last {x y : Str} {r : List Nat} (h : tl x = r ++ [c]) (hy : tl y = [c]) : Txt.endswith x y = true := by
  show (decide (0 + y.length ≤ x.length) && PySem.Builtin.Str.subAt x y (x.length - y.length)) = true
  rw [subAt_tl, len_tl, len_tl, h, hy]
  simp
theorem ends_not {x y : Str} (h : c ∉ tl x) (hy : tl y = [c]) : Txt.endswith x y = false := by
  show (decide (0 + y.length ≤ x.length) && PySem.Builtin.Str.subAt x y (x.length - y.length)) = false
  rw [subAt_tl, hy]
  have : ¬ (((tl x).drop (x.length - y.length)).take [c].length = [c]) := fun e => by
    have m : c ∈ ((tl x).drop (x.length - y.length)).take [c].length := by rw [e]; simp
    exact h (List.mem_of_mem_drop (List.mem_of_mem_take m))
  rw [decide_eq_false this, Bool.and_false]
theorem tl_from1 {r : List Nat} (h : tl z = c :: r) : tl (cutS z (some 1) none) = r := by
  show ((tl z).drop (HT.sIx z.length 0 (some 1))).take (HT.sIx z.length z.length none - HT.sIx z.length 0 (some 1)) = r
  have e : z.length = r.length + 1 := by rw [len_tl, h]; rfl
  have e1 : HT.sIx z.length 0 (some 1) = 1 := by show (if (1 : Int) < 0 then ((1 : Int) + (z.length : Int)).toNat else min (1 : Int).toNat z.length) = 1; rw [if_neg (by decide), e]; simp
  have e2 : HT.sIx z.length z.length none = z.length := rfl
  rw [e1, e2, e, h]; simp
theorem tl_to1 {r : List Nat} (h : tl z = r ++ [c]) : tl (cutS z none (some (-1))) = r := by
  show ((tl z).drop (HT.sIx z.length 0 none)).take (HT.sIx z.length z.length (some (-1)) - HT.sIx z.length 0 none) = r
  have e : z.length = r.length + 1 := by rw [len_tl, h]; simp
  have e1 : HT.sIx z.length 0 none = 0 := rfl
  have e2 : HT.sIx z.length z.length (some (-1)) = r.length := by show (if (-1 : Int) < 0 then ((-1 : Int) + (z.length : Int)).toNat else min (-1 : Int).toNat z.length) = r.length; rw [if_pos (by decide), e]; omega
  rw [e1, e2, h]; simp
theorem slS {lo hi : Option Int} {y : Str} (hl : (tl z).length ≤ 100000) (h : cutS z lo hi = y) : slcop (.str z) lo hi S = some (.str y, S) := by
  show okI (decide (z.length ≤ sizeLine)) (.str (cutS z lo hi)) S = _
  rw [decide_eq_true (show z.length ≤ sizeLine by rw [len_tl, sizeLine_eq]; omega), h]; rfl
end
theorem er_slcS_from {q : Pr} {W k : Nat} {e : Env'} {S S1 S2 : Store} {a b : C} {z : Str} {i : Int} {w : D × Store} (h1 : ev (pm q W k) a e S = some (.str z, S1)) (hb : isAbs b = false) (h2 : ev (pm q W k) b e S1 = some (.int i, S2)) (h3 : slcop (.str z) (some i) none S2 = some w) :
    ev (pm q W k) (.slc a b .absent) e S = some w := by
  have ha : isAbs C.absent = true := rfl
  simp only [ev, h1, Option.bind_some, part, ha, if_true, hb, Bool.false_eq_true, if_false, h2, h3]
theorem er_slcS_to {q : Pr} {W k : Nat} {e : Env'} {S S1 S2 : Store} {a b : C} {z : Str} {i : Int} {w : D × Store} (h1 : ev (pm q W k) a e S = some (.str z, S1)) (hb : isAbs b = false) (h2 : ev (pm q W k) b e S1 = some (.int i, S2)) (h3 : slcop (.str z) none (some i) S2 = some w) :
    ev (pm q W k) (.slc a .absent b) e S = some w := by
  have ha : isAbs C.absent = true := rfl
  simp only [ev, h1, Option.bind_some, part, ha, if_true, hb, Bool.false_eq_true, if_false, h2, h3]
theorem er_slcL_from {q : Pr} {W k : Nat} {e : Env'} {S S1 S2 : Store} {a b : C} {n : Nat} {xs : List D} {i : Int} (h1 : ev (pm q W k) a e S = some (.ref n, S1)) (hb : isAbs b = false) (h2 : ev (pm q W k) b e S1 = some (.int i, S2)) (hn : listAt S2 n = some xs) (hi : 0 ≤ i) :
    ev (pm q W k) (.slc a b .absent) e S = some (.ref S2.length, S2 ++ [.lst (xs.drop i.toNat)]) := by
  have ha : isAbs C.absent = true := rfl
  simp only [ev, h1, Option.bind_some, part, ha, if_true, hb, Bool.false_eq_true, if_false, h2, slcop, hn, Option.map_some, new, cut_from xs hi]
theorem er_izipL {q : Pr} {W k : Nat} {e : Env'} {S S1 S2 : Store} {a b : C} {n : Nat} {xs : List D} {z : Str} (h1 : ev (pm q W k) a e S = some (.ref n, S1)) (h2 : ev (pm q W k) b e S1 = some (.str z, S2)) (hn : listAt S2 n = some xs) :
    ev (pm q W k) (.izip a b) e S = some (itD (zipF xs (z.cps.toList.map fun c => D.str ⟨#[c]⟩)) [.tup [.ref n, .tup xs]], S2) := by
  simp only [ev, h1, h2, Option.bind_some, hn, Option.map_some]
theorem itv_str {q : Pr} {W k : Nat} {a : C} {e : Env'} {S S1 : Store} {z : Str} (h : ev (pm q W k) a e S = some (.str z, S1)) : ev (pm q W k) (.itv a) e S = some (itD (charsD z) [], S1) := er_itv h rfl
theorem mem_chars {z : Str} {d : D} (h : d ∈ charsD z) : ∃ c, c ∈ tl z ∧ d = .str ⟨#[c]⟩ := by
  simp only [charsD, List.mem_map] at h
  obtain ⟨c, h1, h2⟩ := h
  exact ⟨c, h1, h2.symm⟩
theorem chars_len {z : Str} : (charsD z).length = (tl z).length := by simp [charsD]

/-! ## joining and splitting -/
theorem joinL_app {s : List Nat} : ∀ {a b : List (List Nat)}, a ≠ [] → b ≠ [] → joinL s (a ++ b) = joinL s a ++ (s ++ joinL s b)
  | [], _, h, _ => (h rfl).elim
  | [x], [], _, h => (h rfl).elim
  | [x], y :: b, _, _ => rfl
  | x :: y :: a, b, _, h => by
    have ih := joinL_app (s := s) (a := y :: a) (b := b) (by simp) h
    show x ++ (s ++ joinL s (y :: a ++ b)) = x ++ (s ++ joinL s (y :: a)) ++ (s ++ joinL s b)
    rw [ih]; simp
theorem joinL_one {s x : List Nat} : joinL s [x] = x := rfl
theorem joinL_cons2 {s x y : List Nat} {r : List (List Nat)} : joinL s (x :: y :: r) = x ++ (s ++ joinL s (y :: r)) := rfl
theorem tl_jn (y : Str) (ws : List Str) : tl (Txt.join y ws) = joinL (tl y) (ws.map tl) := by rw [join_eq, tl_join]
theorem b_join {S : Store} {n : Nat} {y : Str} {ws : List Str} (h : listAt S n = some (ws.map D.str)) (hl : (ws.map (·.length)).sum + ws.length * y.length ≤ 16777216) : mtop .join (.str y) [.ref n] S = some (.str (Txt.join y ws), S) := by
  have e : ∀ ws : List Str, strsD (ws.map D.str) = some ws := fun ws => by
    induction ws with
    | nil => rfl
    | cons w ws ih => simp only [List.map_cons, strsD, ih, Option.map_some]
  show ((listAt S n).bind fun xs => (strsD xs).bind fun ys => okI (decide ((ys.map (·.length)).sum + ys.length * y.length ≤ 16777216)) (.str (Txt.join y ys)) S) = _
  rw [h]
  show ((strsD (ws.map D.str)).bind fun ys => okI (decide ((ys.map (·.length)).sum + ys.length * y.length ≤ 16777216)) (.str (Txt.join y ys)) S) = _
  rw [e]
  show okI (decide ((ws.map (·.length)).sum + ws.length * y.length ≤ 16777216)) (.str (Txt.join y ws)) S = _
  rw [decide_eq_true hl]; rfl
theorem b_split {S : Store} {x y : Str} {ws : List Str} (hy : (y.length == 0) = false) (hl : (tl x).length ≤ 1000000) (h : Txt.split x y = ws) : mtop .split (.str x) [.str y] S = some (.ref S.length, S ++ [.lst (ws.map D.str)]) := by
  show (if (y.length == 0) = false ∧ x.length + 2 ≤ sizeLine then some (new S ((Txt.split x y).map D.str)) else none) = _
  rw [if_pos ⟨hy, by rw [len_tl, sizeLine_eq]; omega⟩, h]; rfl
theorem o_addS {S : Store} {x y : Str} (h : (tl x).length + (tl y).length ≤ 1000000) : binop .add (.str x) (.str y) S = some (.str (x ++ y), S) := by
  show okI (decide (x.length + y.length ≤ sizeLine)) (.str (x ++ y)) S = _
  rw [decide_eq_true (by rw [len_tl, len_tl, sizeLine_eq]; omega)]; rfl
theorem b_strI {S : Store} {n : Nat} (h : n < 100000) : biop .str [.int n] S = some (.str (numS n), S) := by
  show okI (decide (((n : Int)).natAbs.log2 < 1920)) (.str (toString (n : Int))) S = _
  have : ((n : Int)).natAbs.log2 < 1920 := by
    by_cases q : n = 0
    · subst q; decide
    · have h0 : ((n : Int)).natAbs ≠ 0 := by omega
      exact (Nat.log2_lt h0).2 (Nat.lt_of_lt_of_le (show ((n : Int)).natAbs < 2 ^ 17 by omega) (Nat.pow_le_pow_right (by decide) (by decide)))
  rw [decide_eq_true this]; rfl
theorem b_strS {S : Store} {x : Str} : biop .str [.str x] S = some (.str x, S) := rfl
theorem b_intS {S : Store} {n : Nat} (h : n < 100000) : biop .int [.str (numS n)] S = some (.int n, S) := by
  have hl : (numL n).length ≤ 5 := numL_len (by decide) h
  have et := tl_numS n
  have e1 : PySem.intText? (numS n) = some (n : Int) := int_num (by omega)
  have e2 := len_tl (numS n)
  rw [et] at e2
  show (match PySem.intText? (numS n) with | some m => okI (decide ((numS n).length ≤ 640)) (.int m) S | none => none) = _
  rw [e1]
  show okI (decide ((numS n).length ≤ 640)) (.int n) S = _
  rw [decide_eq_true (by omega)]; rfl
/-- " || " -/
def bars : List Nat := [32, 124, 124, 32]
theorem pre_bars_f {c : Nat} {r : List Nat} (h : ∀ d t, r = d :: t → d ≠ 124) : pre bars (c :: r) = false := by
  unfold pre bars
  cases r with
  | nil => simp
  | cons d t =>
    have := h d t rfl
    simp only [List.length_cons, List.take_succ_cons, List.length_nil]
    rw [beq_eq_false_iff_ne]
    intro e
    injection e with _ e
    injection e with e _
    exact this e
theorem spl_step {y cur : List Nat} {c : Nat} {r : List Nat} : spl y 0 cur (c :: r) = if pre y (c :: r) = true then cur :: spl y (y.length - 1) [] r else spl y 0 (cur ++ [c]) r := by
  rw [spl]
theorem spl_skip {y cur : List Nat} {n c : Nat} {r : List Nat} : spl y (n + 1) cur (c :: r) = spl y n cur r := by rw [spl]
theorem spl_end {y cur : List Nat} {n : Nat} : spl y n cur [] = [cur] := by rw [spl]
theorem spl_part {t : List Nat} (ht : ∀ d r, t = d :: r → d ≠ 124) : ∀ (p cur : List Nat), (∀ c ∈ p, c ≠ 124) → spl bars 0 cur (p ++ t) = spl bars 0 (cur ++ p) t
  | [], cur, _ => by simp
  | c :: p, cur, h => by
    have hn : pre bars (c :: (p ++ t)) = false := pre_bars_f fun d r e => by
      cases p with
      | nil => exact ht d r e
      | cons d' p' =>
        injection e with e1 _
        subst e1
        exact h _ (by simp)
    rw [List.cons_append, spl_step, hn, if_neg (by decide), spl_part ht p (cur ++ [c]) fun d hd => h d (List.mem_cons_of_mem _ hd)]
    simp
theorem spl_bars : ∀ (ps : List (List Nat)) (p cur : List Nat), (∀ x ∈ p :: ps, ∀ c ∈ x, c ≠ 124) → spl bars 0 cur (joinL bars (p :: ps)) = (cur ++ p) :: ps
  | [], p, cur, h => by
    have := spl_part (t := []) (fun _ _ e => by cases e) p cur (h p (by simp))
    rw [List.append_nil] at this
    show spl bars 0 cur p = _
    rw [this, spl_end]
  | q :: ps, p, cur, h => by
    rw [joinL_cons2, spl_part (t := bars ++ joinL bars (q :: ps)) (fun d r e => by injection e with e _; subst e; decide) p cur (h p (by simp))]
    show spl bars 0 (cur ++ p) (32 :: 124 :: 124 :: 32 :: joinL bars (q :: ps)) = _
    have hp : pre bars (32 :: 124 :: 124 :: 32 :: joinL bars (q :: ps)) = true := by
      unfold pre bars; simp
    rw [spl_step, if_pos hp]
    show (cur ++ p) :: spl bars 3 [] (124 :: 124 :: 32 :: joinL bars (q :: ps)) = _
    rw [spl_skip, spl_skip, spl_skip, spl_bars ps q [] fun x hx => h x (List.mem_cons_of_mem _ hx)]
    rfl
theorem split_bars {ps : List Str} (hne : ps ≠ []) (h : ∀ x ∈ ps, ∀ c ∈ tl x, c ≠ 124) : Txt.split (Txt.join " || " ps) " || " = ps := by
  apply map_tl_inj
  rw [split_spl _ _ (by decide +kernel) (kind_ok (by decide +kernel)), tl_jn]
  show spl bars 0 [] (joinL bars (ps.map tl)) = _
  cases ps with
  | nil => exact (hne rfl).elim
  | cons p ps =>
    rw [List.map_cons, spl_bars _ _ _ fun x hx => ?_]
    · rfl
    · rw [← List.map_cons, List.mem_map] at hx
      obtain ⟨z, hz, rfl⟩ := hx
      exact h z hz
theorem split_blank {ps : List Str} (hne : ps ≠ []) (h : ∀ x ∈ ps, ∀ c ∈ tl x, c ≠ 32) : Txt.split (Txt.join " " ps) " " = ps :=
  split_join (s := 32) (S := []) (by decide +kernel) (by decide +kernel) hne fun p hp hc => h p hp 32 hc rfl
end Tm

set_option Elab.async false
set_option linter.all false
set_option maxRecDepth 100000
namespace Tm
open PySem L2
def b_40 : St := (.seq (.ifs (.isty (.var 0) .list) (.seq (.ret (.lc (.itv (.var 0)) (.nm 1) (.lit (.bl true)) (.call 40 [0] (.cons (.var 1) .nil) .nil) [1]))
  .skip) .skip)
  (.seq (.ifs (.isty (.var 0) .tuple) (.seq (.ret (.bi .tuple (.cons (.lc (.itv (.var 0)) (.nm 1) (.lit (.bl true)) (.call 40 [0] (.cons (.var 1) .nil) .nil) [1]) .nil)))
  .skip) .skip)
  (.seq (.ret (.var 0))
  .skip)))
def b_893 : St := (.seq (.ifs (.or_ (.not_ (.chain .le .le (.lit (.int 1)) (.bi .len (.cons (.var 0) .nil)) (.var 1))) (.not_ (.bi .all (.cons (.lc (.itv (.var 0)) (.nm 2) (.lit (.bl true)) (.cmp .in_ (.var 2) (.glob 2)) [2]) .nil)))) (.seq (.ret (.lit (.bl false)))
  .skip) .skip)
  (.seq (.ret (.or_ (.cmp .eq (.var 0) (.lit (.str "0"))) (.cmp .ne (.idx (.var 0) (.lit (.int 0))) (.lit (.str "0")))))
  .skip))
def b_930 : St := (.seq (.ret (.and_ (.call 893 [0, 1] (.cons (.var 0) (.cons (.lit (.int 5)) .nil)) .nil) (.cmp .le (.bi .int (.cons (.var 0) .nil)) (.var 1))))
  .skip)
def b_41 : St := (.seq (.ifs (.or_ (.not_ (.chain .le .le (.lit (.int 1)) (.bi .len (.cons (.var 0) .nil)) (.lit (.int 12)))) (.cmp .nin (.idx (.var 0) (.lit (.int 0))) (.glob 1))) (.seq (.ret (.lit (.bl false)))
  .skip) .skip)
  (.seq (.ret (.bi .all (.cons (.lc (.itv (.var 0)) (.nm 1) (.lit (.bl true)) (.or_ (.cmp .in_ (.var 1) (.glob 1)) (.cmp .in_ (.var 1) (.glob 2))) [1]) .nil)))
  .skip))
def b_43 : St := (.seq (.ifs (.cmp .eq (.var 1) (.lit (.str "t"))) (.seq (.ret (.call 41 [0] (.cons (.var 0) .nil) .nil))
  .skip) .skip)
  (.seq (.ifs (.cmp .eq (.var 1) (.lit (.str "r"))) (.seq (.ret (.and_ (.mt .starts (.var 0) (.cons (.lit (.str "r")) .nil)) (.call 930 [0, 1] (.cons (.slc (.var 0) (.lit (.int 1)) .absent) (.cons (.kget 2 (.lit (.str "r"))) .nil)) .nil)))
  .skip) .skip)
  (.seq (.ret (.call 930 [0, 1] (.cons (.var 0) (.cons (.kget 2 (.lit (.str "w"))) .nil)) .nil))
  .skip)))
def b_44 : St := (.seq (.ifs (.kin 1 true (.idx (.var 0) (.lit (.int 0)))) (.seq (.ret (.lit (.bl false)))
  .skip) .skip)
  (.seq (.asg (.nm 1) (.kget 1 (.idx (.var 0) (.lit (.int 0)))))
  (.seq (.ifs (.cmp .ne (.bi .len (.cons (.var 0) .nil)) (.bin .add (.bi .len (.cons (.var 1) .nil)) (.lit (.int 1)))) (.seq (.ret (.lit (.bl false)))
  .skip) .skip)
  (.seq (.ret (.bi .all (.cons (.lc (.izip (.slc (.var 0) (.lit (.int 1)) .absent) (.var 1)) (.tp 2 (.cons (.nm 2) (.cons (.nm 3) .nil))) (.lit (.bl true)) (.call 43 [0, 1] (.cons (.var 2) (.cons (.var 3) .nil)) .nil) [2, 3]) .nil)))
  .skip))))
def b_45 : St := (.seq (.ifs (.mt .ends (.var 3) (.cons (.lit (.str ":")) .nil)) (.seq (.ifs (.or_ (.not_ (.call 41 [0] (.cons (.slc (.var 3) .absent (.neg (.lit (.int 1)))) .nil) .nil)) (.cmp .in_ (.slc (.var 3) .absent (.neg (.lit (.int 1)))) (.var 0))) (.seq (.ret (.lit (.bl false)))
  .skip) .skip)
  (.seq (.seti (.bi .len (.cons (.var 1) .nil)) (.var 0) (.slc (.var 3) .absent (.neg (.lit (.int 1)))))
  (.seq (.ret (.lit (.bl true)))
  .skip))) .skip)
  (.seq (.asg (.nm 4) (.mt .split (.var 3) (.cons (.lit (.str " ")) .nil)))
  (.seq (.ifs (.or_ (.cmp .eq (.bi .len (.cons (.var 1) .nil)) (.lit (.int 40))) (.not_ (.call 44 [0] (.cons (.var 4) .nil) .nil))) (.seq (.ret (.lit (.bl false)))
  .skip) .skip)
  (.seq (.drop (.app (.var 1) (.tup (.cons (.var 2) (.cons (.var 4) .nil)))))
  (.seq (.ret (.lit (.bl true)))
  .skip)))))
def b_46 : St := (.seq (.asg (.nm 1) (.lst .nil))
  (.seq (.for_ (.ienum (.var 0)) (.tp 2 (.cons (.nm 2) (.cons (.nm 3) .nil))) (.seq (.ifs (.and_ (.cmp .eq (.var 3) (.lit (.str "core"))) (.cmp .lt (.bi .len (.cons (.var 1) .nil)) (.lit (.int 4)))) (.seq (.drop (.app (.var 1) (.tup (.cons .dnew (.cons (.lst .nil) .nil)))))
  .skip) (.seq (.ifs (.or_ (.cmp .eq (.bi .len (.cons (.var 1) .nil)) (.lit (.int 0))) (.not_ (.call 45 [0, 1, 2, 3] (.cons (.idx (.idx (.var 1) (.neg (.lit (.int 1)))) (.lit (.int 0))) (.cons (.idx (.idx (.var 1) (.neg (.lit (.int 1)))) (.lit (.int 1))) (.cons (.var 2) (.cons (.var 3) .nil)))) .nil))) (.seq .bad
  .skip) .skip)
  .skip))
  .skip))
  (.seq (.ret (.var 1))
  .skip)))
def b_47 : St := (.seq (.asg (.nm 3) (.lst (.cons (.idx (.var 2) (.lit (.int 0))) .nil)))
  (.seq (.for_ (.izip (.slc (.var 2) (.lit (.int 1)) .absent) (.kget 1 (.idx (.var 2) (.lit (.int 0))))) (.tp 2 (.cons (.nm 4) (.cons (.nm 5) .nil))) (.seq (.ifs (.and_ (.cmp .eq (.var 5) (.lit (.str "t"))) (.cmp .nin (.var 4) (.var 0))) (.seq .bad
  .skip) .skip)
  (.seq (.ifs (.cmp .eq (.var 5) (.lit (.str "t"))) (.seq (.drop (.app (.var 3) (.idx (.var 0) (.var 4))))
  .skip) (.seq (.drop (.app (.var 3) (.bi .int (.cons (.ife (.cmp .eq (.var 5) (.lit (.str "r"))) (.slc (.var 4) (.lit (.int 1)) .absent) (.var 4)) .nil))))
  .skip))
  .skip)))
  (.seq (.ret (.bi .tuple (.cons (.var 3) .nil)))
  .skip)))
def b_48 : St := (.seq (.ifs (.not_ (.isty (.var 0) .str)) (.seq .bad
  .skip) .skip)
  (.seq (.asg (.nm 1) (.call 46 [0] (.cons (.mt .split (.var 0) (.cons (.lit (.str "\n")) .nil)) .nil) .nil))
  (.seq (.ret (.bi .tuple (.cons (.lc (.itv (.var 1)) (.tp 2 (.cons (.nm 2) (.cons (.nm 3) .nil))) (.lit (.bl true)) (.bi .tuple (.cons (.lc (.itv (.var 3)) (.tp 2 (.cons (.nm 4) (.cons (.nm 5) .nil))) (.lit (.bl true)) (.call 47 [0, 1, 2] (.cons (.var 2) (.cons (.var 4) (.cons (.var 5) .nil))) .nil) [4, 5]) .nil)) [2, 3]) .nil)))
  .skip)))
def b_49 : St := (.seq (.asg (.tp 2 (.cons (.nm 2) (.cons (.nm 3) .nil))) (.tup (.cons (.idx (.var 0) (.lit (.int 0))) (.cons (.lst .nil) .nil))))
  (.seq (.ifs (.cmp .eq (.var 2) (.lit (.str "set"))) (.seq (.asg (.nm 3) (.lst (.cons (.bin .add (.lit (.str "r")) (.bi .str (.cons (.idx (.var 0) (.lit (.int 1))) .nil))) (.cons (.bi .str (.cons (.idx (.var 0) (.lit (.int 2))) .nil)) .nil))))
  .skip) (.seq (.ifs (.cmp .in_ (.var 2) (.lst (.cons (.lit (.str "load")) (.cons (.lit (.str "store")) .nil)))) (.seq (.asg (.nm 3) (.lst (.cons (.bin .add (.lit (.str "r")) (.bi .str (.cons (.idx (.var 0) (.lit (.int 1))) .nil))) (.cons (.bin .add (.lit (.str "r")) (.bi .str (.cons (.idx (.var 0) (.lit (.int 2))) .nil))) (.cons (.bi .str (.cons (.idx (.var 0) (.lit (.int 3))) .nil)) .nil)))))
  .skip) (.seq (.ifs (.cmp .in_ (.var 2) (.lst (.cons (.lit (.str "swap")) (.cons (.lit (.str "addto")) .nil)))) (.seq (.asg (.nm 3) (.lst (.cons (.bin .add (.lit (.str "r")) (.bi .str (.cons (.idx (.var 0) (.lit (.int 1))) .nil))) (.cons (.bin .add (.lit (.str "r")) (.bi .str (.cons (.idx (.var 0) (.lit (.int 2))) .nil))) (.cons (.bin .add (.lit (.str "r")) (.bi .str (.cons (.idx (.var 0) (.lit (.int 3))) .nil))) (.cons (.bi .str (.cons (.idx (.var 0) (.lit (.int 4))) .nil)) .nil))))))
  .skip) (.seq (.ifs (.cmp .eq (.var 2) (.lit (.str "ifzero"))) (.seq (.asg (.nm 3) (.lst (.cons (.bin .add (.lit (.str "r")) (.bi .str (.cons (.idx (.var 0) (.lit (.int 1))) .nil))) (.cons (.var 1) .nil))))
  .skip) (.seq (.ifs (.cmp .eq (.var 2) (.lit (.str "jump"))) (.seq (.asg (.nm 3) (.lst (.cons (.var 1) .nil)))
  .skip) (.seq (.ifs (.cmp .nin (.var 2) (.lst (.cons (.lit (.str "fence")) (.cons (.lit (.str "gap")) (.cons (.lit (.str "stop")) .nil))))) (.seq (.asg (.nm 3) (.lst (.cons (.bin .add (.lit (.str "r")) (.bi .str (.cons (.idx (.var 0) (.lit (.int 1))) .nil))) (.cons (.bin .add (.lit (.str "r")) (.bi .str (.cons (.idx (.var 0) (.lit (.int 2))) .nil))) (.cons (.bin .add (.lit (.str "r")) (.bi .str (.cons (.idx (.var 0) (.lit (.int 3))) .nil))) .nil)))))
  .skip) .skip)
  .skip))
  .skip))
  .skip))
  .skip))
  .skip))
  (.seq (.ret (.mt .join (.lit (.str " ")) (.cons (.bin .add (.lst (.cons (.var 2) .nil)) (.var 3)) .nil)))
  .skip)))
def b_50 : St := (.seq (.asg (.nm 1) (.lst (.cons (.lit (.str "core")) (.cons (.lit (.str "set")) (.cons (.lit (.str "jump")) (.cons (.lit (.str "gap")) (.cons (.lit (.str "stop")) (.cons (.lit (.str "l0")) (.cons (.lit (.str "l1")) (.cons (.lit (.str "l40")) (.cons (.lit (.str "r0")) (.cons (.lit (.str "a")) (.cons (.lit (.str "a0")) (.cons (.lit (.str "aa")) (.cons (.lit (.str "l")) (.cons (.lit (.str "ifzero")) (.cons (.lit (.str "below")) .nil)))))))))))))))))
  (.seq (.ifs (.cmp .eq (.call 5 [0, 1] (.cons (.var 0) (.cons (.lit (.int 3)) .nil)) .nil) (.lit (.int 0))) (.seq (.ret (.idx (.var 1) (.call 5 [0, 1] (.cons (.var 0) (.cons (.bi .len (.cons (.var 1) .nil)) .nil)) .nil)))
  .skip) .skip)
  (.seq (.asg (.tp 2 (.cons (.nm 2) (.cons (.nm 3) .nil))) (.tup (.cons (.lit (.str "abcdefghijklmnopqrstuvwxyz0123456789")) (.cons (.idx (.lst (.cons (.lit (.int 36)) (.cons (.lit (.int 2)) .nil))) (.call 5 [0, 1] (.cons (.var 0) (.cons (.lit (.int 2)) .nil)) .nil)) .nil))))
  (.seq (.asg (.nm 4) (.idx (.lst (.cons (.bin .add (.lit (.int 1)) (.call 5 [0, 1] (.cons (.var 0) (.cons (.lit (.int 3)) .nil)) .nil)) (.cons (.bin .add (.lit (.int 1)) (.call 5 [0, 1] (.cons (.var 0) (.cons (.lit (.int 12)) .nil)) .nil)) .nil))) (.call 5 [0, 1] (.cons (.var 0) (.cons (.lit (.int 2)) .nil)) .nil)))
  (.seq (.asg (.tp 2 (.cons (.nm 5) (.cons (.nm 6) .nil))) (.tup (.cons (.call 5 [0, 1] (.cons (.var 0) (.cons (.bin .pow (.lit (.int 10)) (.lit (.int 9))) .nil)) .nil) (.cons (.call 5 [0, 1] (.cons (.var 0) (.cons (.bin .pow (.lit (.int 10)) (.lit (.int 9))) .nil)) .nil) .nil))))
  (.seq (.asg (.nm 7) (.idx (.var 2) (.bin .mod (.bi .int (.cons (.var 5) .nil)) (.lit (.int 26)))))
  (.seq (.for_ (.irng (.cons (.bin .sub (.var 4) (.lit (.int 1))) .nil)) (.nm 8) (.seq (.asg (.nm 5) (.idx (.lst (.cons (.bin .fdiv (.var 5) (.var 3)) (.cons (.var 6) .nil))) (.bi .int (.cons (.cmp .eq (.var 8) (.lit (.int 4))) .nil))))
  (.seq (.asg (.nm 7) (.bin .add (.var 7) (.idx (.var 2) (.bin .mod (.bi .int (.cons (.var 5) .nil)) (.var 3)))))
  .skip)))
  (.seq (.ret (.var 7))
  .skip))))))))
def b_51 : St := (.seq (.asg (.nm 2) (.lst .nil))
  (.seq (.for_ (.irng (.cons (.bin .add (.var 1) (.lit (.int 1))) .nil)) (.nm 3) (.seq (.for_ (.irng (.cons (.idx (.lst (.cons (.lit (.int 0)) (.cons (.lit (.int 1)) (.cons (.lit (.int 0)) (.cons (.lit (.int 2)) .nil))))) (.call 5 [0, 1] (.cons (.var 0) (.cons (.lit (.int 4)) .nil)) .nil)) .nil)) (.nm 4) (.seq (.asg (.nm 5) (.call 50 [0] (.cons (.var 0) .nil) .nil))
  (.seq (.ifs (.cmp .nin (.var 5) (.lc (.itv (.var 2)) (.tp 2 (.cons (.nm 6) (.cons (.nm 7) .nil))) (.lit (.bl true)) (.var 6) [6, 7])) (.seq (.drop (.app (.var 2) (.tup (.cons (.var 5) (.cons (.var 3) .nil)))))
  .skip) .skip)
  .skip)))
  .skip))
  (.seq (.ret (.var 2))
  .skip)))
def b_52 : St := (.seq (.asg (.nm 2) (.lst (.cons (.lit (.str "set")) (.cons (.lit (.str "add")) (.cons (.lit (.str "sub")) (.cons (.lit (.str "and")) (.cons (.lit (.str "xor")) (.cons (.lit (.str "below")) (.cons (.lit (.str "load")) (.cons (.lit (.str "store")) (.cons (.lit (.str "swap")) (.cons (.lit (.str "addto")) (.cons (.lit (.str "fence")) (.cons (.lit (.str "ifzero")) (.cons (.lit (.str "ifzero")) .nil)))))))))))))))
  (.seq (.asg (.nm 2) (.bin .add (.var 2) (.lst (.cons (.lit (.str "jump")) (.cons (.lit (.str "jump")) (.cons (.lit (.str "gap")) (.cons (.lit (.str "stop")) .nil)))))))
  (.seq (.asg (.tp 3 (.cons (.nm 3) (.cons (.nm 4) (.cons (.nm 5) .nil)))) (.tup (.cons (.call 51 [0, 1] (.cons (.var 0) (.cons (.var 1) .nil)) .nil) (.cons (.lst (.cons (.lit (.str "core")) .nil)) (.cons (.lst .nil) .nil)))))
  (.seq (.for_ (.irng (.cons (.bin .add (.var 1) (.lit (.int 1))) .nil)) (.nm 6) (.seq (.asg (.nm 4) (.bin .add (.var 4) (.lc (.itv (.var 3)) (.tp 2 (.cons (.nm 10) (.cons (.nm 9) .nil))) (.cmp .eq (.var 9) (.var 6)) (.bin .add (.var 10) (.lit (.str ":"))) [10, 9])))
  (.seq (.ifs (.cmp .lt (.var 6) (.var 1)) (.seq (.asg (.tp 2 (.cons (.nm 7) (.cons (.nm 8) .nil))) (.tup (.cons (.call 7 [0, 1, 2, 3] (.cons (.var 0) (.cons (.idx (.var 2) (.call 5 [0, 1] (.cons (.var 0) (.cons (.bi .len (.cons (.var 2) .nil)) .nil)) .nil)) (.cons (.lit (.int 8)) (.cons (.lit (.int 40)) .nil)))) .nil) (.cons (.lit (.str "")) .nil))))
  (.seq (.ifs (.and_ (.cmp .in_ (.idx (.var 7) (.lit (.int 0))) (.lst (.cons (.lit (.str "ifzero")) (.cons (.lit (.str "jump")) .nil)))) (.cmp .eq (.var 3) (.lst .nil))) (.seq (.asg (.nm 7) (.tup (.cons (.lit (.str "fence")) .nil)))
  .skip) .skip)
  (.seq (.ifs (.cmp .in_ (.idx (.var 7) (.lit (.int 0))) (.lst (.cons (.lit (.str "ifzero")) (.cons (.lit (.str "jump")) .nil)))) (.seq (.asg (.tp 2 (.cons (.nm 8) (.cons (.nm 9) .nil))) (.idx (.var 3) (.call 5 [0, 1] (.cons (.var 0) (.cons (.bi .len (.cons (.var 3) .nil)) .nil)) .nil)))
  (.seq (.asg (.nm 7) (.bin .add (.slc (.var 7) .absent (.neg (.lit (.int 1)))) (.tup (.cons (.var 9) .nil))))
  .skip)) .skip)
  (.seq (.drop (.app (.var 5) (.var 7)))
  (.seq (.drop (.app (.var 4) (.call 49 [0, 1] (.cons (.var 7) (.cons (.var 8) .nil)) .nil)))
  .skip))))) .skip)
  .skip)))
  (.seq (.ret (.lst (.cons (.var 4) (.cons (.bi .tuple (.cons (.var 5) .nil)) (.cons (.lc (.itv (.var 3)) (.tp 2 (.cons (.nm 10) (.cons (.nm 9) .nil))) (.lit (.bl true)) (.var 10) [10, 9]) .nil)))))
  .skip)))))
def b_53 : St := (.seq (.asg (.nm 1) (.lc (.irng (.cons (.bin .add (.lit (.int 1)) (.call 5 [0, 1] (.cons (.var 0) (.cons (.lit (.int 4)) .nil)) .nil)) .nil)) (.nm 8) (.lit (.bl true)) (.call 5 [0, 1] (.cons (.var 0) (.cons (.lit (.int 10)) .nil)) .nil) [8]))
  (.seq (.ifs (.cmp .eq (.call 5 [0, 1] (.cons (.var 0) (.cons (.lit (.int 6)) .nil)) .nil) (.lit (.int 0))) (.seq (.seti (.lit (.int 40)) (.var 1) (.call 5 [0, 1] (.cons (.var 0) (.cons (.bi .len (.cons (.var 1) .nil)) .nil)) .nil))
  .skip) .skip)
  (.seq (.ifs (.cmp .eq (.call 5 [0, 1] (.cons (.var 0) (.cons (.lit (.int 24)) .nil)) .nil) (.lit (.int 0))) (.seq (.asg (.nm 1) (.bin .mul (.lst (.cons (.lit (.int 40)) .nil)) (.bi .len (.cons (.var 1) .nil))))
  .skip) .skip)
  (.seq (.asg (.tp 2 (.cons (.nm 2) (.cons (.nm 3) .nil))) (.tup (.cons (.lst .nil) (.cons (.lst .nil) .nil))))
  (.seq (.for_ (.itv (.var 1)) (.nm 4) (.seq (.asg (.tp 3 (.cons (.nm 5) (.cons (.nm 6) (.cons (.nm 7) .nil)))) (.call 52 [0, 1] (.cons (.var 0) (.cons (.var 4) .nil)) .nil))
  (.seq (.asg (.nm 2) (.bin .add (.var 2) (.var 5)))
  (.seq (.drop (.app (.var 3) (.var 6)))
  .skip))))
  (.seq (.ret (.lst (.cons (.mt .join (.lit (.str "\n")) (.cons (.var 2) .nil)) (.cons (.bi .tuple (.cons (.var 3) .nil)) .nil))))
  .skip))))))
def b_54 : St := (.seq (.ret (.and_ (.isty (.var 0) .tuple) (.and_ (.cmp .eq (.var 0) (.var 1)) (.cmp .eq (.bi .repr (.cons (.var 0) .nil)) (.bi .repr (.cons (.var 1) .nil))))))
  .skip)
def b_55 : St := (.seq (.asg (.nm 1) (.lst .nil))
  (.seq (.for_ (.irng (.cons (.bi .max (.cons (.lit (.int 1)) (.cons (.bi .min (.cons (.lit (.int 3)) (.cons (.bi .len (.cons (.var 0) .nil)) .nil))) .nil))) .nil)) (.nm 2) (.seq (.asg (.nm 3) (.call 4 [0, 1] (.cons (.var 0) (.cons (.var 2) .nil)) .nil))
  (.seq (.asg (.tp 2 (.cons (.nm 4) (.cons (.nm 5) .nil))) (.call 53 [0] (.cons (.var 3) .nil) .nil))
  (.seq (.ifs (.or_ (.not_ (.call 54 [0, 1] (.cons (.call 48 [0] (.cons (.var 4) .nil) .nil) (.cons (.var 5) .nil)) .nil)) (.not_ (.call 54 [0, 1] (.cons (.call 48 [0] .nil (.cons (.var 4) .nil)) (.cons (.var 5) .nil)) .nil))) (.seq (.ret (.lit (.bl false)))
  .skip) .skip)
  (.seq (.drop (.app (.var 1) (.lst (.cons (.var 4) (.cons (.var 5) .nil)))))
  .skip)))))
  (.seq (.for_ (.itv (.var 1)) (.tp 2 (.cons (.nm 4) (.cons (.nm 5) .nil))) (.seq (.ifs (.not_ (.call 54 [0, 1] (.cons (.call 48 [0] (.cons (.var 4) .nil) .nil) (.cons (.var 5) .nil)) .nil)) (.seq (.ret (.lit (.bl false)))
  .skip) .skip)
  .skip))
  (.seq (.ret (.call 54 [0, 1] (.cons (.call 48 [0] (.cons (.lit (.str "core")) .nil) .nil) (.cons (.tup (.cons (.tup .nil) .nil)) .nil)) .nil))
  .skip))))
def fsK03 : Nat → Option (Nat × Nat × St)
  | 40 => some (1, 2, b_40)
  | 893 => some (2, 3, b_893)
  | 930 => some (2, 2, b_930)
  | 41 => some (1, 2, b_41)
  | 43 => some (2, 2, b_43)
  | 44 => some (1, 4, b_44)
  | 45 => some (4, 5, b_45)
  | 46 => some (1, 4, b_46)
  | 47 => some (3, 6, b_47)
  | 48 => some (1, 6, b_48)
  | 4 => some (2, 5, b_4)
  | 5 => some (2, 4, b_5)
  | 6 => some (1, 2, b_6)
  | 7 => some (4, 9, b_7)
  | 49 => some (2, 4, b_49)
  | 50 => some (1, 9, b_50)
  | 51 => some (2, 8, b_51)
  | 52 => some (2, 11, b_52)
  | 53 => some (1, 9, b_53)
  | 54 => some (2, 2, b_54)
  | 55 => some (1, 6, b_55)
  | _ => none
def glK03 : Nat → D
  | 2 => (.str "0123456789")
  | 1 => (.str "abcdefghijklmnopqrstuvwxyz")
  | _ => .non
def kdK03 : Nat → List (Str × D)
  | 1 => [("set", (.str "rw")), ("add", (.str "rrr")), ("sub", (.str "rrr")), ("and", (.str "rrr")), ("xor", (.str "rrr")), ("below", (.str "rrr")), ("load", (.str "rrw")), ("store", (.str "rrw")), ("swap", (.str "rrrw")), ("addto", (.str "rrrw")), ("fence", (.str "")), ("gap", (.str "")), ("ifzero", (.str "rt")), ("jump", (.str "t")), ("stop", (.str ""))]
  | 2 => [("r", (.int 7)), ("w", (.int 65535))]
  | _ => []
def fxK03 : Str → Option Nat := fun x => List.lookup x []
def prK03 : Pr := ⟨fsK03, glK03, kdK03, fxK03⟩
end Tm

set_option Elab.async false
set_option linter.all false
set_option maxRecDepth 100000
set_option maxHeartbeats 8000000
namespace Tm
open PySem L2 TL
/-- the defs of the assembler and of its law, as the program has them -/
structure HK (q : Pr) : Prop where
  f40 : q.fs 40 = some (1, 2, b_40)
  f893 : q.fs 893 = some (2, 3, b_893)
  f930 : q.fs 930 = some (2, 2, b_930)
  f41 : q.fs 41 = some (1, 2, b_41)
  f43 : q.fs 43 = some (2, 2, b_43)
  f44 : q.fs 44 = some (1, 4, b_44)
  f45 : q.fs 45 = some (4, 5, b_45)
  f46 : q.fs 46 = some (1, 4, b_46)
  f47 : q.fs 47 = some (3, 6, b_47)
  f48 : q.fs 48 = some (1, 6, b_48)
  f4 : q.fs 4 = some (2, 5, b_4)
  f5 : q.fs 5 = some (2, 4, b_5)
  f6 : q.fs 6 = some (1, 2, b_6)
  f7 : q.fs 7 = some (4, 9, b_7)
  f49 : q.fs 49 = some (2, 4, b_49)
  f50 : q.fs 50 = some (1, 9, b_50)
  f51 : q.fs 51 = some (2, 8, b_51)
  f52 : q.fs 52 = some (2, 11, b_52)
  f53 : q.fs 53 = some (1, 9, b_53)
  f54 : q.fs 54 = some (2, 2, b_54)
  f55 : q.fs 55 = some (1, 6, b_55)
  g2 : q.gl 2 = (.str "0123456789")
  g1 : q.gl 1 = (.str "abcdefghijklmnopqrstuvwxyz")
  k1 : q.kd 1 = kdK03 1
  k2 : q.kd 2 = kdK03 2

/-- a name -/
def Nm (x : Str) : Prop := ∃ c r, tl x = c :: r ∧ (tl x).length ≤ 12 ∧ isSm c ∧ ∀ d ∈ tl x, isSm d ∨ isDg d
section
variable {q : Pr} (Q : HK q) {W : Nat}
include Q
theorem name_p (k : Nat) (S : Store) {x : Str} (h : Nm x) : ∃ S', run q W (k + 1) 41 [.str x] S = some (.bl true, S') ∧ Kp [] S S' := by
  obtain ⟨c, r, h1, h2, h3, h4⟩ := h
  have hp : 1 ≤ (tl x).length := by rw [h1]; simp
  obtain ⟨S', c1, c2, c3⟩ := er_lcM (q := q) (W := W) (k := k) (i := .itv (.var 0)) (a := .or_ (.cmp .in_ (.var 1) (.glob 1)) (.cmp .in_ (.var 1) (.glob 2))) (t := .nm 1) (own := [1]) (e := [some (.str x), none]) (S := S) (fun _ => .bl true)
    (itv_str (er_var rfl)) (fun _ _ => rfl) (by rw [chars_len, sizeLine_eq]; omega) (fun d hd S hS => by
      obtain ⟨u, hu, rfl⟩ := mem_chars hd
      refine ⟨[some (.str x), some (.str ⟨#[u]⟩)], S, rfl, ?_, Kp.refl _ _⟩
      have a1 : cmpop .in_ (.str ⟨#[u]⟩) (.str small) S = some (decide (u ∈ small.cps.toList)) := c_inS
      by_cases m : u ∈ small.cps.toList
      · rw [decide_eq_true m] at a1
        exact er_or_t (er_cmp (er_var rfl) (er_glob Q.g1) a1)
      · rw [decide_eq_false m] at a1
        have a2 : cmpop .in_ (.str ⟨#[u]⟩) (.str digs) S = some true := by
          rw [c_inS, decide_eq_true]
          rcases h4 u hu with g | g
          · exact absurd (sm_mem g) m
          · exact dg_mem g
        exact er_or_f (er_cmp (er_var rfl) (er_glob Q.g1) a1) (er_cmp (er_var rfl) (er_glob Q.g2) a2))
  have c4 := b_all (l_lst c3) (fun d hd => by obtain ⟨_, _, rfl⟩ := List.mem_map.mp hd; rfl)
  have a2 : cmpop .nin (.str ⟨#[c]⟩) (.str small) S = some false := by rw [c_ninS, decide_eq_true (sm_mem h3)]; rfl
  refine ⟨S', ?_, c2⟩
  refine' run_rt (e0 := [some _, none]) Q.f41 rfl rfl ?h
  case h =>
    unfold b_41
    exact es_nx (es_if_f (er_or_f (er_not_f (er_chain_t (er_lit rfl) (er_bi (er_cons (er_var rfl) er_nil) (b_lenS (by omega))) (c_le_t (by omega)) (er_lit rfl) (c_le_t (by omega)))) (er_cmp (er_idx (er_var rfl) (er_lit rfl) (i_str0 h1 (by omega))) (er_glob Q.g1) a2)) es_skip)
      (es_rt (es_ret (er_bi (er_cons c1 er_nil) c4)))
theorem numeral_p (k : Nat) (S : Store) {n : Nat} (hn : n < 100000) : ∃ S', run q W (k + 1) 893 [.str (numS n), .int 5] S = some (.bl true, S') ∧ Kp [] S S' := by
  have hl : (numL n).length ≤ 5 := numL_len (by decide) hn
  have hp : 1 ≤ (numL n).length := by
    cases e : numL n with
    | nil => exact absurd e (numL_ne n)
    | cons _ _ => simp
  have et := tl_numS n
  have hT : (tl (numS n)).length = (numL n).length := by rw [et]
  obtain ⟨S', c1, c2, c3⟩ := er_lcM (q := q) (W := W) (k := k) (i := .itv (.var 0)) (a := .cmp .in_ (.var 2) (.glob 2)) (t := .nm 2) (own := [2]) (e := [some (.str (numS n)), some (.int 5), none]) (S := S) (fun _ => .bl true)
    (itv_str (er_var rfl)) (fun _ _ => rfl) (by rw [chars_len, sizeLine_eq]; omega) (fun d hd S hS => by
      obtain ⟨u, hu, rfl⟩ := mem_chars hd
      refine ⟨[some (.str (numS n)), some (.int 5), some (.str ⟨#[u]⟩)], S, rfl, ?_, Kp.refl _ _⟩
      have a1 : cmpop .in_ (.str ⟨#[u]⟩) (.str digs) S = some true := by
        rw [c_inS, decide_eq_true]
        exact dg_mem (num_dg (n := n) (by rw [← et]; exact hu))
      exact er_cmp (er_var rfl) (er_glob Q.g2) a1)
  have c4 := b_all (l_lst c3) (fun d hd => by obtain ⟨_, _, rfl⟩ := List.mem_map.mp hd; rfl)
  have z : ev (pm q W k) (.or_ (.cmp .eq (.var 0) (.lit (.str "0"))) (.cmp .ne (.idx (.var 0) (.lit (.int 0))) (.lit (.str "0")))) [some (.str (numS n)), some (.int 5), none] S' = some (.bl true, S') := by
    by_cases n0 : n = 0
    · subst n0
      exact er_or_t (er_cmp (er_var rfl) (er_lit rfl) (c_str_t (by decide +kernel)))
    · obtain ⟨c, r, g1, g2⟩ := num_head n (by omega)
      have g3 : ¬ (numS n = "0") := fun e => by
        have := congrArg tl e
        rw [et, g1] at this
        have t0 : tl ("0" : Str) = [48] := by decide +kernel
        rw [t0] at this
        exact g2 (List.cons.inj this).1
      have g4 : ¬ ((⟨#[c]⟩ : Str) = "0") := fun e => by
        have := congrArg tl e
        have t0 : tl ("0" : Str) = [48] := by decide +kernel
        rw [t0] at this
        exact g2 (List.cons.inj this).1
      exact er_or_f (er_cmp (er_var rfl) (er_lit rfl) (c_str_f g3)) (er_cmp (er_idx (er_var rfl) (er_lit rfl) (i_str0 (by rw [et]; exact g1) (by omega))) (er_lit rfl) (c_strn_t g4))
  refine ⟨S', ?_, c2⟩
  refine' run_rt (e0 := [some _, some _, none]) Q.f893 rfl rfl ?h
  case h =>
    unfold b_893
    exact es_nx (es_if_f (er_or_f (er_not_f (er_chain_t (er_lit rfl) (er_bi (er_cons (er_var rfl) er_nil) (b_lenS (by omega))) (c_le_t (by omega)) (er_var rfl) (c_le_t (by omega)))) (er_not_f (er_bi (er_cons c1 er_nil) c4))) es_skip)
      (es_rt (es_ret z))
theorem num_p (k : Nat) (S : Store) {n lim : Nat} (h : n ≤ lim) (hn : n < 100000) (hk : 1 ≤ k := by omega) : ∃ S', run q W (k + 1) 930 [.str (numS n), .int lim] S = some (.bl true, S') ∧ Kp [] S S' := by
  obtain ⟨j, rfl⟩ : ∃ j, k = j + 1 := ⟨k - 1, by omega⟩
  obtain ⟨S', a1, a2⟩ := numeral_p Q (W := W) j S hn
  refine ⟨S', ?_, a2⟩
  refine' run_rt (e0 := [some _, some _]) Q.f930 rfl rfl ?h
  case h =>
    unfold b_930
    exact es_rt (es_ret (er_and_t (er_call (er_cons (er_var rfl) (er_cons (er_lit rfl) er_nil)) er_nil rfl a1) (er_cmp (er_bi (er_cons (er_var rfl) er_nil) (b_intS hn)) (er_var rfl) (c_le_t (by omega)))))
/-- a part of a line, of a kind -/
inductive Part : Nat → Str → Prop
  | t {x : Str} (h : Nm x) : Part 116 x
  | r (n : Nat) (h : n ≤ 7) : Part 114 ("r" ++ numS n)
  | w (n : Nat) (h : n ≤ 65535) : Part 119 (numS n)
theorem part_p (k : Nat) (S : Store) {c : Nat} {x : Str} (h : Part c x) (hk : 1 ≤ k := by omega) : ∃ S', run q W (k + 2) 43 [.str x, .str ⟨#[c]⟩] S = some (.bl true, S') ∧ Kp [] S S' := by
  cases h with
  | t h =>
    obtain ⟨S', a1, a2⟩ := name_p Q (W := W) k S h
    refine ⟨S', ?_, a2⟩
    refine' run_rt (e0 := [some _, some _]) Q.f43 rfl rfl ?h
    case h =>
      unfold b_43
      exact es_rt (es_if_t (er_cmp (er_var rfl) (er_lit rfl) (c_str_t (by decide +kernel))) (es_rt (es_ret (er_call (er_cons (er_var rfl) er_nil) er_nil rfl a1))))
  | r n h =>
    obtain ⟨S', a1, a2⟩ := num_p Q (W := W) k S (n := n) (lim := 7) h (by omega)
    refine ⟨S', ?_, a2⟩
    have hl : (numL n).length ≤ 5 := numL_len (by decide) (by omega)
    have t1 : tl (("r" : Str) ++ numS n) = 114 :: numL n := by rw [tl_append, tl_numS]; rfl
    have st : mtop .starts (.str ("r" ++ numS n)) [.str "r"] S = some (.bl true, S) := by
      show some (D.bl (Txt.startswith ("r" ++ numS n) "r"), S) = _
      rw [starts_cons t1 (by rfl)]
    have sl : slcop (.str ("r" ++ numS n)) (some 1) none S = some (.str (numS n), S) :=
      slS (by rw [t1]; simp; omega) (ext_tl (by rw [tl_from1 t1, tl_numS]))
    refine' run_rt (e0 := [some _, some _]) Q.f43 rfl rfl ?h
    case h =>
      unfold b_43
      exact es_nx (es_if_f (er_cmp (er_var rfl) (er_lit rfl) (c_str_f (by decide +kernel))) es_skip) (es_rt (es_if_t (er_cmp (er_var rfl) (er_lit rfl) (c_str_t (by decide +kernel)))
        (es_rt (es_ret (er_and_t (er_mt (er_var rfl) (er_cons (er_lit rfl) er_nil) rfl st)
          (er_call (er_cons (er_slcS_from (er_var rfl) rfl (er_lit rfl) sl) (er_cons (er_kget (er_lit rfl) (by rw [Q.k2]; rfl)) er_nil)) er_nil rfl a1))))))
  | w n h =>
    obtain ⟨S', a1, a2⟩ := num_p Q (W := W) k S (n := n) (lim := 65535) h (by omega)
    refine ⟨S', ?_, a2⟩
    refine' run_rt (e0 := [some _, some _]) Q.f43 rfl rfl ?h
    case h =>
      unfold b_43
      exact es_nx (es_if_f (er_cmp (er_var rfl) (er_lit rfl) (c_str_f (by decide +kernel))) es_skip) (es_nx (es_if_f (er_cmp (er_var rfl) (er_lit rfl) (c_str_f (by decide +kernel))) es_skip)
        (es_rt (es_ret (er_call (er_cons (er_var rfl) (er_cons (er_kget (er_lit rfl) (by rw [Q.k2]; rfl)) er_nil)) er_nil rfl a1))))
end
end Tm

set_option Elab.async false
set_option linter.all false
set_option maxRecDepth 100000
set_option maxHeartbeats 8000000
namespace Tm
open PySem L2 TL
theorem er_nkin {q : Pr} {W k : Nat} {e : Env'} {S S1 : Store} {a : C} {g : Nat} {w : Str} (h1 : ev (pm q W k) a e S = some (.str w, S1)) (h3 : (lookK (q.kd g) w).isSome = true) : ev (pm q W k) (.kin g true a) e S = some (.bl false, S1) :=
  er_kin h1 (by simp [h3])
theorem Kp.len0 {S S' : Store} (h : Kp [] S S') {n : Nat} (hl : n < S.length) : n < S'.length := h.len (by simp) hl
theorem Kp.at0 {A : List Nat} {S S' : Store} (h : Kp A S S') {n : Nat} {o : O} (hA : n ∉ A) (hn : S[n]? = some o) : S'[n]? = some o := h n o hA hn
def wordsD (nm : Str) (ts : List Str) : List D := (nm :: ts).map D.str
section
variable {q : Pr} (Q : HK q) {W : Nat}
include Q
theorem written_p (k : Nat) {S : Store} {n : Nat} {nm z : Str} {ts : List Str} (hn : listAt S n = some (wordsD nm ts)) (hz : lookK (kdK03 1) nm = some (.str z)) (hl : ts.length = (tl z).length) (h4 : ts.length ≤ 4) (hp : ∀ p ∈ ts.zip (tl z), Part p.2 p.1) (hk : 1 ≤ k := by omega) :
    ∃ S', run q W (k + 3) 44 [.ref n] S = some (.bl true, S') ∧ Kp [] S S' := by
  have k1 : lookK (q.kd 1) nm = some (.str z) := by rw [Q.k1]; exact hz
  have k2 : (lookK (q.kd 1) nm).isSome = true := by rw [k1]; rfl
  have at0 : idxop (.ref n) (.int 0) S = some (.str nm) := i_lst hn (at_nat (n := 0) rfl)
  have d1 : (wordsD nm ts).drop ((1 : Int).toNat) = ts.map D.str := rfl
  have zp : zipF (ts.map D.str) (z.cps.toList.map fun c => D.str ⟨#[c]⟩) = (ts.zip (tl z)).map fun p => .tup [.str p.1, .str ⟨#[p.2]⟩] := zipF_map D.str (fun c => D.str ⟨#[c]⟩) ts (tl z)
  have i1 : ev (pm q W (k + 2)) (.izip (.slc (.var 0) (.lit (.int 1)) .absent) (.var 1)) [some (.ref n), some (.str z), none, none] S = some (itD ((ts.zip (tl z)).map fun p => .tup [.str p.1, .str ⟨#[p.2]⟩]) [.tup [.ref S.length, .tup (ts.map D.str)]], S ++ [.lst (ts.map D.str)]) := by
    have a1 := er_slcL_from (q := q) (W := W) (k := k + 2) (e := [some (.ref n), some (.str z), none, none]) (a := .var 0) (b := .lit (.int 1)) (S := S) (er_var rfl) rfl (er_lit rfl) hn (by decide)
    rw [d1] at a1
    have a2 := er_izipL a1 (er_var (i := 1) rfl) l_last
    rw [zp] at a2
    exact a2
  obtain ⟨S', c1, c2, c3⟩ := er_lcG (q := q) (W := W) (k := k + 2) (a := .call 43 [0, 1] (.cons (.var 2) (.cons (.var 3) .nil)) .nil) (t := .tp 2 (.cons (.nm 2) (.cons (.nm 3) .nil))) (own := [2, 3]) (fun (p : Str × Nat) => D.tup [.str p.1, .str ⟨#[p.2]⟩]) (fun _ => .bl true)
    i1 (fun S2 h2 => chk_lst l_last h2) (by rw [List.length_zip, sizeLine_eq]; omega) (fun p hpm S2 hS => by
      obtain ⟨S3, a2, a3⟩ := part_p Q (W := W) k S2 (hp p hpm)
      exact ⟨[some (.ref n), some (.str z), some (.str p.1), some (.str ⟨#[p.2]⟩)], S3, rfl, er_call (er_cons (er_var rfl) (er_cons (er_var rfl) er_nil)) er_nil rfl a2, a3⟩)
  have c4 := b_all (l_lst c3) (fun d hd => by obtain ⟨_, _, rfl⟩ := List.mem_map.mp hd; rfl)
  have ln : biop .len [.ref n] S = some (.int (ts.length + 1 : Nat), S) := by rw [b_lenL hn]; simp [wordsD]
  refine ⟨S', ?_, Kp.push.trans c2⟩
  refine' run_rt (e0 := [some _, none, none, none]) Q.f44 rfl rfl ?h
  case h =>
    unfold b_44
    exact es_nx (es_if_f (er_nkin (er_idx (er_var rfl) (er_lit rfl) at0) k2) es_skip) (es_nx (es_asg (er_kget (er_idx (er_var rfl) (er_lit rfl) at0) k1) rfl)
      (es_nx (es_if_f (er_cmp (er_bi (er_cons (er_var rfl) er_nil) ln) (er_bin (er_bi (er_cons (er_var rfl) er_nil) (b_lenS (by omega))) (er_lit rfl) o_add) (c_ne_f (by rw [hl]; push_cast; rfl))) es_skip)
        (es_rt (es_ret (er_bi (er_cons c1 er_nil) c4)))))
theorem label_p (k : Nat) {S : Store} {d r : Nat} {kvs : List (Key × D)} {rs : List D} {x : Str} (i : Int) (hd : S[d]? = some (.dct kvs)) (hr : listAt S r = some rs) (hx : Nm x) (hn : valD kvs (.inr x) = none) (hk : kvs.length < 5000) :
    ∃ S', run q W (k + 3) 45 [.ref d, .ref r, .int i, .str (x ++ ":")] S = some (.bl true, S') ∧ S'[d]? = some (.dct (kvs ++ [(.inr x, .int rs.length)])) ∧ Kp [d] S S' := by
  have t1 : tl (x ++ (":" : Str)) = tl x ++ [58] := by rw [tl_append]; rfl
  have hl : (tl x).length ≤ 12 := by obtain ⟨_, _, _, h, _⟩ := hx; exact h
  have st : mtop .ends (.str (x ++ ":")) [.str ":"] S = some (.bl true, S) := by
    show some (D.bl (Txt.endswith (x ++ ":") ":"), S) = _
    rw [ends_last t1 (by rfl)]
  obtain ⟨S1, n1, n2⟩ := name_p Q (W := W) (k + 1) S hx
  have sl : ∀ S : Store, slcop (.str (x ++ ":")) none (some (-1)) S = some (.str x, S) := fun S => slS (by rw [t1, List.length_append, List.length_singleton]; omega) (ext_tl (tl_to1 t1))
  have hd1 : S1[d]? = some (.dct kvs) := n2 _ _ (by simp) hd
  have da : dctAt S1 d = some kvs := by unfold dctAt; rw [hd1]
  have la : listAt S1 d = none := by unfold listAt; rw [hd1]
  have i0 : cmpop .in_ (.str x) (.ref d) S1 = none := by show (listAt S1 d).bind _ = none; rw [la]; rfl
  have i1 : dinop .in_ (.str x) (.ref d) S1 = some false := by
    show (dctAt S1 d).map (fun kvs => (valD kvs (.inr x)).isSome) = _
    rw [da]
    show some (valD kvs (.inr x)).isSome = _
    rw [hn]; rfl
  have hr1 : listAt S1 r = some rs := n2.at hr
  have dp : dputS (.ref d) (.str x) (.int rs.length) S1 = some (S1.set d (.dct (putD kvs (.inr x) (.int rs.length)))) := by
    show (dctAt S1 d).bind (fun kvs => if kvs.length < sizeLine then some (S1.set d (.dct (putD kvs (.inr x) (.int rs.length)))) else none) = _
    rw [da]
    show (if kvs.length < sizeLine then _ else none) = _
    rw [if_pos (by rw [sizeLine_eq]; omega)]
  have pe : putD kvs (.inr x) (.int rs.length) = kvs ++ [(.inr x, .int rs.length)] := by
    unfold putD
    rw [if_neg]
    intro e
    obtain ⟨kv, m1, m2⟩ := List.any_eq_true.mp e
    have m3 := of_decide_eq_true m2
    unfold valD at hn
    simp only [Option.map_eq_none_iff, List.find?_eq_none] at hn
    exact hn kv m1 (by rw [m3]; exact decide_eq_true rfl)
  rw [pe] at dp
  refine ⟨S1.set d (.dct (kvs ++ [(.inr x, .int rs.length)])), ?_, set_get hd1, n2.nil.trans Kp.set⟩
  refine' run_rt (e0 := [some _, some _, some _, some _, none]) Q.f45 rfl rfl ?h
  case h =>
    unfold b_45
    have sl' : ∀ S : Store, ev (pm q W (k + 2)) (.slc (.var 3) .absent (.neg (.lit (.int 1)))) [some (.ref d), some (.ref r), some (.int i), some (.str (x ++ ":")), none] S = some (.str x, S) := fun S => er_slcS_to (er_var rfl) rfl (er_neg (er_lit rfl)) (sl S)
    exact es_rt (es_if_t (er_mt (er_var rfl) (er_cons (er_lit rfl) er_nil) rfl st)
      (es_nx (es_if_f (er_or_f (er_not_f (er_call (er_cons (sl' S) er_nil) er_nil rfl n1)) (er_din (sl' S1) (er_var rfl) i0 i1)) es_skip)
        (es_nx (es_dput (er_bi (er_cons (er_var rfl) er_nil) (b_lenL hr1)) (er_var rfl) (sl' S1) rfl dp) (es_rt (es_ret (er_lit rfl))))))
theorem row_p (k : Nat) {S : Store} {d r : Nat} {rs : List D} {nm z : Str} {ts : List Str} (i : Int) (hr : S[r]? = some (.lst rs)) (hrl : rs.length < 40) (hz : lookK (kdK03 1) nm = some (.str z)) (hl : ts.length = (tl z).length) (h4 : ts.length ≤ 4) (hp : ∀ p ∈ ts.zip (tl z), Part p.2 p.1)
    (h58 : (58 : Nat) ∉ tl (Txt.join " " (nm :: ts))) (h32 : ∀ w ∈ nm :: ts, (32 : Nat) ∉ tl w) (hlen : (tl (Txt.join " " (nm :: ts))).length ≤ 1000) (hk : 1 ≤ k := by omega) :
    ∃ S' w, run q W (k + 4) 45 [.ref d, .ref r, .int i, .str (Txt.join " " (nm :: ts))] S = some (.bl true, S') ∧ S'[r]? = some (.lst (rs ++ [.tup [.int i, .ref w]])) ∧ S.length ≤ w ∧ S'[w]? = some (.lst (wordsD nm ts)) ∧ Kp [r] S S' := by
  have hrS := (List.getElem?_eq_some_iff.mp hr).1
  have st : mtop .ends (.str (Txt.join " " (nm :: ts))) [.str ":"] S = some (.bl false, S) := by
    show some (D.bl (Txt.endswith _ ":"), S) = _
    rw [ends_not h58 (by rfl)]
  have sj : Txt.split (Txt.join " " (nm :: ts)) " " = nm :: ts := split_join (s := 32) (S := []) (by rfl) (by decide +kernel) (by simp) h32
  have sp : mtop .split (.str (Txt.join " " (nm :: ts))) [.str " "] S = some (.ref S.length, S ++ [.lst (wordsD nm ts)]) := by
    show (if (((" " : Str).length == 0) = false ∧ (Txt.join " " (nm :: ts)).length + 2 ≤ sizeLine) then some (new S ((Txt.split (Txt.join " " (nm :: ts)) " ").map D.str)) else none) = _
    rw [if_pos ⟨by rfl, by rw [len_tl, sizeLine_eq]; omega⟩, sj]; rfl
  have hr1 : (S ++ [.lst (wordsD nm ts)])[r]? = some (.lst rs) := Kp.push (A := []) _ _ (by simp) hr
  obtain ⟨S2, w1, w2⟩ := written_p Q (W := W) k (S := S ++ [.lst (wordsD nm ts)]) (n := S.length) l_last hz hl h4 hp
  have hr2 := w2 _ _ (by simp) hr1
  have hw2 := w2 _ _ (by simp) (g_last (S := S) (o := .lst (wordsD nm ts)))
  have ln : biop .len [.ref r] (S ++ [.lst (wordsD nm ts)]) = some (.int rs.length, S ++ [.lst (wordsD nm ts)]) := b_lenL (l_lst hr1)
  refine ⟨S2.set r (.lst (rs ++ [.tup [.int i, .ref S.length]])), S.length, ?_, set_get hr2, Nat.le_refl _, ?_, ((Kp.push.trans w2).nil).trans Kp.set⟩
  · refine' run_rt (e0 := [some _, some _, some _, some _, none]) Q.f45 rfl rfl ?h
    case h =>
      unfold b_45
      exact es_nx (es_if_f (er_mt (er_var rfl) (er_cons (er_lit rfl) er_nil) rfl st) es_skip) (es_nx (es_asg (er_mt (er_var rfl) (er_cons (er_lit rfl) er_nil) rfl sp) rfl)
        (es_nx (es_if_f (er_or_f (er_cmp (er_bi (er_cons (er_var rfl) er_nil) ln) (er_lit rfl) (c_eq_f (by omega))) (er_not_f (er_call (er_cons (er_var rfl) er_nil) er_nil rfl w1))) es_skip)
          (es_nx (es_drop (er_app (er_var rfl) (er_tup (er_cons (er_var rfl) (er_cons (er_var rfl) er_nil)) (Nat.le_of_ble_eq_true rfl)) (push_at hr2 (by rw [sizeLine_eq]; omega)))) (es_rt (es_ret (er_lit rfl))))))
  · rw [List.getElem?_set_ne (by omega)]; exact hw2
end
end Tm

set_option Elab.async false
set_option linter.all false
set_option maxRecDepth 100000
set_option maxHeartbeats 8000000
namespace Tm
open PySem L2 TL
/-- a loop that appends -/
theorem push_inv {α : Type} {bod : Env' → Store → Option (Fl × Env' × Store)} {t : Tg} {cks : List D} (h g : α → D) (n : Nat) (P : Env' → Prop) (I : Store → Prop) (hck : ∀ S, I S → chks S cks = true) : ∀ (l : List α) (acc : List D) (e : Env') (S : Store),
    (∀ x ∈ l, ∀ e S acc, P e → I S → S[n]? = some (.lst acc) → acc.length < 1000 → ∃ e1 e2 S2, bindT t (h x) S e = some e1 ∧ bod e1 S = some (.nx, e2, S2) ∧ P e2 ∧ I S2 ∧ S2[n]? = some (.lst (acc ++ [g x]))) →
    P e → I S → S[n]? = some (.lst acc) → acc.length + l.length ≤ 1000 → ∃ e' S', forL bod t cks (l.map h) e S = some (.nx, e', S') ∧ P e' ∧ I S' ∧ S'[n]? = some (.lst (acc ++ l.map g)) := by
  intro l
  induction l with
  | nil => intro acc e S _ h1 h2 h3 _; exact ⟨e, S, forL_nil (hck S h2), h1, h2, by simpa using h3⟩
  | cons x l ih =>
    intro acc e S hs h1 h2 h3 h4
    simp only [List.length_cons] at h4
    obtain ⟨e1, e2, S2, a1, a2, a3, a4, a5⟩ := hs x List.mem_cons_self e S acc h1 h2 h3 (by omega)
    obtain ⟨e', S', b1, b2, b3, b4⟩ := ih (acc ++ [g x]) e2 S2 (fun y hy => hs y (List.mem_cons_of_mem _ hy)) a3 a4 a5 (by simp; omega)
    refine ⟨e', S', ?_, b2, b3, by rw [b4]; simp⟩
    rw [List.map_cons]
    exact forL_nx (hck S h2) a1 a2 b1
theorem int_numS {n : Nat} {S : Store} (hn : n < 100000) : biop .int [.str (numS n)] S = some (.int n, S) := by
  have hl : (numL n).length ≤ 5 := numL_len (by decide) hn
  have e1 : PySem.intText? (numS n) = some (n : Int) := int_num (by omega)
  have e2 := len_tl (numS n)
  have hT : (tl (numS n)).length = (numL n).length := by rw [tl_numS]
  show (match PySem.intText? (numS n) with | some m => okI (decide ((numS n).length ≤ 640)) (.int m) S | none => none) = _
  rw [e1]
  show okI (decide ((numS n).length ≤ 640)) (.int n) S = _
  rw [decide_eq_true (by omega)]; rfl
/-- what a part of a line stands for -/
inductive Val (kvs : List (Key × D)) : Nat → Str → D → Prop
  | t (x : Str) (v : D) (h : valD kvs (.inr x) = some v) : Val kvs 116 x v
  | r (n : Nat) (h : n ≤ 7) : Val kvs 114 ("r" ++ numS n) (.int n)
  | w (n : Nat) (h : n ≤ 65535) : Val kvs 119 (numS n) (.int n)
abbrev Tr := Str × Nat × D
def b_47l : St := (.seq (.ifs (.and_ (.cmp .eq (.var 5) (.lit (.str "t"))) (.cmp .nin (.var 4) (.var 0))) (.seq .bad
  .skip) .skip)
  (.seq (.ifs (.cmp .eq (.var 5) (.lit (.str "t"))) (.seq (.drop (.app (.var 3) (.idx (.var 0) (.var 4))))
  .skip) (.seq (.drop (.app (.var 3) (.bi .int (.cons (.ife (.cmp .eq (.var 5) (.lit (.str "r"))) (.slc (.var 4) (.lit (.int 1)) .absent) (.var 4)) .nil))))
  .skip))
  .skip))
section
variable {q : Pr} (Q : HK q) {W : Nat}
include Q
theorem step47 (k : Nat) {S : Store} {d w n : Nat} {i : Int} {kvs : List (Key × D)} {acc : List D} {c : Nat} {x : Str} {v : D} (hd : S[d]? = some (.dct kvs)) (hn : S[n]? = some (.lst acc)) (ha : acc.length < 1000) (h : Val kvs c x v) :
    ex (pm q W k) b_47l [some (.ref d), some (.int i), some (.ref w), some (.ref n), some (.str x), some (.str ⟨#[c]⟩)] S = some (.nx, [some (.ref d), some (.int i), some (.ref w), some (.ref n), some (.str x), some (.str ⟨#[c]⟩)], S.set n (.lst (acc ++ [v]))) := by
  have pu : ∀ v, push n v S = some (S.set n (.lst (acc ++ [v]))) := fun v => push_at hn (by rw [sizeLine_eq]; omega)
  unfold b_47l
  cases h with
  | t x v h =>
    have da : dctAt S d = some kvs := by unfold dctAt; rw [hd]
    have la : listAt S d = none := by unfold listAt; rw [hd]
    have i0 : cmpop .nin (.str x) (.ref d) S = none := by show ((listAt S d).bind _).map _ = none; rw [la]; rfl
    have i1 : dinop .nin (.str x) (.ref d) S = some false := by
      show (dctAt S d).map (fun kvs => !(valD kvs (.inr x)).isSome) = _
      rw [da]
      show some (!(valD kvs (.inr x)).isSome) = _
      rw [h]; rfl
    have i2 : dgetop (.ref d) (.str x) S = some v := by
      show (dctAt S d).bind (fun kvs => valD kvs (.inr x)) = _
      rw [da]; exact h
    exact es_nx (es_if_f (er_and_t (er_cmp (er_var rfl) (er_lit rfl) (c_str_t (by decide +kernel))) (er_din (er_var rfl) (er_var rfl) i0 i1)) es_skip)
      (es_nx (es_if_t (er_cmp (er_var rfl) (er_lit rfl) (c_str_t (by decide +kernel))) (es_nx (es_drop (er_app (er_var rfl) (er_dget (er_var rfl) (er_var rfl) rfl i2) (pu v))) es_skip)) es_skip)
  | r m hm =>
    have hl : (numL m).length ≤ 5 := numL_len (by decide) (by omega)
    have t1 : tl (("r" : Str) ++ numS m) = 114 :: numL m := by rw [tl_append, tl_numS]; rfl
    have sl : slcop (.str ("r" ++ numS m)) (some 1) none S = some (.str (numS m), S) := slS (by rw [t1]; simp; omega) (ext_tl (by rw [tl_from1 t1, tl_numS]))
    exact es_nx (es_if_f (er_and_f (er_cmp (er_var rfl) (er_lit rfl) (c_str_f (by decide +kernel)))) es_skip)
      (es_nx (es_if_f (er_cmp (er_var rfl) (er_lit rfl) (c_str_f (by decide +kernel))) (es_nx (es_drop (er_app (er_var rfl) (er_bi (er_cons (er_ife_t (er_cmp (er_var rfl) (er_lit rfl) (c_str_t (by decide +kernel))) (er_slcS_from (er_var rfl) rfl (er_lit rfl) sl)) er_nil) (int_numS (by omega))) (pu _))) es_skip)) es_skip)
  | w m hm =>
    exact es_nx (es_if_f (er_and_f (er_cmp (er_var rfl) (er_lit rfl) (c_str_f (by decide +kernel)))) es_skip)
      (es_nx (es_if_f (er_cmp (er_var rfl) (er_lit rfl) (c_str_f (by decide +kernel))) (es_nx (es_drop (er_app (er_var rfl) (er_bi (er_cons (er_ife_f (er_cmp (er_var rfl) (er_lit rfl) (c_str_f (by decide +kernel))) (er_var rfl)) er_nil) (int_numS (by omega))) (pu _))) es_skip)) es_skip)
theorem instrof_p (k : Nat) {S : Store} {d w : Nat} {i : Int} {kvs : List (Key × D)} {nm z : Str} {tr : List Tr} (hd : S[d]? = some (.dct kvs)) (hw : listAt S w = some (wordsD nm (tr.map (·.1)))) (hz : lookK (kdK03 1) nm = some (.str z)) (hk : tl z = tr.map (·.2.1)) (h4 : tr.length ≤ 4)
    (hv : ∀ t ∈ tr, Val kvs t.2.1 t.1 t.2.2) : ∃ S', run q W (k + 1) 47 [.ref d, .int i, .ref w] S = some (.tup (.str nm :: tr.map (·.2.2)), S') ∧ Kp [] S S' := by
  have k1 : lookK (q.kd 1) nm = some (.str z) := by rw [Q.k1]; exact hz
  have at0 : ∀ {S' : Store}, Kp [] S S' → idxop (.ref w) (.int 0) S' = some (.str nm) := fun h => i_lst (h.at hw) (at_nat (n := 0) rfl)
  have d1 : (wordsD nm (tr.map (·.1))).drop ((1 : Int).toNat) = (tr.map (·.1)).map D.str := rfl
  have zp : zipF ((tr.map (·.1)).map D.str) (z.cps.toList.map fun c => D.str ⟨#[c]⟩) = tr.map fun t => .tup [.str t.1, .str ⟨#[t.2.1]⟩] := by
    have e : z.cps.toList = tr.map (·.2.1) := hk
    rw [e, List.map_map, List.map_map]
    clear hw hk hv h4 d1 e
    induction tr with
    | nil => rfl
    | cons t r ih => simp only [List.map_cons, zipF, Function.comp]; rw [← ih]
  have dl := (List.getElem?_eq_some_iff.mp hd).1
  let S1 := S ++ [O.lst [.str nm]]
  have K1 : Kp [] S S1 := Kp.push
  let sl := (tr.map (·.1)).map D.str
  let S2 := S1 ++ [O.lst sl]
  have i1 : ev (pm q W k) (.izip (.slc (.var 2) (.lit (.int 1)) .absent) (.kget 1 (.idx (.var 2) (.lit (.int 0))))) [some (.ref d), some (.int i), some (.ref w), some (.ref S.length), none, none] S1 = some (itD (tr.map fun t => .tup [.str t.1, .str ⟨#[t.2.1]⟩]) [.tup [.ref S1.length, .tup sl]], S2) := by
    have a1 := er_slcL_from (q := q) (W := W) (k := k) (e := [some (.ref d), some (.int i), some (.ref w), some (.ref S.length), none, none]) (a := .var 2) (b := .lit (.int 1)) (S := S1) (er_var rfl) rfl (er_lit rfl) (K1.at hw) (by decide)
    rw [d1] at a1
    have a2 := er_izipL a1 (er_kget (er_idx (er_var (i := 2) rfl) (er_lit rfl) (at0 (K1.trans Kp.push))) k1) l_last
    rw [zp] at a2
    exact a2
  have n1 : S2[S.length]? = some (.lst [.str nm]) := Kp.push (A := []) _ _ (by simp) (g_last (S := S))
  have sl1 : S1.length = S.length + 1 := by simp [S1]
  obtain ⟨e', S', c1, ⟨x4, x5, c2⟩, ⟨c3, c4⟩, c5⟩ := push_inv (bod := ex (pm q W k) b_47l) (t := .tp 2 (.cons (.nm 4) (.cons (.nm 5) .nil))) (cks := [.tup [.ref S1.length, .tup sl]]) (fun (t : Tr) => D.tup [.str t.1, .str ⟨#[t.2.1]⟩]) (fun t => t.2.2) S.length
    (fun e => ∃ x4 x5, e = [some (.ref d), some (.int i), some (.ref w), some (.ref S.length), x4, x5]) (fun S' => Kp [] S S' ∧ listAt S' S1.length = some sl)
    (fun S' h => by have := chk_lst h.2 (Kp.refl [] S'); exact this) tr [.str nm] [some (.ref d), some (.int i), some (.ref w), some (.ref S.length), none, none] S2
    (fun t ht e S3 acc he hI hn ha => by
      obtain ⟨x4, x5, rfl⟩ := he
      refine ⟨[some (.ref d), some (.int i), some (.ref w), some (.ref S.length), some (.str t.1), some (.str ⟨#[t.2.1]⟩)], _, _, rfl, step47 Q k (hI.1 _ _ (by simp) hd) hn ha (hv t ht), ⟨_, _, rfl⟩, ⟨hI.1.set_new (Nat.le_refl _), ?_⟩, set_get hn⟩
      have := hI.2
      unfold listAt at this ⊢
      rw [List.getElem?_set_ne (by omega)]; exact this)
    ⟨_, _, rfl⟩ ⟨K1.trans Kp.push, l_last⟩ n1 (by simp; omega)
  subst c2
  refine ⟨S', ?_, c3⟩
  have c6 : biop .tuple [.ref S.length] S' = some (.tup (.str nm :: tr.map (·.2.2)), S') := b_tupL (l_lst c5)
  refine' run_rt (e0 := [some _, some _, some _, none, none, none]) Q.f47 rfl rfl ?h
  case h =>
    unfold b_47
    exact es_nx (es_asg (er_lst (er_cons (er_idx (er_var rfl) (er_lit rfl) (at0 (Kp.refl _ _))) er_nil) (Nat.le_of_ble_eq_true rfl)) rfl) (es_nx (es_for i1 c1) (es_rt (es_ret (er_bi (er_cons (er_var rfl) er_nil) c6))))
end
end Tm

set_option Elab.async false
set_option linter.all false
set_option maxRecDepth 100000
set_option maxHeartbeats 8000000
namespace Tm
open PySem L2 TL
/-! ## the lines of a source -/
inductive Itm where
  | lb (x : Str)
  | rw (nm : Str) (tr : List Tr)
def lineOf : Itm → Str
  | .lb x => x ++ ":"
  | .rw nm tr => Txt.join " " (nm :: tr.map (·.1))
def rowsOf : List Itm → List (Str × List Tr)
  | [] => []
  | .lb _ :: r => rowsOf r
  | .rw nm tr :: r => (nm, tr) :: rowsOf r
def labs : Nat → List Itm → List (Key × D)
  | _, [] => []
  | m, .lb x :: r => (.inr x, .int (m : Int)) :: labs m r
  | m, .rw _ _ :: r => labs (m + 1) r
theorem rowsOf_app : ∀ a b : List Itm, rowsOf (a ++ b) = rowsOf a ++ rowsOf b
  | [], _ => rfl
  | .lb x :: r, b => by simp only [List.cons_append, rowsOf]; exact rowsOf_app r b
  | .rw nm tr :: r, b => by simp only [List.cons_append, rowsOf]; rw [rowsOf_app r b]
theorem labs_app : ∀ (m : Nat) (a b : List Itm), labs m (a ++ b) = labs m a ++ labs (m + (rowsOf a).length) b
  | m, [], b => by simp [labs, rowsOf]
  | m, .lb x :: r, b => by simp only [List.cons_append, labs, rowsOf]; rw [labs_app m r b]
  | m, .rw nm tr :: r, b => by simp only [List.cons_append, labs, rowsOf, List.length_cons]; rw [labs_app (m + 1) r b, Nat.add_assoc, Nat.add_comm 1]
/-- a row's words, such as is_written takes -/
structure OkRow (nm : Str) (tr : List Tr) : Prop where
  z : ∃ z, lookK (kdK03 1) nm = some (.str z) ∧ tl z = tr.map (·.2.1)
  h4 : tr.length ≤ 4
  pt : ∀ t ∈ tr, Part t.2.1 t.1
  h58 : (58 : Nat) ∉ tl (Txt.join " " (nm :: tr.map (·.1)))
  h32 : ∀ w ∈ nm :: tr.map (·.1), (32 : Nat) ∉ tl w
  len : (tl (Txt.join " " (nm :: tr.map (·.1)))).length ≤ 1000
  core : ¬ (Txt.join " " (nm :: tr.map (·.1)) = "core")
/-- the items of a core, one behind the other -/
def OkIts : List Itm → List Itm → Prop
  | _, [] => True
  | before, .lb x :: r => Nm x ∧ valD (labs 0 before) (.inr x) = none ∧ OkIts (before ++ [.lb x]) r
  | before, .rw nm tr :: r => OkRow nm tr ∧ (rowsOf before).length < 40 ∧ OkIts (before ++ [.rw nm tr]) r
def RowsAt (S : Store) (rws : List (Str × List Tr)) (rs : List D) : Prop := rs.length = rws.length ∧ ∀ p ∈ rws.zip rs, ∃ (i : Int) (w : Nat), p.2 = .tup [.int i, .ref w] ∧ S[w]? = some (.lst (wordsD p.1.1 (p.1.2.map (·.1))))
def CoreAt (S : Store) (d r : Nat) (its : List Itm) : Prop := S[d]? = some (.dct (labs 0 its)) ∧ ∃ rs, S[r]? = some (.lst rs) ∧ RowsAt S (rowsOf its) rs
theorem RowsAt.kp {S S' : Store} {A : List Nat} {rws : List (Str × List Tr)} {rs : List D} (h : RowsAt S rws rs) (k : Kp A S S') (hA : ∀ p ∈ rws.zip rs, ∀ i w, p.2 = .tup [.int i, .ref w] → w ∉ A) : RowsAt S' rws rs :=
  ⟨h.1, fun p hp => by obtain ⟨i, w, e, hw⟩ := h.2 p hp; exact ⟨i, w, e, k _ _ (hA p hp i w e) hw⟩⟩
def b_46l : St := (.seq (.ifs (.and_ (.cmp .eq (.var 3) (.lit (.str "core"))) (.cmp .lt (.bi .len (.cons (.var 1) .nil)) (.lit (.int 4)))) (.seq (.drop (.app (.var 1) (.tup (.cons .dnew (.cons (.lst .nil) .nil)))))
  .skip) (.seq (.ifs (.or_ (.cmp .eq (.bi .len (.cons (.var 1) .nil)) (.lit (.int 0))) (.not_ (.call 45 [0, 1, 2, 3] (.cons (.idx (.idx (.var 1) (.neg (.lit (.int 1)))) (.lit (.int 0))) (.cons (.idx (.idx (.var 1) (.neg (.lit (.int 1)))) (.lit (.int 1))) (.cons (.var 2) (.cons (.var 3) .nil)))) .nil))) (.seq .bad
  .skip) .skip)
  .skip))
  .skip)
theorem valD_len {kvs : List (Key × D)} : ∀ (its : List Itm) (m : Nat), (labs m its).length ≤ its.length
  | [], m => Nat.le_refl _
  | .lb x :: r, m => by simp only [labs, List.length_cons]; have := valD_len (kvs := kvs) r m; omega
  | .rw _ _ :: r, m => by simp only [labs, List.length_cons]; have := valD_len (kvs := kvs) r (m + 1); omega
section
variable {q : Pr} (Q : HK q) {W : Nat}
include Q
/-- a line of a core -/
theorem line_p (k : Nat) {S : Store} {L n d r : Nat} {i : Int} {acc : List D} {before : List Itm} {it : Itm} {rest : List Itm} {x2 x3 : Option D} (hn : S[n]? = some (.lst (acc ++ [.tup [.ref d, .ref r]]))) (hc : CoreAt S d r before) (hok : OkIts before (it :: rest)) (hb : before.length < 5000)
    (hdr : d ≠ r) (hnd : n ≠ d) (hnr : n ≠ r) (hw : ∀ rs, S[r]? = some (.lst rs) → ∀ p ∈ (rowsOf before).zip rs, ∀ j w, p.2 = .tup [.int j, .ref w] → w ≠ d ∧ w ≠ r ∧ w ≠ n ∧ d < w ∧ r < w) (hk : 1 ≤ k := by omega) :
    ∃ S', ex (pm q W (k + 4)) b_46l [some (.ref L), some (.ref n), some (.int i), some (.str (lineOf it))] S = some (.nx, [some (.ref L), some (.ref n), some (.int i), some (.str (lineOf it))], S') ∧ CoreAt S' d r (before ++ [it]) ∧ Kp [d, r] S S' ∧ S'[n]? = some (.lst (acc ++ [.tup [.ref d, .ref r]])) ∧
      (∀ rs, S'[r]? = some (.lst rs) → ∀ p ∈ (rowsOf (before ++ [it])).zip rs, ∀ j w, p.2 = .tup [.int j, .ref w] → w ≠ d ∧ w ≠ r ∧ w ≠ n ∧ d < w ∧ r < w) := by
  obtain ⟨h1, rs, h2, h3⟩ := hc
  have dl := (List.getElem?_eq_some_iff.mp h1).1
  have rl := (List.getElem?_eq_some_iff.mp h2).1
  have nl := (List.getElem?_eq_some_iff.mp hn).1
  have ln : biop .len [.ref n] S = some (.int (acc.length + 1 : Nat), S) := by rw [b_lenL (l_lst hn)]; simp
  have lz : cmpop .eq (.int ((acc.length + 1 : Nat) : Int)) (.int 0) S = some false := c_eq_f (by omega)
  have at1 : idxop (.ref n) (.int (-1)) S = some (.tup [.ref d, .ref r]) := i_lst (l_lst hn) at_last
  have e0 : ∀ x3 : D, ev (pm q W (k + 4)) (.idx (.idx (.var 1) (.neg (.lit (.int 1)))) (.lit (.int 0))) [some (.ref L), some (.ref n), some (.int i), some x3] S = some (.ref d, S) := fun x3 => er_idx (er_idx (er_var rfl) (er_neg (er_lit rfl)) at1) (er_lit rfl) (i_tup (atN (n := 0) rfl))
  have e1 : ∀ x3 : D, ev (pm q W (k + 4)) (.idx (.idx (.var 1) (.neg (.lit (.int 1)))) (.lit (.int 1))) [some (.ref L), some (.ref n), some (.int i), some x3] S = some (.ref r, S) := fun x3 => er_idx (er_idx (er_var rfl) (er_neg (er_lit rfl)) at1) (er_lit rfl) (i_tup (atN (n := 1) rfl))
  have fin : ∀ (x3 : Str) (S' : Store), ¬ (x3 = "core") → run q W (k + 4) 45 [.ref d, .ref r, .int i, .str x3] S = some (.bl true, S') →
      ex (pm q W (k + 4)) b_46l [some (.ref L), some (.ref n), some (.int i), some (.str x3)] S = some (.nx, [some (.ref L), some (.ref n), some (.int i), some (.str x3)], S') := fun x3 S' hx hr => by
    unfold b_46l
    exact es_nx (es_if_f (er_and_f (er_cmp (er_var rfl) (er_lit rfl) (c_str_f hx))) (es_nx (es_if_f (er_or_f (er_cmp (er_bi (er_cons (er_var rfl) er_nil) ln) (er_lit rfl) lz)
      (er_not_f (er_call (er_cons (e0 _) (er_cons (e1 _) (er_cons (er_var rfl) (er_cons (er_var rfl) er_nil)))) er_nil rfl hr))) es_skip) es_skip)) es_skip
  cases it with
  | lb x =>
    obtain ⟨o1, o2, _⟩ := hok
    obtain ⟨S', a1, a2, a3⟩ := label_p Q (W := W) (k + 1) i h1 (l_lst h2) o1 o2 (by have := valD_len (kvs := []) before 0; omega)
    have hx : ¬ ((x ++ ":" : Str) = "core") := fun e => by
      have := congrArg tl e
      rw [tl_append] at this
      have t0 : tl ("core" : Str) = [99, 111, 114, 101] := by decide +kernel
      have t1 : tl (":" : Str) = [58] := by rfl
      rw [t0, t1] at this
      have := congrArg List.getLast? this
      simp at this
    have r' : S'[r]? = some (.lst rs) := a3 _ _ (by simp; exact hdr.symm) h2
    have ro : rowsOf (before ++ [.lb x]) = rowsOf before := by rw [rowsOf_app]; simp [rowsOf]
    refine ⟨S', fin _ S' hx a1, ⟨?_, rs, r', ?_⟩, a3.more (by simp), a3 _ _ (by simp; exact hnd) hn, ?_⟩
    · rw [a2, labs_app]; simp [labs, h3.1]
    · rw [ro]; exact h3.kp a3 fun p hp j w e => by simp; exact (hw rs h2 p hp j w e).1
    · intro rs' hr'
      rw [r'] at hr'; cases hr'
      rw [ro]; exact hw rs h2
  | rw nm tr =>
    obtain ⟨o1, o2, _⟩ := hok
    obtain ⟨z, z1, z2⟩ := o1.z
    have hl : (tr.map (·.1)).length = (tl z).length := by rw [z2]; simp
    have hp : ∀ p ∈ (tr.map (·.1)).zip (tl z), Part p.2 p.1 := by
      rw [z2]
      intro p hp
      have : (tr.map (·.1)).zip (tr.map (·.2.1)) = tr.map fun t => (t.1, t.2.1) := List.zip_map' ..
      rw [this] at hp
      obtain ⟨t, ht, rfl⟩ := List.mem_map.mp hp
      exact o1.pt t ht
    obtain ⟨S', w, a1, a2, a3, a4, a5⟩ := row_p Q (W := W) k (d := d) i h2 (by rw [h3.1]; exact o2) z1 hl (by have := o1.h4; simpa using this) hp o1.h58 o1.h32 o1.len
    have ro : rowsOf (before ++ [.rw nm tr]) = rowsOf before ++ [(nm, tr)] := by rw [rowsOf_app]; rfl
    have zz : (rowsOf before ++ [(nm, tr)]).zip (rs ++ [.tup [.int i, .ref w]]) = (rowsOf before).zip rs ++ [((nm, tr), .tup [.int i, .ref w])] := by rw [List.zip_append h3.1.symm]; rfl
    refine ⟨S', fin _ S' o1.core a1, ⟨?_, _, a2, ?_⟩, a5.more (by simp), a5 _ _ (by simp; exact hnr) hn, ?_⟩
    · rw [a5 _ _ (by simp; exact hdr) h1, labs_app]; simp [labs]
    · rw [ro]
      refine ⟨by simp [h3.1], fun p hp => ?_⟩
      rw [zz] at hp
      rcases List.mem_append.mp hp with hp | hp
      · obtain ⟨j, w', e, hw'⟩ := h3.2 p hp
        exact ⟨j, w', e, a5 _ _ (by simp; exact (hw rs h2 p hp j w' e).2.1) hw'⟩
      · simp only [List.mem_singleton] at hp
        subst hp
        exact ⟨i, w, rfl, a4⟩
    · intro rs' hr' p hp j w' e
      rw [a2] at hr'; cases hr'
      rw [ro, zz] at hp
      rcases List.mem_append.mp hp with hp | hp
      · exact hw rs h2 p hp j w' e
      · simp only [List.mem_singleton] at hp
        subst hp
        simp only [D.tup.injEq, List.cons.injEq, D.int.injEq, D.ref.injEq, and_true] at e
        obtain ⟨_, rfl⟩ := e
        exact ⟨by omega, by omega, by omega, by omega, by omega⟩
end
end Tm

set_option Elab.async false
set_option linter.all false
set_option maxRecDepth 100000
set_option maxHeartbeats 8000000
namespace Tm
open PySem L2 TL
/-! ## loops step by step -/
inductive Runs (bod : Env' → Store → Option (Fl × Env' × Store)) (t : Tg) (cks : List D) : List D → Env' → Store → Env' → Store → Prop
  | nil (e : Env') (S : Store) : Runs bod t cks [] e S e S
  | cons {d : D} {ds : List D} {e e1 e2 e' : Env'} {S S2 S' : Store} (hc : chks S cks = true) (hb : bindT t d S e = some e1) (h : bod e1 S = some (.nx, e2, S2)) (r : Runs bod t cks ds e2 S2 e' S') : Runs bod t cks (d :: ds) e S e' S'
theorem Runs.app {bod : Env' → Store → Option (Fl × Env' × Store)} {t : Tg} {cks a b : List D} {e e1 e2 : Env'} {S S1 S2 : Store} (h : Runs bod t cks a e S e1 S1) (k : Runs bod t cks b e1 S1 e2 S2) : Runs bod t cks (a ++ b) e S e2 S2 := by
  induction h with
  | nil e S => exact k
  | cons hc hb h r ih => exact .cons hc hb h (ih k)
theorem Runs.loop {bod : Env' → Store → Option (Fl × Env' × Store)} {t : Tg} {cks a : List D} {e e1 : Env'} {S S1 : Store} (h : Runs bod t cks a e S e1 S1) (hc : chks S1 cks = true) : forL bod t cks a e S = some (.nx, e1, S1) := by
  induction h with
  | nil e S => exact forL_nil hc
  | cons hc' hb h r ih => exact forL_nx hc' hb h (ih hc)
theorem er_ienum {q : Pr} {W k : Nat} {e : Env'} {S S1 : Store} {a : C} {n : Nat} {xs : List D} (h : ev (pm q W k) a e S = some (.ref n, S1)) (hn : listAt S1 n = some xs) : ev (pm q W k) (.ienum a) e S = some (itD (enumF 0 xs) [.tup [.ref n, .tup xs]], S1) := by
  simp only [ev, h, Option.bind_some, itOfL, hn, Option.map_some]
theorem enumF_app : ∀ (a b : List D) (i : Nat), enumF i (a ++ b) = enumF i a ++ enumF (i + a.length) b
  | [], b, i => by simp [enumF]
  | x :: r, b, i => by simp only [List.cons_append, enumF, List.length_cons]; rw [enumF_app r b (i + 1), Nat.add_assoc, Nat.add_comm 1]
theorem Kp.fresh {A B : List Nat} {S0 S S' : Store} (h : Kp A S0 S) (k : Kp B S S') (hB : ∀ i ∈ B, S0.length ≤ i) : Kp A S0 S' := fun i o n e => by
  have := (List.getElem?_eq_some_iff.mp e).1
  exact k i o (fun m => by have := hB i m; omega) (h i o n e)
theorem lst_keep {S S' : Store} {a n : Nat} {ds : List D} (k : Kp [a] S S') (h : listAt S n = some ds) (hn : n ≠ a) : listAt S' n = some ds := by
  unfold listAt at h ⊢
  split at h
  · rename_i xs hx; cases h; rw [k _ _ (by simp; exact hn) hx]
  · rename_i xs hx; cases h; rw [k _ _ (by simp; exact hn) hx]
  · cases h
structure CoreN (S : Store) (n d r : Nat) (its : List Itm) : Prop where
  dn : d ≠ n
  rn : r ≠ n
  at_ : CoreAt S d r its
  w : ∀ rs, S[r]? = some (.lst rs) → ∀ p ∈ (rowsOf its).zip rs, ∀ (j : Int) (w : Nat), p.2 = .tup [.int j, .ref w] → w ≠ n
theorem CoreN.kp {S S' : Store} {n d r : Nat} {its : List Itm} (h : CoreN S n d r its) (k : Kp [n] S S') : CoreN S' n d r its := by
  obtain ⟨a, b, ⟨c1, rs, c2, c3⟩, c⟩ := h
  have r' : S'[r]? = some (.lst rs) := k _ _ (by simp; exact b) c2
  refine ⟨a, b, ⟨k _ _ (by simp; exact a) c1, rs, r', c3.kp k fun p hp j w e => by simp; exact c rs c2 p hp j w e⟩, fun rs' hr' => ?_⟩
  rw [r'] at hr'; cases hr'
  exact c rs c2
def encP (p : Nat × Nat) : D := .tup [.ref p.1, .ref p.2]
def block (its : List Itm) : List Str := "core" :: its.map lineOf
abbrev T46 : Tg := .tp 2 (.cons (.nm 2) (.cons (.nm 3) .nil))
section
variable {q : Pr} (Q : HK q) {W : Nat}
include Q
theorem items_p (k : Nat) (hk : 1 ≤ k) {S0 : Store} {L n d r : Nat} {ls acc : List D} (hL : listAt S0 L = some ls) (hLn : L ≠ n) (hd0 : S0.length ≤ d) (hr0 : S0.length ≤ r) (hdr : d ≠ r) (hnd : n ≠ d) (hnr : n ≠ r) : ∀ (its before : List Itm) (i : Nat) (S : Store) (x2 x3 : Option D),
    OkIts before its → before.length + its.length ≤ 5000 → S[n]? = some (.lst (acc ++ [encP (d, r)])) → CoreAt S d r before → Kp [n] S0 S →
    (∀ rs, S[r]? = some (.lst rs) → ∀ p ∈ (rowsOf before).zip rs, ∀ j w, p.2 = .tup [.int j, .ref w] → w ≠ d ∧ w ≠ r ∧ w ≠ n ∧ d < w ∧ r < w) →
    ∃ S' y2 y3, Runs (ex (pm q W (k + 4)) b_46l) T46 [.tup [.ref L, .tup ls]] (enumF i ((its.map lineOf).map D.str)) [some (.ref L), some (.ref n), x2, x3] S [some (.ref L), some (.ref n), y2, y3] S' ∧ S'[n]? = some (.lst (acc ++ [encP (d, r)])) ∧ CoreAt S' d r (before ++ its) ∧ Kp [n] S0 S' ∧
      (∀ rs, S'[r]? = some (.lst rs) → ∀ p ∈ (rowsOf (before ++ its)).zip rs, ∀ j w, p.2 = .tup [.int j, .ref w] → w ≠ d ∧ w ≠ r ∧ w ≠ n ∧ d < w ∧ r < w) := by
  intro its
  induction its with
  | nil => intro before i S x2 x3 _ _ h1 h2 h3 h4; exact ⟨S, x2, x3, .nil _ _, h1, by simpa using h2, h3, by simpa using h4⟩
  | cons it its ih =>
    intro before i S x2 x3 ho hb h1 h2 h3 h4
    simp only [List.length_cons] at hb
    obtain ⟨S1, a1, a2, a3, a4, a5⟩ := line_p Q (W := W) k (L := L) (n := n) (i := (i : Int)) (x2 := none) (x3 := none) h1 h2 ho (by omega) hdr hnd hnr h4
    have ho' : OkIts (before ++ [it]) its := by
      cases it with
      | lb x => exact ho.2.2
      | rw nm tr => exact ho.2.2
    obtain ⟨S', y2, y3, b1, b2, b3, b4, b5⟩ := ih (before ++ [it]) (i + 1) S1 (some (.int i)) (some (.str (lineOf it))) ho' (by simp; omega) a4 a2 (h3.fresh a3 (by simp; exact ⟨hd0, hr0⟩)) a5
    refine ⟨S', y2, y3, ?_, b2, by rw [List.append_assoc] at b3; exact b3, b4, by rw [List.append_assoc] at b5; exact b5⟩
    exact .cons (chk_lst (lst_keep h3 hL hLn) (Kp.refl [] S)) rfl a1 b1
theorem block_p (k : Nat) (hk : 1 ≤ k) {S0 : Store} {L n : Nat} {ls acc : List D} (hL : listAt S0 L = some ls) (hLn : L ≠ n) (hn : S0[n]? = some (.lst acc)) (ha : acc.length < 4) (its : List Itm) (ho : OkIts [] its) (hl : its.length ≤ 5000) (i : Nat) (x2 x3 : Option D) :
    ∃ S' d r y2 y3, Runs (ex (pm q W (k + 4)) b_46l) T46 [.tup [.ref L, .tup ls]] (enumF i ((block its).map D.str)) [some (.ref L), some (.ref n), x2, x3] S0 [some (.ref L), some (.ref n), y2, y3] S' ∧ S'[n]? = some (.lst (acc ++ [encP (d, r)])) ∧ CoreN S' n d r its ∧ Kp [n] S0 S' := by
  have nl := (List.getElem?_eq_some_iff.mp hn).1
  let S1 := S0 ++ [O.dct []]
  let S2 := S1 ++ [O.lst []]
  have l1 : S1.length = S0.length + 1 := by simp [S1]
  have n2 : S2[n]? = some (.lst acc) := Kp.push (A := []) _ _ (by simp) (Kp.push (A := []) _ _ (by simp) hn)
  have d2 : S2[S0.length]? = some (.dct []) := Kp.push (A := []) _ _ (by simp) (g_last (S := S0))
  have r2 : S2[S1.length]? = some (.lst []) := g_last
  let S3 := S2.set n (.lst (acc ++ [encP (S0.length, S1.length)]))
  have n3 : S3[n]? = some (.lst (acc ++ [encP (S0.length, S1.length)])) := set_get n2
  have d3 : S3[S0.length]? = some (.dct []) := by show (S2.set n _)[S0.length]? = _; rw [List.getElem?_set_ne (by omega)]; exact d2
  have r3 : S3[S1.length]? = some (.lst []) := by show (S2.set n _)[S1.length]? = _; rw [List.getElem?_set_ne (by omega)]; exact r2
  have K3 : Kp [n] S0 S3 := ((Kp.push.trans Kp.push).trans Kp.set)
  have ln : biop .len [.ref n] S0 = some (.int acc.length, S0) := b_lenL (l_lst hn)
  have first : ex (pm q W (k + 4)) b_46l [some (.ref L), some (.ref n), some (.int i), some (.str "core")] S0 = some (.nx, [some (.ref L), some (.ref n), some (.int i), some (.str "core")], S3) := by
    unfold b_46l
    have ap := er_appG (q := q) (W := W) (k := k + 4) (e := [some (.ref L), some (.ref n), some (.int i), some (.str "core")]) (a := .var 1) (b := .tup (.cons .dnew (.cons (.lst .nil) .nil))) (S := S0) (er_var rfl) (lst_ok (l_lst hn)) (er_tup (er_cons er_dnew (er_cons (er_lst er_nil (Nat.le_of_ble_eq_true rfl)) er_nil)) (Nat.le_of_ble_eq_true rfl)) (push_at n2 (by rw [sizeLine_eq]; omega))
    exact es_nx (es_if_t (er_and_t (er_cmp (er_var rfl) (er_lit rfl) (c_str_t rfl)) (er_cmp (er_bi (er_cons (er_var rfl) er_nil) ln) (er_lit rfl) (c_lt_t (by omega)))) (es_nx (es_drop ap) es_skip)) es_skip
  obtain ⟨S', y2, y3, b1, b2, b3, b4, b5⟩ := items_p Q (W := W) k hk (S0 := S0) (L := L) (n := n) (d := S0.length) (r := S1.length) (acc := acc) hL hLn (Nat.le_refl _) (by omega) (by omega) (by omega) (by omega) its [] (i + 1) S3 (some (.int i)) (some (.str "core")) ho (by simpa using hl) n3
    ⟨d3, [], r3, rfl, by intro p hp; simp [rowsOf] at hp⟩ K3 (by intro rs hr p hp; simp [rowsOf] at hp)
  refine ⟨S', S0.length, S1.length, y2, y3, .cons (chk_lst hL (Kp.refl [] S0)) rfl first b1, b2, ⟨by omega, by omega, by simpa using b3, fun rs hr p hp j w e => (b5 rs hr p (by simpa using hp) j w e).2.2.1⟩, b4⟩
theorem blocks_p (k : Nat) (hk : 1 ≤ k) {S00 : Store} {L n : Nat} {ls : List D} (hL : listAt S00 L = some ls) (hLn : L ≠ n) : ∀ (cores : List (List Itm)) (acc : List D) (i : Nat) (S : Store) (x2 x3 : Option D), (∀ c ∈ cores, OkIts [] c ∧ c.length ≤ 5000) → acc.length + cores.length ≤ 4 → S[n]? = some (.lst acc) → Kp [n] S00 S →
    ∃ (prs : List (Nat × Nat)) (S' : Store) (y2 y3 : Option D), Runs (ex (pm q W (k + 4)) b_46l) T46 [.tup [.ref L, .tup ls]] (enumF i ((cores.flatMap block).map D.str)) [some (.ref L), some (.ref n), x2, x3] S [some (.ref L), some (.ref n), y2, y3] S' ∧ prs.length = cores.length ∧
      S'[n]? = some (.lst (acc ++ prs.map encP)) ∧ (∀ p ∈ cores.zip prs, CoreN S' n p.2.1 p.2.2 p.1) ∧ Kp [n] S S' := by
  intro cores
  induction cores with
  | nil => intro acc i S x2 x3 _ _ h1 _; exact ⟨[], S, x2, x3, .nil _ _, rfl, by simpa using h1, by intro p hp; simp at hp, Kp.refl _ _⟩
  | cons c cs ih =>
    intro acc i S x2 x3 ho hl h1 h2
    simp only [List.length_cons] at hl
    obtain ⟨S1, d, r, y2, y3, a1, a2, a3, a4⟩ := block_p Q (W := W) k hk (lst_keep h2 hL hLn) hLn h1 (by omega) c (ho c List.mem_cons_self).1 (ho c List.mem_cons_self).2 i x2 x3
    obtain ⟨prs, S', z2, z3, b1, b2, b3, b4, b5⟩ := ih (acc ++ [encP (d, r)]) (i + ((block c).map D.str).length) S1 y2 y3 (fun c' hc => ho c' (List.mem_cons_of_mem _ hc)) (by simp; omega) a2 (h2.trans a4)
    refine ⟨(d, r) :: prs, S', z2, z3, ?_, by simp [b2], by rw [b3]; simp, ?_, a4.trans b5⟩
    · rw [List.flatMap_cons, List.map_append, enumF_app]
      exact a1.app b1
    · intro p hp
      rw [List.zip_cons_cons] at hp
      rcases List.mem_cons.mp hp with rfl | hp
      · exact a3.kp b5
      · exact b4 p hp
theorem coresof_p (k : Nat) (hk : 1 ≤ k) {S : Store} {L : Nat} {cores : List (List Itm)} (hL : listAt S L = some ((cores.flatMap block).map D.str)) (ho : ∀ c ∈ cores, OkIts [] c ∧ c.length ≤ 5000) (hl : cores.length ≤ 4) :
    ∃ (prs : List (Nat × Nat)) (S' : Store), run q W (k + 5) 46 [.ref L] S = some (.ref S.length, S') ∧ prs.length = cores.length ∧ S'[S.length]? = some (.lst (prs.map encP)) ∧ (∀ p ∈ cores.zip prs, CoreN S' S.length p.2.1 p.2.2 p.1) ∧ Kp [] S S' := by
  have Ll : L < S.length := by
    unfold listAt at hL
    split at hL
    · rename_i h; exact (List.getElem?_eq_some_iff.mp h).1
    · rename_i h; exact (List.getElem?_eq_some_iff.mp h).1
    · cases hL
  have hL1 : listAt (S ++ [.lst []]) L = some ((cores.flatMap block).map D.str) := Kp.push.at hL
  obtain ⟨prs, S', y2, y3, a1, a2, a3, a4, a5⟩ := blocks_p Q (W := W) k hk hL1 (show L ≠ S.length by omega) cores [] 0 (S ++ [.lst []]) none none ho (by simpa using hl) g_last (Kp.refl _ _)
  have ck : chks S' [.tup [.ref L, .tup ((cores.flatMap block).map D.str)]] = true := chk_lst (lst_keep a5 hL1 (by omega)) (Kp.refl [] S')
  refine ⟨prs, S', ?_, a2, by simpa using a3, a4, Kp.from Kp.push a5 (Nat.le_refl _)⟩
  have ie : ev (pm q W (k + 4)) (.ienum (.var 0)) [some (.ref L), some (.ref S.length), none, none] (S ++ [.lst []]) = some (itD (enumF 0 ((cores.flatMap block).map D.str)) [.tup [.ref L, .tup ((cores.flatMap block).map D.str)]], S ++ [.lst []]) := by
    exact er_ienum (er_var rfl) hL1
  refine' run_rt (e0 := [some _, none, none, none]) Q.f46 rfl rfl ?h
  case h =>
    unfold b_46
    exact es_nx (es_asg (er_lst er_nil (Nat.le_of_ble_eq_true rfl)) rfl) (es_nx (es_for ie (a1.loop ck)) (es_rt (es_ret (er_var rfl))))
end
end Tm

set_option Elab.async false
set_option linter.all false
set_option maxRecDepth 100000
set_option maxHeartbeats 8000000
namespace Tm
open PySem L2 TL
theorem okits_rows : ∀ (its before : List Itm), OkIts before its → ∀ p ∈ rowsOf its, OkRow p.1 p.2
  | [], _, _, p, hp => by simp [rowsOf] at hp
  | .lb x :: r, before, h, p, hp => okits_rows r _ h.2.2 p hp
  | .rw nm tr :: r, before, h, p, hp => by
    simp only [rowsOf, List.mem_cons] at hp
    rcases hp with rfl | hp
    · exact h.1
    · exact okits_rows r _ h.2.2 p hp
def dRow (p : Str × List Tr) : D := .tup (.str p.1 :: p.2.map (·.2.2))
def dCore (its : List Itm) : D := .tup ((rowsOf its).map dRow)
def OkVals (its : List Itm) : Prop := ∀ p ∈ rowsOf its, ∀ t ∈ p.2, Val (labs 0 its) t.2.1 t.1 t.2.2
def text (cores : List (List Itm)) : Str := Txt.join "\n" (cores.flatMap block)
theorem map_snd_zip' {α β : Type} {f : β → D} : ∀ (a : List α) (b : List β), b.length = a.length → (a.zip b).map (fun p => f p.2) = b.map f
  | [], [], _ => rfl
  | [], _ :: _, h => by simp at h
  | _ :: _, [], h => by simp at h
  | x :: a, y :: b, h => by simp only [List.zip_cons_cons, List.map_cons, map_snd_zip' a b (by simpa using h)]
theorem map_fst_zip' {α β γ : Type} {f : α → γ} : ∀ (a : List α) (b : List β), b.length = a.length → (a.zip b).map (fun p => f p.1) = a.map f
  | [], [], _ => rfl
  | [], _ :: _, h => by simp at h
  | _ :: _, [], h => by simp at h
  | x :: a, y :: b, h => by simp only [List.zip_cons_cons, List.map_cons, map_fst_zip' a b (by simpa using h)]
section
variable {q : Pr} (Q : HK q) {W : Nat}
include Q
theorem core_p (k : Nat) {S : Store} {d r : Nat} {its : List Itm} {x0 x1 : Option D} (hc : CoreAt S d r its) (ho : OkIts [] its) (hl : its.length ≤ 5000) (hv : OkVals its) :
    ∃ S', ev (pm q W (k + 1)) (.bi .tuple (.cons (.lc (.itv (.var 3)) (.tp 2 (.cons (.nm 4) (.cons (.nm 5) .nil))) (.lit (.bl true)) (.call 47 [0, 1, 2] (.cons (.var 2) (.cons (.var 4) (.cons (.var 5) .nil))) .nil) [4, 5]) .nil)) [x0, x1, some (.ref d), some (.ref r), none, none] S = some (dCore its, S') ∧ Kp [] S S' := by
  obtain ⟨h1, rs, h2, h3, h4⟩ := hc
  have hz : ((rowsOf its).zip rs).map (fun p => p.2) = rs := by
    have := map_snd_zip' (f := fun d => d) (rowsOf its) rs h3
    simpa using this
  have rl : ∀ its : List Itm, (rowsOf its).length ≤ its.length := by
    intro its
    induction its with
    | nil => exact Nat.le_refl _
    | cons a b ih => cases a <;> simp only [rowsOf, List.length_cons] <;> omega
  have h0 := rl its
  obtain ⟨S', c1, c2, c3⟩ := er_lcG (q := q) (W := W) (k := k + 1) (i := .itv (.var 3)) (a := .call 47 [0, 1, 2] (.cons (.var 2) (.cons (.var 4) (.cons (.var 5) .nil))) .nil) (t := .tp 2 (.cons (.nm 4) (.cons (.nm 5) .nil))) (own := [4, 5]) (e := [x0, x1, some (.ref d), some (.ref r), none, none]) (S := S)
    (ds := (rowsOf its).zip rs) (fun p => p.2) (fun p => dRow p.1) (by rw [hz]; exact itv_lst (er_var rfl) (l_lst h2)) (fun S2 h => chk_lst (l_lst h2) h) (by rw [List.length_zip, sizeLine_eq]; omega) (fun p hp S2 hS => by
      obtain ⟨i, w, e, hw⟩ := h4 p hp
      have pm1 : p.1 ∈ rowsOf its := (List.of_mem_zip hp).1
      have ok := okits_rows its [] ho p.1 pm1
      obtain ⟨z, z1, z2⟩ := ok.z
      obtain ⟨S3, a1, a2⟩ := instrof_p Q (W := W) k (S := S2) (d := d) (w := w) (i := i) (nm := p.1.1) (tr := p.1.2) (hS _ _ (by simp) h1) (hS.at (l_lst hw)) z1 z2 ok.h4 (hv p.1 pm1)
      refine ⟨[x0, x1, some (.ref d), some (.ref r), some (.int i), some (.ref w)], S3, by rw [e]; rfl, er_call (er_cons (er_var rfl) (er_cons (er_var rfl) (er_cons (er_var rfl) er_nil))) er_nil rfl a1, a2⟩)
  have hm : ((rowsOf its).zip rs).map (fun p => dRow p.1) = (rowsOf its).map dRow := map_fst_zip' (f := dRow) (rowsOf its) rs h3
  rw [hm] at c3
  exact ⟨S', er_bi (er_cons c1 er_nil) (b_tupL (l_lst c3)), c2⟩
theorem assemble_p (k : Nat) (hk : 1 ≤ k) (S : Store) {cores : List (List Itm)} (hne : cores ≠ []) (hl : cores.length ≤ 4) (ho : ∀ c ∈ cores, OkIts [] c ∧ c.length ≤ 5000 ∧ OkVals c) (h10 : ∀ w ∈ cores.flatMap block, (10 : Nat) ∉ tl w) (hlen : (tl (text cores)).length ≤ 10000000) :
    ∃ S', run q W (k + 6) 48 [.str (text cores)] S = some (.tup (cores.map dCore), S') ∧ Kp [] S S' := by
  have sj : Txt.split (text cores) "\n" = cores.flatMap block := split_join (s := 10) (S := []) (by rfl) (by decide +kernel) (by
    cases cores with
    | nil => exact absurd rfl hne
    | cons c cs => simp [block]) h10
  have sp : mtop .split (.str (text cores)) [.str "\n"] S = some (.ref S.length, S ++ [.lst ((cores.flatMap block).map D.str)]) := by
    show (if (((("\n" : Str).length == 0) = false) ∧ (text cores).length + 2 ≤ sizeLine) then some (new S ((Txt.split (text cores) "\n").map D.str)) else none) = _
    rw [if_pos ⟨by rfl, by rw [len_tl, sizeLine_eq]; omega⟩, sj]; rfl
  let S1 := S ++ [O.lst ((cores.flatMap block).map D.str)]
  have hL : listAt S1 S.length = some ((cores.flatMap block).map D.str) := l_last
  obtain ⟨prs, S2, a1, a2, a3, a4, a5⟩ := coresof_p Q (W := W) k (by omega) hL (fun c hc => ⟨(ho c hc).1, (ho c hc).2.1⟩) hl
  have hz : (cores.zip prs).map (fun p => encP p.2) = prs.map encP := map_snd_zip' cores prs a2
  obtain ⟨S3, c1, c2, c3⟩ := er_lcG (q := q) (W := W) (k := k + 5) (i := .itv (.var 1)) (a := .bi .tuple (.cons (.lc (.itv (.var 3)) (.tp 2 (.cons (.nm 4) (.cons (.nm 5) .nil))) (.lit (.bl true)) (.call 47 [0, 1, 2] (.cons (.var 2) (.cons (.var 4) (.cons (.var 5) .nil))) .nil) [4, 5]) .nil)) (t := .tp 2 (.cons (.nm 2) (.cons (.nm 3) .nil))) (own := [2, 3])
    (e := [some (.str (text cores)), some (.ref S1.length), none, none, none, none]) (S := S2) (ds := cores.zip prs) (fun p => encP p.2) (fun p => dCore p.1) (by rw [hz]; exact itv_lst (er_var rfl) (l_lst a3)) (fun S3 h => chk_lst (l_lst a3) h) (by rw [List.length_zip, sizeLine_eq]; omega) (fun p hp S3 hS => by
      have cm : p.1 ∈ cores := (List.of_mem_zip hp).1
      have ca := (a4 p hp).kp (hS.nil (A := [S1.length]))
      obtain ⟨S4, b1, b2⟩ := core_p Q (W := W) (k + 4) (x0 := some (.str (text cores))) (x1 := some (.ref S1.length)) ca.at_ (ho p.1 cm).1 (ho p.1 cm).2.1 (ho p.1 cm).2.2
      exact ⟨[some (.str (text cores)), some (.ref S1.length), some (.ref p.2.1), some (.ref p.2.2), none, none], S4, rfl, b1, b2⟩)
  have hm : (cores.zip prs).map (fun p => dCore p.1) = cores.map dCore := map_fst_zip' (f := dCore) cores prs a2
  rw [hm] at c3
  refine ⟨S3, ?_, (Kp.push.trans a5).trans c2⟩
  refine' run_rt (e0 := [some _, none, none, none, none, none]) Q.f48 rfl rfl ?h
  case h =>
    unfold b_48
    exact es_nx (es_if_f (er_not_f (er_isty (er_var rfl) rfl)) es_skip) (es_nx (es_asg (er_call (er_cons (er_mt (er_var rfl) (er_cons (er_lit rfl) er_nil) rfl sp) er_nil) er_nil rfl a1) rfl) (es_rt (es_ret (er_bi (er_cons c1 er_nil) (b_tupL (l_lst c3))))))
end
end Tm

set_option Elab.async false
set_option linter.all false
set_option maxRecDepth 100000
set_option maxHeartbeats 8000000
namespace Tm
open PySem L2 TL
/-! ## names that are drawn -/
def signs : Str := "abcdefghijklmnopqrstuvwxyz0123456789"
def okc (c : Nat) : Prop := isSm c ∨ isDg c
theorem sign_at {i : Int} (h0 : 0 ≤ i) (h1 : i < 36) {S : Store} : ∃ c, idxop (.str signs) (.int i) S = some (.str ⟨#[c]⟩) ∧ okc c ∧ (i < 26 → isSm c) := by
  have e : ∀ n : Nat, n < 36 → ∃ c, signs.cps.toList[n]? = some c ∧ (decide ((97 ≤ c ∧ c ≤ 122) ∨ (48 ≤ c ∧ c ≤ 57)) = true) ∧ (n < 26 → decide (97 ≤ c ∧ c ≤ 122) = true) := by
    intro n hn
    have : ∀ n : Fin 36, decide ((97 ≤ (signs.cps.toList[n.1]?).getD 0 ∧ (signs.cps.toList[n.1]?).getD 0 ≤ 122) ∨ (48 ≤ (signs.cps.toList[n.1]?).getD 0 ∧ (signs.cps.toList[n.1]?).getD 0 ≤ 57)) = true ∧ (n.1 < 26 → decide (97 ≤ (signs.cps.toList[n.1]?).getD 0 ∧ (signs.cps.toList[n.1]?).getD 0 ≤ 122) = true) ∧ (signs.cps.toList[n.1]?).isSome = true := by decide +kernel
    obtain ⟨a, b, c⟩ := this ⟨n, hn⟩
    obtain ⟨x, hx⟩ := Option.isSome_iff_exists.mp c
    simp only [hx, Option.getD_some] at a b
    exact ⟨x, hx, a, b⟩
  obtain ⟨c, h2, h3, h4⟩ := e i.toNat (by omega)
  have hl : signs.length ≤ sizeLine := by decide +kernel
  have q : atI signs.cps.toList i = some c := by
    have hlen : signs.cps.toList.length = 36 := by decide +kernel
    unfold atI ixN
    rw [if_pos h0, hlen, if_pos (by omega)]
    exact h2
  refine ⟨c, ?_, of_decide_eq_true (p := (97 ≤ c ∧ c ≤ 122) ∨ (48 ≤ c ∧ c ≤ 57)) h3, fun h => of_decide_eq_true (p := 97 ≤ c ∧ c ≤ 122) (h4 (by omega))⟩
  show (if signs.length ≤ sizeLine then (atI signs.cps.toList i).map (fun c => D.str ⟨#[c]⟩) else none) = _
  rw [if_pos hl, q]; rfl
theorem words_nm : ∀ w ∈ (["core", "set", "jump", "gap", "stop", "l0", "l1", "l40", "r0", "a", "a0", "aa", "l", "ifzero", "below"] : List Str), Nm w := by
  have : ∀ w ∈ (["core", "set", "jump", "gap", "stop", "l0", "l1", "l40", "r0", "a", "a0", "aa", "l", "ifzero", "below"] : List Str), (match tl w with | [] => false | c :: r => decide (97 ≤ c ∧ c ≤ 122) && decide ((c :: r).length ≤ 12) && (c :: r).all fun d => decide (97 ≤ d ∧ d ≤ 122) || decide (48 ≤ d ∧ d ≤ 57)) = true := by decide +kernel
  intro w hw
  have h := this w hw
  split at h
  · cases h
  · rename_i c r e
    simp only [Bool.and_eq_true, decide_eq_true_eq, List.all_eq_true, Bool.or_eq_true] at h
    exact ⟨c, r, e, by rw [e]; exact h.1.2, h.1.1, fun d hd => by rw [e] at hd; exact h.2 d hd⟩
/-- what a name is as it grows -/
def Gr (m : Nat) (x : Str) : Prop := ∃ c r, tl x = c :: r ∧ (tl x).length = m ∧ isSm c ∧ ∀ d ∈ tl x, isSm d ∨ isDg d
theorem Gr.nm {m : Nat} {x : Str} (h : Gr m x) (hm : m ≤ 12) : Nm x := by
  obtain ⟨c, r, h1, h2, h3, h4⟩ := h
  exact ⟨c, r, h1, by omega, h3, h4⟩
theorem Gr.add {m : Nat} {x : Str} {c : Nat} (h : Gr m x) (hc : okc c) : Gr (m + 1) (x ++ ⟨#[c]⟩) := by
  obtain ⟨d, r, h1, h2, h3, h4⟩ := h
  refine ⟨d, r ++ [c], by rw [tl_append, h1]; rfl, by rw [tl_append, List.length_append, h2]; rfl, h3, fun e he => ?_⟩
  rw [tl_append] at he
  rcases List.mem_append.mp he with he | he
  · exact h4 e he
  · have : e = c := by simpa using he
    subst this; exact hc
theorem o_addS3 {x y : Str} {S : Store} (h : (tl x).length + (tl y).length ≤ 10000000) : binop .add (.str x) (.str y) S = some (.str (x ++ y), S) := by
  show okI (decide (x.length + y.length ≤ sizeLine)) _ S = _
  rw [decide_eq_true (show x.length + y.length ≤ sizeLine by rw [len_tl, len_tl, sizeLine_eq]; omega)]; rfl
def b_50l : St := (.seq (.asg (.nm 5) (.idx (.lst (.cons (.bin .fdiv (.var 5) (.var 3)) (.cons (.var 6) .nil))) (.bi .int (.cons (.cmp .eq (.var 8) (.lit (.int 4))) .nil))))
  (.seq (.asg (.nm 7) (.bin .add (.var 7) (.idx (.var 2) (.bin .mod (.bi .int (.cons (.var 5) .nil)) (.var 3)))))
  .skip))
section
variable {q : Pr} {W : Nat}
theorem step50 (k : Nat) {S : Store} {a wd : D} {few size first more j : Int} {nm : Str} {m : Nat} (hf : few = 36 ∨ few = 2) (h0 : 0 ≤ first) (h1 : first < 10 ^ 9) (h2 : 0 ≤ more) (h3 : more < 10 ^ 9) (hg : Gr m nm) (hm : m ≤ 20) :
    ∃ first' nm' S', ex (pm q W k) b_50l [some a, some wd, some (.str signs), some (.int few), some (.int size), some (.int first), some (.int more), some (.str nm), some (.int j)] S = some (.nx, [some a, some wd, some (.str signs), some (.int few), some (.int size), some (.int first'), some (.int more), some (.str nm'), some (.int j)], S') ∧
      0 ≤ first' ∧ first' < 10 ^ 9 ∧ Gr (m + 1) nm' ∧ Kp [] S S' := by
  have fp : 0 < few := by omega
  have dv : binop .fdiv (.int first) (.int few) S = some (.int (first / few), S) := o_div fp (by unfold Sm; omega)
  have d0 : 0 ≤ first / few := Int.ediv_nonneg h0 (by omega)
  have d1 : first / few < 10 ^ 9 := by
    have : first / few ≤ first := Int.ediv_le_self _ h0
    omega
  let S1 := S ++ [O.lst [.int (first / few), .int more]]
  have nxt : ∀ (f' : Int) (ix : idxop (.ref S.length) (.int (if decide (j = 4) then 1 else 0)) S1 = some (.int f')), 0 ≤ f' → f' < 10 ^ 9 → ∃ first' nm' S', ex (pm q W k) b_50l [some a, some wd, some (.str signs), some (.int few), some (.int size), some (.int first), some (.int more), some (.str nm), some (.int j)] S = some (.nx, [some a, some wd, some (.str signs), some (.int few), some (.int size), some (.int first'), some (.int more), some (.str nm'), some (.int j)], S') ∧
      0 ≤ first' ∧ first' < 10 ^ 9 ∧ Gr (m + 1) nm' ∧ Kp [] S S' := fun f' ix f0 f1 => by
    have m0 : 0 ≤ f' % few := Int.emod_nonneg _ (by omega)
    have m1 : f' % few < few := Int.emod_lt_of_pos _ fp
    obtain ⟨c, c1, c2, _⟩ := sign_at (i := f' % few) m0 (by omega) (S := S1)
    have hl : (tl nm).length = m := by obtain ⟨_, _, _, h, _⟩ := hg; exact h
    have ad : binop .add (.str nm) (.str ⟨#[c]⟩) S1 = some (.str (nm ++ ⟨#[c]⟩), S1) := o_addS3 (by rw [hl]; show m + 1 ≤ _; omega)
    have ce : cmpop .eq (.int j) (.int 4) S1 = some (decide (j = 4)) := rfl
    refine ⟨f', nm ++ ⟨#[c]⟩, S1, ?_, f0, f1, hg.add c2, Kp.push⟩
    unfold b_50l
    exact es_nx (es_asg (er_idx (er_lst (er_cons (er_bin (er_var rfl) (er_var rfl) dv) (er_cons (er_var rfl) er_nil)) (Nat.le_of_ble_eq_true rfl)) (er_bi (er_cons (er_cmp (er_var rfl) (er_lit rfl) ce) er_nil) b_bool) ix) rfl)
      (es_nx (es_asg (er_bin (er_var rfl) (er_idx (er_var rfl) (er_bin (er_bi (er_cons (er_var rfl) er_nil) b_int) (er_var rfl) (o_mod fp)) c1) ad) rfl) es_skip)
  by_cases hj : j = 4
  · rw [decide_eq_true hj] at nxt
    exact nxt more (i_lst l_last (atN (n := 1) rfl)) h2 h3
  · rw [decide_eq_false hj] at nxt
    exact nxt (first / few) (i_lst l_last (atN (n := 0) rfl)) d0 d1
theorem loop50 (k : Nat) {a wd : D} {few size more : Int} (hf : few = 36 ∨ few = 2) (h2 : 0 ≤ more) (h3 : more < 10 ^ 9) : ∀ (js : List Int) (m : Nat) (S : Store) (first : Int) (nm : Str) (x8 : Option D), 0 ≤ first → first < 10 ^ 9 → Gr m nm → m + js.length ≤ 20 →
    ∃ first' nm' x8' S', forL (ex (pm q W k) b_50l) (.nm 8) [] (js.map D.int) [some a, some wd, some (.str signs), some (.int few), some (.int size), some (.int first), some (.int more), some (.str nm), x8] S = some (.nx, [some a, some wd, some (.str signs), some (.int few), some (.int size), some (.int first'), some (.int more), some (.str nm'), x8'], S') ∧ Gr (m + js.length) nm' ∧ Kp [] S S' := by
  intro js
  induction js with
  | nil => intro m S first nm x8 _ _ hg _; exact ⟨first, nm, x8, S, forL_nil rfl, hg, Kp.refl _ _⟩
  | cons j js ih =>
    intro m S first nm x8 h0 h1 hg hm
    simp only [List.length_cons] at hm
    obtain ⟨f', nm', S1, a1, a2, a3, a4, a5⟩ := step50 (q := q) (W := W) k (S := S) (a := a) (wd := wd) (size := size) (j := j) hf h0 h1 h2 h3 hg (by omega)
    obtain ⟨f2, nm2, x2, S2, b1, b2, b3⟩ := ih (m + 1) S1 f' nm' (some (.int j)) a2 a3 a4 (by omega)
    refine ⟨f2, nm2, x2, S2, ?_, by rw [List.length_cons, Nat.add_comm js.length, ← Nat.add_assoc]; exact b2, a5.trans b3⟩
    rw [List.map_cons]
    exact forL_nx rfl rfl a1 b1
end
end Tm

set_option Elab.async false
set_option linter.all false
set_option maxRecDepth 100000
set_option maxHeartbeats 8000000
namespace Tm
open PySem L2 TL
def wordsL : List D := (["core", "set", "jump", "gap", "stop", "l0", "l1", "l40", "r0", "a", "a0", "aa", "l", "ifzero", "below"] : List Str).map D.str
section
variable {q : Pr} (Q : HK q) {W : Nat}
include Q
theorem lawname_p (k : Nat) {S : Store} {a : Nat} {c : Int} (hs : Spr S a c) (hc : c + 8 < 10 ^ 12) :
    ∃ x S', run q W (k + 2) 50 [.ref a] S = some (.str x, S') ∧ Nm x ∧ Spr S' a (c + 8) ∧ Kp [a] S S' := by
  have al := hs.lt
  let S0 := S ++ [O.lst wordsL]
  have s0 : Spr S0 a c := hs.push
  have K0 : Kp [a] S S0 := Kp.push
  obtain ⟨r1, S1, p1, l1, u1, s1, k1⟩ := pick_spec Q.f5 (W := W) k s0 (by omega) (show (0 : Int) < 3 by decide) (by unfold Sm; decide)
  have w1 : listAt S1 S.length = some wordsL := l_lst (k1 _ _ (by simp; omega) (g_last (S := S)))
  have ce : cmpop .eq (.int r1) (.int 0) S1 = some (decide (r1 = 0)) := rfl
  have e1 : ev (pm q W (k + 1)) (.cmp .eq (.call 5 [0, 1] (.cons (.var 0) (.cons (.lit (.int 3)) .nil)) .nil) (.lit (.int 0))) [some (.ref a), some (.ref S.length), none, none, none, none, none, none, none] S0 = some (.bl (decide (r1 = 0)), S1) :=
    er_cmp (er_call (er_cons (er_var rfl) (er_cons (er_lit rfl) er_nil)) er_nil rfl p1) (er_lit rfl) ce
  have wl : ev (pm q W (k + 1)) (.lst (.cons (.lit (.str "core")) (.cons (.lit (.str "set")) (.cons (.lit (.str "jump")) (.cons (.lit (.str "gap")) (.cons (.lit (.str "stop")) (.cons (.lit (.str "l0")) (.cons (.lit (.str "l1")) (.cons (.lit (.str "l40")) (.cons (.lit (.str "r0")) (.cons (.lit (.str "a")) (.cons (.lit (.str "a0")) (.cons (.lit (.str "aa")) (.cons (.lit (.str "l")) (.cons (.lit (.str "ifzero")) (.cons (.lit (.str "below")) .nil)))))))))))))))) [some (.ref a), none, none, none, none, none, none, none, none] S = some (.ref S.length, S0) :=
    er_lst (er_cons (er_lit rfl) (er_cons (er_lit rfl) (er_cons (er_lit rfl) (er_cons (er_lit rfl) (er_cons (er_lit rfl) (er_cons (er_lit rfl) (er_cons (er_lit rfl) (er_cons (er_lit rfl) (er_cons (er_lit rfl) (er_cons (er_lit rfl) (er_cons (er_lit rfl) (er_cons (er_lit rfl) (er_cons (er_lit rfl) (er_cons (er_lit rfl) (er_cons (er_lit rfl) er_nil))))))))))))))) (Nat.le_of_ble_eq_true rfl)
  by_cases h0 : r1 = 0
  · rw [decide_eq_true h0] at e1
    obtain ⟨r2, S2, p2, l2, u2, s2, k2⟩ := pick_spec Q.f5 (W := W) k s1 (by omega) (show (0 : Int) < 15 by decide) (by unfold Sm; decide)
    have w2 : listAt S2 S.length = some wordsL := by
      have h := k1 _ _ (by simp; omega) (g_last (S := S) (o := .lst wordsL))
      exact l_lst (k2 _ _ (by simp; omega) h)
    have hx : ∃ x, atI wordsL r2 = some (.str x) ∧ Nm x := by
      have hj : r2.toNat < 15 := by omega
      have hg : ∀ j : Nat, j < 15 → ∃ x, wordsL[j]? = some (.str x) ∧ x ∈ (["core", "set", "jump", "gap", "stop", "l0", "l1", "l40", "r0", "a", "a0", "aa", "l", "ifzero", "below"] : List Str) := by
        intro j hj
        have hl : (["core", "set", "jump", "gap", "stop", "l0", "l1", "l40", "r0", "a", "a0", "aa", "l", "ifzero", "below"] : List Str).length = 15 := rfl
        have hj' : j < (["core", "set", "jump", "gap", "stop", "l0", "l1", "l40", "r0", "a", "a0", "aa", "l", "ifzero", "below"] : List Str).length := by rw [hl]; exact hj
        refine ⟨_, ?_, List.getElem_mem hj'⟩
        show (List.map D.str _)[j]? = _
        rw [List.getElem?_map, List.getElem?_eq_getElem hj']; rfl
      obtain ⟨x, x1, x2⟩ := hg _ hj
      exact ⟨x, at_pos l2 x1, words_nm x x2⟩
    obtain ⟨x, x1, x2⟩ := hx
    refine ⟨x, S2, ?_, x2, s2.le (by omega), K0.trans (k1.trans k2)⟩
    refine' run_rt (e0 := [some _, none, none, none, none, none, none, none, none]) Q.f50 rfl rfl ?h
    case h =>
      unfold b_50
      have ln : biop .len [.ref S.length] S1 = some (.int 15, S1) := b_lenL w1
      exact es_nx (es_asg wl rfl) (es_rt (es_if_t e1 (es_rt (es_ret (er_idx (er_var rfl) (er_call (er_cons (er_var rfl) (er_cons (er_bi (er_cons (er_var rfl) er_nil) ln) er_nil)) er_nil rfl p2) (i_lst w2 x1))))))
  · rw [decide_eq_false h0] at e1
    obtain ⟨r2, S2, p2, l2, u2, s2, k2⟩ := pick_spec Q.f5 (W := W) k s1.push (by omega) (show (0 : Int) < 2 by decide) (by unfold Sm; decide) (S := S1 ++ [O.lst [.int 36, .int 2]])
    have hfw : ∃ few : Int, atI [D.int 36, D.int 2] r2 = some (.int few) ∧ (few = 36 ∨ few = 2) := by
      have : r2 = 0 ∨ r2 = 1 := by omega
      rcases this with rfl | rfl
      · exact ⟨36, rfl, .inl rfl⟩
      · exact ⟨2, rfl, .inr rfl⟩
    obtain ⟨few, f1, f2⟩ := hfw
    have fl : listAt S2 S1.length = some [.int 36, .int 2] := l_lst (k2 _ _ (by have := s1.lt; simp; omega) (g_last (S := S1)))
    obtain ⟨r3, S3, p3, l3, u3, s3, k3⟩ := pick_spec Q.f5 (W := W) k s2 (by omega) (show (0 : Int) < 3 by decide) (by unfold Sm; decide)
    obtain ⟨r4, S4, p4, l4, u4, s4, k4⟩ := pick_spec Q.f5 (W := W) k s3 (by omega) (show (0 : Int) < 12 by decide) (by unfold Sm; decide)
    obtain ⟨r5, S5, p5, l5, u5, s5, k5⟩ := pick_spec Q.f5 (W := W) k s4.push (by omega) (show (0 : Int) < 2 by decide) (by unfold Sm; decide) (S := S4 ++ [O.lst [.int (1 + r3), .int (1 + r4)]])
    have hsz : ∃ size : Int, atI [D.int (1 + r3), D.int (1 + r4)] r5 = some (.int size) ∧ 1 ≤ size ∧ size ≤ 12 := by
      have : r5 = 0 ∨ r5 = 1 := by omega
      rcases this with rfl | rfl
      · exact ⟨1 + r3, rfl, by omega, by omega⟩
      · exact ⟨1 + r4, rfl, by omega, by omega⟩
    obtain ⟨size, z1, z2, z3⟩ := hsz
    have zl : listAt S5 S4.length = some [.int (1 + r3), .int (1 + r4)] := l_lst (k5 _ _ (by have := s4.lt; simp; omega) (g_last (S := S4)))
    obtain ⟨r6, S6, p6, l6, u6, s6, k6⟩ := pick_spec Q.f5 (W := W) k s5 (by omega) (show (0 : Int) < 10 ^ 9 by decide) (by unfold Sm; decide)
    obtain ⟨r7, S7, p7, l7, u7, s7, k7⟩ := pick_spec Q.f5 (W := W) k s6 (by omega) (show (0 : Int) < 10 ^ 9 by decide) (by unfold Sm; decide)
    obtain ⟨ch, c1, c2, c3⟩ := sign_at (i := r6 % 26) (Int.emod_nonneg _ (by decide)) (Int.lt_of_lt_of_le (Int.emod_lt_of_pos r6 (show (0 : Int) < 26 by decide)) (by decide)) (S := S7)
    have g0 : Gr 1 (⟨#[ch]⟩ : Str) := ⟨ch, [], rfl, rfl, c3 (Int.emod_lt_of_pos _ (by decide)), fun d hd => by
      have e : d = ch := by simpa using hd
      rw [e]; exact c2⟩
    obtain ⟨f', x, x8, S8, b1, b2, b3⟩ := loop50 (q := q) (W := W) (k + 1) (a := .ref a) (wd := .ref S.length) (size := size) f2 l7 u7 ((List.range (size - 1).toNat).map fun (i : Nat) => (i : Int)) 1 S7 r6 ⟨#[ch]⟩ none l6 u6 g0 (by simp; omega)
    have pw : ∀ S : Store, binop .pow (.int 10) (.int 9) S = some (.int (10 ^ 9), S) := fun S => o_pow (by decide) (by decide)
    refine ⟨x, S8, ?_, b2.nm (by simp; omega), (s7.kp0 b3).le (by omega), K0.trans (k1.trans (Kp.push.trans (k2.trans (k3.trans (k4.trans (Kp.push.trans (k5.trans (k6.trans (k7.trans b3.nil)))))))))⟩
    have rg : ev (pm q W (k + 1)) (.irng (.cons (.bin .sub (.var 4) (.lit (.int 1))) .nil)) [some (.ref a), some (.ref S.length), some (.str signs), some (.int few), some (.int size), some (.int r6), some (.int r7), some (.str ⟨#[ch]⟩), none] S7 = some (itD (((List.range (size - 1).toNat).map fun (i : Nat) => (i : Int)).map D.int) [], S7) := by
      have := er_rng (q := q) (W := W) (k := k + 1) (e := [some (.ref a), some (.ref S.length), some (.str signs), some (.int few), some (.int size), some (.int r6), some (.int r7), some (.str ⟨#[ch]⟩), none]) (a := .cons (.bin .sub (.var 4) (.lit (.int 1))) .nil) (S := S7) (S1 := S7) (n := (size - 1).toNat) (by
        have e9 : ((size - 1).toNat : Int) = size - 1 := by omega
        rw [e9]; exact er_cons (er_bin (er_var rfl) (er_lit rfl) o_sub) er_nil) (by omega)
      rw [List.map_map]; exact this
    refine' run_rt (e0 := [some _, none, none, none, none, none, none, none, none]) Q.f50 rfl rfl ?h
    case h =>
      unfold b_50
      exact es_nx (es_asg wl rfl) (es_nx (es_if_f e1 es_skip)
        (es_nx (es_asg (er_tup (er_cons (er_lit rfl) (er_cons (er_idx (er_lst (er_cons (er_lit rfl) (er_cons (er_lit rfl) er_nil)) (Nat.le_of_ble_eq_true rfl)) (er_call (er_cons (er_var rfl) (er_cons (er_lit rfl) er_nil)) er_nil rfl p2) (i_lst fl f1)) er_nil)) (Nat.le_of_ble_eq_true rfl)) rfl)
        (es_nx (es_asg (er_idx (er_lst (er_cons (er_bin (er_lit rfl) (er_call (er_cons (er_var rfl) (er_cons (er_lit rfl) er_nil)) er_nil rfl p3) o_add) (er_cons (er_bin (er_lit rfl) (er_call (er_cons (er_var rfl) (er_cons (er_lit rfl) er_nil)) er_nil rfl p4) o_add) er_nil)) (Nat.le_of_ble_eq_true rfl)) (er_call (er_cons (er_var rfl) (er_cons (er_lit rfl) er_nil)) er_nil rfl p5) (i_lst zl z1)) rfl)
        (es_nx (es_asg (er_tup (er_cons (er_call (er_cons (er_var rfl) (er_cons (er_bin (er_lit rfl) (er_lit rfl) (pw _)) er_nil)) er_nil rfl p6) (er_cons (er_call (er_cons (er_var rfl) (er_cons (er_bin (er_lit rfl) (er_lit rfl) (pw _)) er_nil)) er_nil rfl p7) er_nil)) (Nat.le_of_ble_eq_true rfl)) rfl)
        (es_nx (es_asg (er_idx (er_var rfl) (er_bin (er_bi (er_cons (er_var rfl) er_nil) b_int) (er_lit rfl) (o_mod (by decide))) c1) rfl)
        (es_nx (es_for rg b1) (es_rt (es_ret (er_var rfl)))))))))
end
end Tm

set_option Elab.async false
set_option linter.all false
set_option maxRecDepth 100000
set_option maxHeartbeats 8000000
namespace Tm
open PySem L2 TL
theorem Kp.cut {A B : List Nat} {S S1 S' : Store} (h : Kp A S S1) (k : Kp B S1 S') (hb : ∀ i ∈ B, i ∈ A ∨ S.length ≤ i) : Kp A S S' := fun i o n e => by
  have := (List.getElem?_eq_some_iff.mp e).1
  exact k i o (fun m => by rcases hb i m with g | g; exact n g; omega) (h i o n e)
abbrev Mk := Str × Nat
def encM (p : Mk) : D := .tup [.str p.1, .int p.2]
structure OkMs (size : Nat) (ms : List Mk) : Prop where
  nm : ∀ p ∈ ms, Nm p.1 ∧ p.2 ≤ size
  nd : (ms.map (·.1)).Nodup
def b_51i : St := (.seq (.asg (.nm 5) (.call 50 [0] (.cons (.var 0) .nil) .nil))
  (.seq (.ifs (.cmp .nin (.var 5) (.lc (.itv (.var 2)) (.tp 2 (.cons (.nm 6) (.cons (.nm 7) .nil))) (.lit (.bl true)) (.var 6) [6, 7])) (.seq (.drop (.app (.var 2) (.tup (.cons (.var 5) (.cons (.var 3) .nil)))))
  .skip) .skip)
  .skip))
def b_51o : St := (.seq (.for_ (.irng (.cons (.idx (.lst (.cons (.lit (.int 0)) (.cons (.lit (.int 1)) (.cons (.lit (.int 0)) (.cons (.lit (.int 2)) .nil))))) (.call 5 [0, 1] (.cons (.var 0) (.cons (.lit (.int 4)) .nil)) .nil)) .nil)) (.nm 4) b_51i)
  .skip)
section
variable {q : Pr} (Q : HK q) {W : Nat}
include Q
theorem mark_p (k : Nat) {S : Store} {a n size at_ : Nat} {c : Int} {ms : List Mk} {x4 x5 x6 x7 : Option D} (hs : Spr S a c) (hc : c + 8 < 10 ^ 12) (hna : n ≠ a) (hn : S[n]? = some (.lst (ms.map encM))) (ho : OkMs size ms) (hm : ms.length < 500) (hat : at_ ≤ size) :
    ∃ ms' S' y5, ex (pm q W (k + 2)) b_51i [some (.ref a), some (.int size), some (.ref n), some (.int at_), x4, x5, x6, x7] S = some (.nx, [some (.ref a), some (.int size), some (.ref n), some (.int at_), x4, y5, x6, x7], S') ∧ OkMs size ms' ∧ ms'.length ≤ ms.length + 1 ∧ S'[n]? = some (.lst (ms'.map encM)) ∧ Spr S' a (c + 8) ∧ Kp [a, n] S S' := by
  obtain ⟨x, S1, a1, a2, a3, a4⟩ := lawname_p Q (W := W) k hs hc
  have n1 : S1[n]? = some (.lst (ms.map encM)) := a4 _ _ (by simp; exact hna) hn
  obtain ⟨S2, c1, c2, c3⟩ := er_lcG (q := q) (W := W) (k := k + 2) (i := .itv (.var 2)) (a := .var 6) (t := .tp 2 (.cons (.nm 6) (.cons (.nm 7) .nil))) (own := [6, 7]) (e := [some (.ref a), some (.int size), some (.ref n), some (.int at_), x4, some (.str x), x6, x7]) (S := S1) (ds := ms) encM (fun p => .str p.1)
    (itv_lst (er_var rfl) (l_lst n1)) (fun S2 h => chk_lst (l_lst n1) h) (by rw [sizeLine_eq]; omega) (fun p hp S2 hS => ⟨[some (.ref a), some (.int size), some (.ref n), some (.int at_), x4, some (.str x), some (.str p.1), some (.int p.2)], S2, rfl, er_var rfl, Kp.refl _ _⟩)
  have al : ((ms.map fun p => D.str p.1).all isScal) = true := by
    rw [List.all_eq_true]; intro d hd; obtain ⟨p, _, rfl⟩ := List.mem_map.mp hd; rfl
  have n2 : S2[n]? = some (.lst (ms.map encM)) := c2 _ _ (by simp) n1
  have an : (ms.map fun p => D.str p.1).any (fun y => scEq y (.str x)) = decide (x ∈ ms.map (·.1)) := by
    rw [Bool.eq_iff_iff, List.any_eq_true, decide_eq_true_iff]
    constructor
    · rintro ⟨d, hd, h⟩
      obtain ⟨p, hp, rfl⟩ := List.mem_map.mp hd
      have : p.1 = x := of_decide_eq_true h
      exact List.mem_map.mpr ⟨p, hp, this⟩
    · intro h
      obtain ⟨p, hp, e⟩ := List.mem_map.mp h
      exact ⟨.str p.1, List.mem_map.mpr ⟨p, hp, rfl⟩, decide_eq_true e⟩
  have cn : cmpop .nin (.str x) (.ref S1.length) S2 = some (!decide (x ∈ ms.map (·.1))) := c_nin (l_lst c3) rfl al an
  have ce : ev (pm q W (k + 2)) (.cmp .nin (.var 5) (.lc (.itv (.var 2)) (.tp 2 (.cons (.nm 6) (.cons (.nm 7) .nil))) (.lit (.bl true)) (.var 6) [6, 7])) [some (.ref a), some (.int size), some (.ref n), some (.int at_), x4, some (.str x), x6, x7] S1 = some (.bl (!decide (x ∈ ms.map (·.1))), S2) := er_cmp (er_var rfl) c1 cn
  have K : Kp [a, n] S S2 := (a4.more (by simp)).trans c2.nil
  by_cases hx : x ∈ ms.map (·.1)
  · rw [decide_eq_true hx] at ce
    refine ⟨ms, S2, some (.str x), ?_, ho, by omega, n2, a3.kp0 c2, K⟩
    unfold b_51i
    exact es_nx (es_asg (er_call (er_cons (er_var rfl) er_nil) er_nil rfl a1) rfl) (es_nx (es_if_f ce es_skip) es_skip)
  · rw [decide_eq_false hx] at ce
    have pu := push_at (d := encM (x, at_)) n2 (by rw [List.length_map, sizeLine_eq]; omega)
    refine ⟨ms ++ [(x, at_)], S2.set n (.lst (ms.map encM ++ [encM (x, at_)])), some (.str x), ?_, ⟨fun p hp => ?_, ?_⟩, by simp, by rw [List.map_append]; exact set_get n2, (a3.kp0 c2).kp Kp.set (by simp; exact fun z => hna z.symm), K.trans (Kp.set.more (by simp))⟩
    · unfold b_51i
      exact es_nx (es_asg (er_call (er_cons (er_var rfl) er_nil) er_nil rfl a1) rfl) (es_nx (es_if_t ce (es_nx (es_drop (er_app (er_var rfl) (er_tup (er_cons (er_var rfl) (er_cons (er_var rfl) er_nil)) (Nat.le_of_ble_eq_true rfl)) pu)) es_skip)) es_skip)
    · rcases List.mem_append.mp hp with hp | hp
      · exact ho.nm p hp
      · simp only [List.mem_singleton] at hp; subst hp; exact ⟨a2, hat⟩
    · rw [List.map_append, List.nodup_append]
      exact ⟨ho.nd, by simp, fun u hu v hv => by simp at hv; subst hv; exact fun z => hx (z ▸ hu)⟩
theorem marks_in (k : Nat) {a n size at_ : Nat} {x6 x7 : Option D} (hna : n ≠ a) (hat : at_ ≤ size) : ∀ (ts : List Int) (S : Store) (c : Int) (ms : List Mk) (x4 x5 : Option D), Spr S a c → c + 8 * ts.length + 8 < 10 ^ 12 → S[n]? = some (.lst (ms.map encM)) → OkMs size ms → ms.length + ts.length < 500 →
    ∃ ms' S' y4 y5, forL (ex (pm q W (k + 2)) b_51i) (.nm 4) [] (ts.map D.int) [some (.ref a), some (.int size), some (.ref n), some (.int at_), x4, x5, x6, x7] S = some (.nx, [some (.ref a), some (.int size), some (.ref n), some (.int at_), y4, y5, x6, x7], S') ∧ OkMs size ms' ∧ ms'.length ≤ ms.length + ts.length ∧ S'[n]? = some (.lst (ms'.map encM)) ∧ Spr S' a (c + 8 * ts.length) ∧ Kp [a, n] S S' := by
  intro ts
  induction ts with
  | nil => intro S c ms x4 x5 hs _ hn ho _; exact ⟨ms, S, x4, x5, forL_nil rfl, ho, by simp, hn, by simpa using hs, Kp.refl _ _⟩
  | cons t ts ih =>
    intro S c ms x4 x5 hs hc hn ho hl
    simp only [List.length_cons] at hl hc
    push_cast at hc
    obtain ⟨ms1, S1, y5, a1, a2, a3, a4, a5, a6⟩ := mark_p Q (W := W) k (x4 := some (.int t)) (x5 := x5) (x6 := x6) (x7 := x7) hs (by omega) hna hn ho (by omega) hat
    obtain ⟨ms2, S2, z4, z5, b1, b2, b3, b4, b5, b6⟩ := ih S1 (c + 8) ms1 (some (.int t)) y5 a5 (by omega) a4 a2 (by omega)
    refine ⟨ms2, S2, z4, z5, ?_, b2, by simp only [List.length_cons]; omega, b4, b5.le (by simp only [List.length_cons]; push_cast; omega), a6.trans b6⟩
    rw [List.map_cons]
    exact forL_nx rfl rfl a1 b1
theorem marks_out (k : Nat) {a n size : Nat} {x6 x7 : Option D} (hna : n ≠ a) : ∀ (ats : List Nat) (S : Store) (c : Int) (ms : List Mk) (x3 x4 x5 : Option D), (∀ t ∈ ats, t ≤ size) → a < S.length → n < S.length → Spr S a c → c + 20 * ats.length + 20 < 10 ^ 12 → S[n]? = some (.lst (ms.map encM)) → OkMs size ms → ms.length + 2 * ats.length < 490 →
    ∃ ms' S' y3 y4 y5, forL (ex (pm q W (k + 2)) b_51o) (.nm 3) [] (ats.map fun (i : Nat) => D.int (i : Int)) [some (.ref a), some (.int size), some (.ref n), x3, x4, x5, x6, x7] S = some (.nx, [some (.ref a), some (.int size), some (.ref n), y3, y4, y5, x6, x7], S') ∧ OkMs size ms' ∧ ms'.length ≤ ms.length + 2 * ats.length ∧ S'[n]? = some (.lst (ms'.map encM)) ∧ Spr S' a (c + 20 * ats.length) ∧ Kp [a, n] S S' := by
  intro ats
  induction ats with
  | nil => intro S c ms x3 x4 x5 _ _ _ hs _ hn ho _; exact ⟨ms, S, x3, x4, x5, forL_nil rfl, ho, by simp, hn, by simpa using hs, Kp.refl _ _⟩
  | cons t ats ih =>
    intro S c ms x3 x4 x5 ht al nl hs hc hn ho hl
    simp only [List.length_cons] at hl hc
    push_cast at hc
    obtain ⟨r1, S1, p1, l1, u1, s1, k1⟩ := pick_spec Q.f5 (W := W) (k + 1) hs.push (by omega) (show (0 : Int) < 4 by decide) (by unfold Sm; decide) (S := S ++ [O.lst [.int 0, .int 1, .int 0, .int 2]])
    have hw : ∃ m : Nat, atI [D.int 0, D.int 1, D.int 0, D.int 2] r1 = some (.int m) ∧ m ≤ 2 := by
      have : r1 = 0 ∨ r1 = 1 ∨ r1 = 2 ∨ r1 = 3 := by omega
      rcases this with rfl | rfl | rfl | rfl
      · exact ⟨0, rfl, by omega⟩
      · exact ⟨1, rfl, by omega⟩
      · exact ⟨0, rfl, by omega⟩
      · exact ⟨2, rfl, by omega⟩
    obtain ⟨m, m1, m2⟩ := hw
    have wl : listAt S1 S.length = some [.int 0, .int 1, .int 0, .int 2] := l_lst (k1 _ _ (by simp; omega) (g_last (S := S)))
    have n1 : S1[n]? = some (.lst (ms.map encM)) := k1 _ _ (by simp; exact hna) (Kp.push (A := []) _ _ (by simp) hn)
    have hlen : ((List.range m).map fun (i : Nat) => (i : Int)).length = m := by simp
    obtain ⟨ms1, S2, y4, y5, a1, a2, a3, a4, a5, a6⟩ := marks_in Q (W := W) k (a := a) (n := n) (size := size) (at_ := t) (x6 := x6) (x7 := x7) hna (ht t List.mem_cons_self) ((List.range m).map fun (i : Nat) => (i : Int)) S1 (c + 1) ms x4 x5 s1 (by rw [hlen]; omega) n1 ho (by rw [hlen]; omega)
    rw [hlen] at a3 a5
    have K1 : Kp [a, n] S S2 := Kp.push.trans ((k1.more (by simp)).trans a6)
    obtain ⟨ms2, S3, z3, z4, z5, b1, b2, b3, b4, b5, b6⟩ := ih S2 (c + 20) ms1 (some (.int t)) y4 y5 (fun u hu => ht u (List.mem_cons_of_mem _ hu)) a5.lt ((List.getElem?_eq_some_iff.mp a4).1) (a5.le (by omega)) (by omega) a4 a2 (by omega)
    refine ⟨ms2, S3, z3, z4, z5, ?_, b2, by simp only [List.length_cons]; omega, b4, b5.le (by simp only [List.length_cons]; push_cast; omega), K1.trans b6⟩
    rw [List.map_cons]
    refine forL_nx rfl rfl ?_ b1
    unfold b_51o
    have rg : ev (pm q W (k + 2)) (.irng (.cons (.idx (.lst (.cons (.lit (.int 0)) (.cons (.lit (.int 1)) (.cons (.lit (.int 0)) (.cons (.lit (.int 2)) .nil))))) (.call 5 [0, 1] (.cons (.var 0) (.cons (.lit (.int 4)) .nil)) .nil)) .nil)) [some (.ref a), some (.int size), some (.ref n), some (.int t), x4, x5, x6, x7] S = some (itD (((List.range m).map fun (i : Nat) => (i : Int)).map D.int) [], S1) := by
      have := er_rng (q := q) (W := W) (k := k + 2) (e := [some (.ref a), some (.int size), some (.ref n), some (.int t), x4, x5, x6, x7]) (S := S) (S1 := S1) (n := m)
        (er_cons (er_idx (er_lst (er_cons (er_lit (d := .int 0) rfl) (er_cons (er_lit (d := .int 1) rfl) (er_cons (er_lit (d := .int 0) rfl) (er_cons (er_lit (d := .int 2) rfl) er_nil)))) (Nat.le_of_ble_eq_true rfl)) (er_call (f := 5) (perm := [0, 1]) (er_cons (er_var (i := 0) rfl) (er_cons (er_lit (d := .int 4) rfl) er_nil)) er_nil rfl p1) (i_lst wl m1)) er_nil) (by omega)
      rw [List.map_map]; exact this
    exact es_nx (es_for rg a1) es_skip
theorem marks_p (k : Nat) {S : Store} {a size : Nat} {c : Int} (hs : Spr S a c) (hc : c + 1000 < 10 ^ 12) (hz : size ≤ 40) :
    ∃ ms S', run q W (k + 3) 51 [.ref a, .int size] S = some (.ref S.length, S') ∧ OkMs size ms ∧ ms.length ≤ 82 ∧ S'[S.length]? = some (.lst (ms.map encM)) ∧ Spr S' a (c + 820) ∧ Kp [a] S S' := by
  have al := hs.lt
  have hlen : (List.range (size + 1)).length = size + 1 := by simp
  obtain ⟨ms, S', y3, y4, y5, a1, a2, a3, a4, a5, a6⟩ := marks_out Q (W := W) k (a := a) (n := S.length) (size := size) (x6 := none) (x7 := none) (by omega) (List.range (size + 1)) (S ++ [.lst []]) c [] none none none (fun t ht => by have := List.mem_range.mp ht; omega) (by simp; omega) (by simp) hs.push (by rw [hlen]; push_cast; omega) g_last ⟨by intro p hp; simp at hp, by simp⟩ (by rw [hlen]; simp; omega)
  rw [hlen] at a3 a5
  refine ⟨ms, S', ?_, a2, by simp at a3; omega, a4, a5.le (by push_cast; omega), Kp.cut Kp.push a6 (by simp)⟩
  have rg : ev (pm q W (k + 2)) (.irng (.cons (.bin .add (.var 1) (.lit (.int 1))) .nil)) [some (.ref a), some (.int size), some (.ref S.length), none, none, none, none, none] (S ++ [.lst []]) = some (itD ((List.range (size + 1)).map fun (i : Nat) => D.int (i : Int)) [], S ++ [.lst []]) :=
    er_rng (er_cons (er_bin (er_var rfl) (er_lit rfl) (by rw [o_add]; push_cast; rfl)) er_nil) (by omega)
  refine' run_rt (e0 := [some _, some _, none, none, none, none, none, none]) Q.f51 rfl rfl ?h
  case h =>
    unfold b_51
    exact es_nx (es_asg (er_lst er_nil (Nat.le_of_ble_eq_true rfl)) rfl) (es_nx (es_for rg a1) (es_rt (es_ret (er_var rfl))))
end
end Tm

set_option Elab.async false
set_option linter.all false
set_option maxRecDepth 100000
set_option maxHeartbeats 8000000
namespace Tm
open PySem L2 TL
/-! ## rows and their lines -/
def rgT (n : Nat) : Tr := ("r" ++ numS n, 114, .int (n : Int))
def wdT (n : Nat) : Tr := (numS n, 119, .int (n : Int))
def lbT (x : Str) (r : Nat) : Tr := (x, 116, .int (r : Int))
def sums : List Str := ["add", "sub", "and", "xor", "below"]
inductive Shp (to : Str) (row : Nat) : Str → List Tr → Prop
  | set (a w : Nat) (ha : a ≤ 7) (hw : w ≤ 65535) : Shp to row "set" [rgT a, wdT w]
  | tri (nm : Str) (h : nm ∈ sums) (a b c : Nat) (ha : a ≤ 7) (hb : b ≤ 7) (hc : c ≤ 7) : Shp to row nm [rgT a, rgT b, rgT c]
  | mem (nm : Str) (h : nm ∈ (["load", "store"] : List Str)) (a b w : Nat) (ha : a ≤ 7) (hb : b ≤ 7) (hw : w ≤ 65535) : Shp to row nm [rgT a, rgT b, wdT w]
  | quad (nm : Str) (h : nm ∈ (["swap", "addto"] : List Str)) (a b c w : Nat) (ha : a ≤ 7) (hb : b ≤ 7) (hc : c ≤ 7) (hw : w ≤ 65535) : Shp to row nm [rgT a, rgT b, rgT c, wdT w]
  | ifz (a : Nat) (ha : a ≤ 7) : Shp to row "ifzero" [rgT a, lbT to row]
  | jump : Shp to row "jump" [lbT to row]
  | non (nm : Str) (h : nm ∈ (["fence", "gap", "stop"] : List Str)) : Shp to row nm []
def litL : List Str → C
  | [] => .nil
  | x :: r => .cons (.lit (.str x)) (litL r)
section
variable {q : Pr} {W k : Nat} {e : Env'} {S : Store} {a : C} {nm : Str}
theorem er_litL : ∀ xs : List Str, ev (pm q W k) (litL xs) e S = some (.tup (xs.map D.str), S)
  | [] => er_nil
  | x :: r => er_cons (er_lit rfl) (er_litL r)
theorem any_str (xs : List Str) : (xs.map D.str).any (fun y => scEq y (.str nm)) = decide (nm ∈ xs) := by
  rw [Bool.eq_iff_iff, List.any_eq_true, decide_eq_true_iff]
  constructor
  · rintro ⟨d, hd, h⟩
    obtain ⟨p, hp, rfl⟩ := List.mem_map.mp hd
    have : p = nm := of_decide_eq_true h
    exact this ▸ hp
  · intro h
    exact ⟨.str nm, List.mem_map.mpr ⟨nm, h, rfl⟩, decide_eq_true rfl⟩
theorem all_str (xs : List Str) : ((xs.map D.str).all isScal) = true := by
  rw [List.all_eq_true]; intro d hd; obtain ⟨p, _, rfl⟩ := List.mem_map.mp hd; rfl
theorem er_inL (xs : List Str) (hl : xs.length ≤ 100) {b : Bool} (hb : decide (nm ∈ xs) = b) (h : ev (pm q W k) a e S = some (.str nm, S)) : ev (pm q W k) (.cmp .in_ a (.lst (litL xs))) e S = some (.bl b, S ++ [.lst (xs.map D.str)]) :=
  er_cmp h (er_lst (er_litL xs) (by rw [List.length_map, sizeLine_eq]; omega)) (c_in l_last rfl (all_str xs) (by rw [any_str, hb]))
theorem er_ninL (xs : List Str) (hl : xs.length ≤ 100) {b : Bool} (hb : decide (nm ∈ xs) = b) (h : ev (pm q W k) a e S = some (.str nm, S)) : ev (pm q W k) (.cmp .nin a (.lst (litL xs))) e S = some (.bl (!b), S ++ [.lst (xs.map D.str)]) :=
  er_cmp h (er_lst (er_litL xs) (by rw [List.length_map, sizeLine_eq]; omega)) (c_nin l_last rfl (all_str xs) (by rw [any_str, hb]))
theorem b_str {n : Nat} (h : n < 2 ^ 100) : biop .str [.int (n : Int)] S = some (.str (numS n), S) := by
  show okI (decide ((n : Int).natAbs.log2 < 1920)) (.str (numS n)) S = _
  have : (n : Int).natAbs.log2 < 1920 := by
    rw [Int.natAbs_natCast]
    by_cases z : n = 0
    · subst z; decide
    · exact Nat.lt_of_lt_of_le ((Nat.log2_lt z).mpr h) (by decide)
  rw [decide_eq_true this]; rfl
theorem num_len {n : Nat} (h : n < 100000) : (tl (numS n)).length ≤ 5 := by rw [tl_numS]; exact numL_len (by decide) h
theorem er_rg {n j : Nat} (hn : n ≤ 7) {xs : List D} (h : e[0]? = some (some (.tup xs))) (hx : xs[j]? = some (.int (n : Int))) : ev (pm q W k) (.bin .add (.lit (.str "r")) (.bi .str (.cons (.idx (.var 0) (.lit (.int (j : Int)))) .nil))) e S = some (.str ("r" ++ numS n), S) :=
  er_bin (er_lit rfl) (er_bi (er_cons (er_idx (er_var h) (er_lit rfl) (i_tup (atN hx))) er_nil) (b_str (by omega))) (o_addS3 (by have := num_len (n := n) (by omega); show 1 + _ ≤ _; omega))
theorem er_wd {n j : Nat} (hn : n ≤ 65535) {xs : List D} (h : e[0]? = some (some (.tup xs))) (hx : xs[j]? = some (.int (n : Int))) : ev (pm q W k) (.bi .str (.cons (.idx (.var 0) (.lit (.int (j : Int)))) .nil)) e S = some (.str (numS n), S) :=
  er_bi (er_cons (er_idx (er_var h) (er_lit rfl) (i_tup (atN hx))) er_nil) (b_str (by omega))
end
theorem strsD_map : ∀ ys : List Str, strsD (ys.map D.str) = some ys
  | [] => rfl
  | y :: r => by simp only [List.map_cons, strsD, strsD_map r, Option.map_some]
def b_49c : St := (.ifs (.cmp .eq (.var 2) (.lit (.str "set"))) (.seq (.asg (.nm 3) (.lst (.cons (.bin .add (.lit (.str "r")) (.bi .str (.cons (.idx (.var 0) (.lit (.int 1))) .nil))) (.cons (.bi .str (.cons (.idx (.var 0) (.lit (.int 2))) .nil)) .nil))))
  .skip) (.seq (.ifs (.cmp .in_ (.var 2) (.lst (.cons (.lit (.str "load")) (.cons (.lit (.str "store")) .nil)))) (.seq (.asg (.nm 3) (.lst (.cons (.bin .add (.lit (.str "r")) (.bi .str (.cons (.idx (.var 0) (.lit (.int 1))) .nil))) (.cons (.bin .add (.lit (.str "r")) (.bi .str (.cons (.idx (.var 0) (.lit (.int 2))) .nil))) (.cons (.bi .str (.cons (.idx (.var 0) (.lit (.int 3))) .nil)) .nil)))))
  .skip) (.seq (.ifs (.cmp .in_ (.var 2) (.lst (.cons (.lit (.str "swap")) (.cons (.lit (.str "addto")) .nil)))) (.seq (.asg (.nm 3) (.lst (.cons (.bin .add (.lit (.str "r")) (.bi .str (.cons (.idx (.var 0) (.lit (.int 1))) .nil))) (.cons (.bin .add (.lit (.str "r")) (.bi .str (.cons (.idx (.var 0) (.lit (.int 2))) .nil))) (.cons (.bin .add (.lit (.str "r")) (.bi .str (.cons (.idx (.var 0) (.lit (.int 3))) .nil))) (.cons (.bi .str (.cons (.idx (.var 0) (.lit (.int 4))) .nil)) .nil))))))
  .skip) (.seq (.ifs (.cmp .eq (.var 2) (.lit (.str "ifzero"))) (.seq (.asg (.nm 3) (.lst (.cons (.bin .add (.lit (.str "r")) (.bi .str (.cons (.idx (.var 0) (.lit (.int 1))) .nil))) (.cons (.var 1) .nil))))
  .skip) (.seq (.ifs (.cmp .eq (.var 2) (.lit (.str "jump"))) (.seq (.asg (.nm 3) (.lst (.cons (.var 1) .nil)))
  .skip) (.seq (.ifs (.cmp .nin (.var 2) (.lst (.cons (.lit (.str "fence")) (.cons (.lit (.str "gap")) (.cons (.lit (.str "stop")) .nil))))) (.seq (.asg (.nm 3) (.lst (.cons (.bin .add (.lit (.str "r")) (.bi .str (.cons (.idx (.var 0) (.lit (.int 1))) .nil))) (.cons (.bin .add (.lit (.str "r")) (.bi .str (.cons (.idx (.var 0) (.lit (.int 2))) .nil))) (.cons (.bin .add (.lit (.str "r")) (.bi .str (.cons (.idx (.var 0) (.lit (.int 3))) .nil))) .nil)))))
  .skip) .skip)
  .skip))
  .skip))
  .skip))
  .skip))
  .skip))
section
variable {q : Pr} {W : Nat}
theorem kp2 {S : Store} {o p : O} : Kp [] S (S ++ [o] ++ [p]) := Kp.push.trans Kp.push
theorem kp3 {S : Store} {o p r : O} : Kp [] S (S ++ [o] ++ [p] ++ [r]) := kp2.trans Kp.push
theorem kp4 {S : Store} {o p r s : O} : Kp [] S (S ++ [o] ++ [p] ++ [r] ++ [s]) := kp3.trans Kp.push
theorem parts_p (k : Nat) {S : Store} {nm to : Str} {row : Nat} {tr : List Tr} {m0 : Nat} (hm0 : S[m0]? = some (.lst [])) (h : Shp to row nm tr) :
    ∃ m S', ex (pm q W k) b_49c [some (dRow (nm, tr)), some (.str to), some (.str nm), some (.ref m0)] S = some (.nx, [some (dRow (nm, tr)), some (.str to), some (.str nm), some (.ref m)], S') ∧ S'[m]? = some (.lst ((tr.map (·.1)).map D.str)) ∧ Kp [] S S' := by
  unfold b_49c
  cases h with
  | set a w ha hw =>
    exact ⟨_, _, es_if_t (er_cmp (er_var rfl) (er_lit rfl) (c_str_t rfl)) (es_nx (es_asg (er_lst (er_cons (er_rg (j := 1) ha rfl rfl) (er_cons (er_wd (j := 2) hw rfl rfl) er_nil)) (Nat.le_of_ble_eq_true rfl)) rfl) es_skip), g_last, Kp.push⟩
  | mem nm hn a b w ha hb hw =>
    have n1 : ¬ (nm = "set") := by
      rintro rfl; revert hn; decide +kernel
    have i1 := er_inL (q := q) (W := W) (k := k) (e := [some (dRow (nm, [rgT a, rgT b, wdT w])), some (.str to), some (.str nm), some (.ref m0)]) (S := S) (a := .var 2) ["load", "store"] (by decide) (decide_eq_true hn) (er_var rfl)
    exact ⟨_, _, es_if_f (er_cmp (er_var rfl) (er_lit rfl) (c_str_f n1)) (es_nx (es_if_t i1 (es_nx (es_asg (er_lst (er_cons (er_rg (j := 1) ha rfl rfl) (er_cons (er_rg (j := 2) hb rfl rfl) (er_cons (er_wd (j := 3) hw rfl rfl) er_nil))) (Nat.le_of_ble_eq_true rfl)) rfl) es_skip)) es_skip), g_last, kp2⟩
  | quad nm hn a b c w ha hb hc hw =>
    have n1 : ¬ (nm = "set") := by
      rintro rfl; revert hn; decide +kernel
    have n2 : ¬ nm ∈ (["load", "store"] : List Str) := by
      simp only [List.mem_cons, List.not_mem_nil, or_false] at hn
      rcases hn with rfl | rfl <;> decide +kernel
    have i1 := fun S => er_inL (q := q) (W := W) (k := k) (e := [some (dRow (nm, [rgT a, rgT b, rgT c, wdT w])), some (.str to), some (.str nm), some (.ref m0)]) (S := S) (a := .var 2) ["load", "store"] (by decide) (decide_eq_false n2) (er_var rfl)
    have i2 := fun S => er_inL (q := q) (W := W) (k := k) (e := [some (dRow (nm, [rgT a, rgT b, rgT c, wdT w])), some (.str to), some (.str nm), some (.ref m0)]) (S := S) (a := .var 2) ["swap", "addto"] (by decide) (decide_eq_true hn) (er_var rfl)
    exact ⟨_, _, es_if_f (er_cmp (er_var rfl) (er_lit rfl) (c_str_f n1)) (es_nx (es_if_f (i1 _) (es_nx (es_if_t (i2 _) (es_nx (es_asg (er_lst (er_cons (er_rg (j := 1) ha rfl rfl) (er_cons (er_rg (j := 2) hb rfl rfl) (er_cons (er_rg (j := 3) hc rfl rfl) (er_cons (er_wd (j := 4) hw rfl rfl) er_nil)))) (Nat.le_of_ble_eq_true rfl)) rfl) es_skip)) es_skip)) es_skip), g_last, kp3⟩
  | ifz a ha =>
    have i1 := fun S => er_inL (q := q) (W := W) (k := k) (e := [some (dRow ("ifzero", [rgT a, lbT to row])), some (.str to), some (.str "ifzero"), some (.ref m0)]) (S := S) (a := .var 2) (nm := "ifzero") ["load", "store"] (by decide) (b := false) (by decide +kernel) (er_var rfl)
    have i2 := fun S => er_inL (q := q) (W := W) (k := k) (e := [some (dRow ("ifzero", [rgT a, lbT to row])), some (.str to), some (.str "ifzero"), some (.ref m0)]) (S := S) (a := .var 2) (nm := "ifzero") ["swap", "addto"] (by decide) (b := false) (by decide +kernel) (er_var rfl)
    exact ⟨_, _, es_if_f (er_cmp (er_var rfl) (er_lit rfl) (c_str_f (by decide +kernel))) (es_nx (es_if_f (i1 _) (es_nx (es_if_f (i2 _) (es_nx (es_if_t (er_cmp (er_var rfl) (er_lit rfl) (c_str_t rfl)) (es_nx (es_asg (er_lst (er_cons (er_rg (j := 1) ha rfl rfl) (er_cons (er_var rfl) er_nil)) (Nat.le_of_ble_eq_true rfl)) rfl) es_skip)) es_skip)) es_skip)) es_skip), g_last, kp3⟩
  | jump =>
    have i1 := fun S => er_inL (q := q) (W := W) (k := k) (e := [some (dRow ("jump", [lbT to row])), some (.str to), some (.str "jump"), some (.ref m0)]) (S := S) (a := .var 2) (nm := "jump") ["load", "store"] (by decide) (b := false) (by decide +kernel) (er_var rfl)
    have i2 := fun S => er_inL (q := q) (W := W) (k := k) (e := [some (dRow ("jump", [lbT to row])), some (.str to), some (.str "jump"), some (.ref m0)]) (S := S) (a := .var 2) (nm := "jump") ["swap", "addto"] (by decide) (b := false) (by decide +kernel) (er_var rfl)
    exact ⟨_, _, es_if_f (er_cmp (er_var rfl) (er_lit rfl) (c_str_f (by decide +kernel))) (es_nx (es_if_f (i1 _) (es_nx (es_if_f (i2 _) (es_nx (es_if_f (er_cmp (er_var rfl) (er_lit rfl) (c_str_f (by decide +kernel))) (es_nx (es_if_t (er_cmp (er_var rfl) (er_lit rfl) (c_str_t rfl)) (es_nx (es_asg (er_lst (er_cons (er_var rfl) er_nil) (Nat.le_of_ble_eq_true rfl)) rfl) es_skip)) es_skip)) es_skip)) es_skip)) es_skip), g_last, kp3⟩
  | tri nm hn a b c ha hb hc =>
    have hh : ¬ (nm = "set") ∧ ¬ nm ∈ (["load", "store"] : List Str) ∧ ¬ nm ∈ (["swap", "addto"] : List Str) ∧ ¬ (nm = "ifzero") ∧ ¬ (nm = "jump") ∧ ¬ nm ∈ (["fence", "gap", "stop"] : List Str) := by
      simp only [sums, List.mem_cons, List.not_mem_nil, or_false] at hn
      rcases hn with rfl | rfl | rfl | rfl | rfl <;> decide +kernel
    obtain ⟨n1, n2, n3, n4, n5, n6⟩ := hh
    have i1 := fun S => er_inL (q := q) (W := W) (k := k) (e := [some (dRow (nm, [rgT a, rgT b, rgT c])), some (.str to), some (.str nm), some (.ref m0)]) (S := S) (a := .var 2) ["load", "store"] (by decide) (decide_eq_false n2) (er_var rfl)
    have i2 := fun S => er_inL (q := q) (W := W) (k := k) (e := [some (dRow (nm, [rgT a, rgT b, rgT c])), some (.str to), some (.str nm), some (.ref m0)]) (S := S) (a := .var 2) ["swap", "addto"] (by decide) (decide_eq_false n3) (er_var rfl)
    have i3 := fun S => er_ninL (q := q) (W := W) (k := k) (e := [some (dRow (nm, [rgT a, rgT b, rgT c])), some (.str to), some (.str nm), some (.ref m0)]) (S := S) (a := .var 2) ["fence", "gap", "stop"] (by decide) (decide_eq_false n6) (er_var rfl)
    exact ⟨_, _, es_if_f (er_cmp (er_var rfl) (er_lit rfl) (c_str_f n1)) (es_nx (es_if_f (i1 _) (es_nx (es_if_f (i2 _) (es_nx (es_if_f (er_cmp (er_var rfl) (er_lit rfl) (c_str_f n4)) (es_nx (es_if_f (er_cmp (er_var rfl) (er_lit rfl) (c_str_f n5)) (es_nx (es_if_t (i3 _)
      (es_nx (es_asg (er_lst (er_cons (er_rg (j := 1) ha rfl rfl) (er_cons (er_rg (j := 2) hb rfl rfl) (er_cons (er_rg (j := 3) hc rfl rfl) er_nil))) (Nat.le_of_ble_eq_true rfl)) rfl) es_skip)) es_skip)) es_skip)) es_skip)) es_skip)) es_skip), g_last, kp4⟩
  | non nm hn =>
    have hh : ¬ (nm = "set") ∧ ¬ nm ∈ (["load", "store"] : List Str) ∧ ¬ nm ∈ (["swap", "addto"] : List Str) ∧ ¬ (nm = "ifzero") ∧ ¬ (nm = "jump") := by
      simp only [List.mem_cons, List.not_mem_nil, or_false] at hn
      rcases hn with rfl | rfl | rfl <;> decide +kernel
    obtain ⟨n1, n2, n3, n4, n5⟩ := hh
    have i1 := fun S => er_inL (q := q) (W := W) (k := k) (e := [some (dRow (nm, [])), some (.str to), some (.str nm), some (.ref m0)]) (S := S) (a := .var 2) ["load", "store"] (by decide) (decide_eq_false n2) (er_var rfl)
    have i2 := fun S => er_inL (q := q) (W := W) (k := k) (e := [some (dRow (nm, [])), some (.str to), some (.str nm), some (.ref m0)]) (S := S) (a := .var 2) ["swap", "addto"] (by decide) (decide_eq_false n3) (er_var rfl)
    have i3 := fun S => er_ninL (q := q) (W := W) (k := k) (e := [some (dRow (nm, [])), some (.str to), some (.str nm), some (.ref m0)]) (S := S) (a := .var 2) ["fence", "gap", "stop"] (by decide) (decide_eq_true hn) (er_var rfl)
    exact ⟨m0, _, es_if_f (er_cmp (er_var rfl) (er_lit rfl) (c_str_f n1)) (es_nx (es_if_f (i1 _) (es_nx (es_if_f (i2 _) (es_nx (es_if_f (er_cmp (er_var rfl) (er_lit rfl) (c_str_f n4)) (es_nx (es_if_f (er_cmp (er_var rfl) (er_lit rfl) (c_str_f n5)) (es_nx (es_if_f (i3 _) es_skip) es_skip)) es_skip)) es_skip)) es_skip)) es_skip), (kp3 (S := S)) _ _ (by simp) hm0, kp3⟩
end
end Tm

set_option Elab.async false
set_option linter.all false
set_option maxRecDepth 100000
set_option maxHeartbeats 8000000
namespace Tm
open PySem L2 TL
theorem join_mem {s c : Nat} : ∀ {ps : List (List Nat)}, c ∈ joinL [s] ps → c = s ∨ ∃ p ∈ ps, c ∈ p
  | [], h => by simp [joinL] at h
  | [p], h => .inr ⟨p, by simp, h⟩
  | p :: q :: r, h => by
    have h : c ∈ p ++ ([s] ++ joinL [s] (q :: r)) := h
    simp only [List.mem_append, List.mem_singleton] at h
    rcases h with h | h | h
    · exact .inr ⟨p, by simp, h⟩
    · exact .inl h
    · rcases join_mem h with h | ⟨u, hu, hc⟩
      · exact .inl h
      · exact .inr ⟨u, List.mem_cons_of_mem _ hu, hc⟩
theorem join_len {s B : Nat} : ∀ {ps : List (List Nat)}, (∀ p ∈ ps, p.length ≤ B) → (joinL [s] ps).length ≤ ps.length * (B + 1)
  | [], _ => by simp [joinL]
  | [p], h => by
    have := h p (by simp)
    show p.length ≤ 1 * (B + 1)
    omega
  | p :: q :: r, h => by
    have h1 := h p (by simp)
    have h2 := join_len (s := s) (ps := q :: r) (fun u hu => h u (List.mem_cons_of_mem _ hu))
    show (p ++ ([s] ++ joinL [s] (q :: r))).length ≤ _
    rw [List.length_append, List.length_append, List.length_cons (a := p), Nat.add_mul]
    simp only [List.length_singleton]
    omega
theorem tl_joinS (ys : List Str) (sep : Str) : tl (Txt.join sep ys) = joinL (tl sep) (ys.map tl) := by rw [join_eq, tl_join]
theorem tl_sp : tl (" " : Str) = [32] := by rfl
theorem tl_nl : tl ("\n" : Str) = [10] := by rfl
def AllC (x : Str) : Prop := (∀ d ∈ tl x, okc d) ∧ (tl x).length ≤ 12
theorem Nm.allc {x : Str} (h : Nm x) : AllC x := by obtain ⟨_, _, _, h1, _, h2⟩ := h; exact ⟨h2, h1⟩
theorem num_allc {n : Nat} (h : n < 100000) : AllC (numS n) := ⟨fun d hd => by rw [tl_numS] at hd; exact .inr (num_dg hd), by have := num_len h; omega⟩
theorem reg_allc {n : Nat} (h : n ≤ 7) : AllC ("r" ++ numS n) := by
  refine ⟨fun d hd => ?_, ?_⟩
  · rw [tl_append] at hd
    rcases List.mem_append.mp hd with hd | hd
    · have : d = 114 := by have t : tl ("r" : Str) = [114] := by rfl
                           rw [t] at hd; simpa using hd
      subst this; exact .inl (by unfold isSm; omega)
    · exact (num_allc (n := n) (by omega)).1 d hd
  · rw [tl_append, List.length_append]
    have := num_len (n := n) (by omega)
    have t : (tl ("r" : Str)).length = 1 := by rfl
    omega
theorem nms_allc : ∀ nm ∈ nms, AllC nm ∧ ¬ nm = "core" := by
  have : ∀ nm ∈ nms, ((tl nm).all (fun d => decide ((97 ≤ d ∧ d ≤ 122) ∨ (48 ≤ d ∧ d ≤ 57))) && decide ((tl nm).length ≤ 12) && !decide (nm = "core")) = true := by decide +kernel
  intro nm h
  have h := this nm h
  simp only [Bool.and_eq_true, List.all_eq_true, decide_eq_true_eq, Bool.not_eq_true', decide_eq_false_iff_not] at h
  exact ⟨⟨fun d hd => h.1.1 d hd, h.1.2⟩, h.2⟩
theorem allc_not {x : Str} (h : AllC x) {c : Nat} (hc : ¬ okc c) : c ∉ tl x := fun m => hc (h.1 c m)
theorem n58 : ¬ okc 58 := by unfold okc isSm isDg; omega
theorem n32 : ¬ okc 32 := by unfold okc isSm isDg; omega
theorem n10 : ¬ okc 10 := by unfold okc isSm isDg; omega
theorem Shp.nms {to : Str} {row : Nat} {nm : Str} {tr : List Tr} (h : Shp to row nm tr) : nm ∈ nms := by
  cases h with
  | set a w ha hw => decide +kernel
  | ifz a ha => decide +kernel
  | jump => decide +kernel
  | tri nm hn => simp only [sums, List.mem_cons, List.not_mem_nil, or_false] at hn; rcases hn with rfl | rfl | rfl | rfl | rfl <;> decide +kernel
  | mem nm hn => simp only [List.mem_cons, List.not_mem_nil, or_false] at hn; rcases hn with rfl | rfl <;> decide +kernel
  | quad nm hn => simp only [List.mem_cons, List.not_mem_nil, or_false] at hn; rcases hn with rfl | rfl <;> decide +kernel
  | non nm hn => simp only [List.mem_cons, List.not_mem_nil, or_false] at hn; rcases hn with rfl | rfl | rfl <;> decide +kernel
theorem Shp.part {to : Str} {row : Nat} {nm : Str} {tr : List Tr} (ht : (∃ t ∈ tr, t.2.1 = 116) → Nm to) (h : Shp to row nm tr) : tr.length ≤ 4 ∧ (∀ t ∈ tr, Part t.2.1 t.1 ∧ AllC t.1) ∧ ∃ z, lookK (kdK03 1) nm = some (.str z) ∧ tl z = tr.map (·.2.1) := by
  have R : ∀ {n : Nat}, n ≤ 7 → Part (rgT n).2.1 (rgT n).1 ∧ AllC (rgT n).1 := fun h => ⟨.r _ h, reg_allc h⟩
  have W : ∀ {n : Nat}, n ≤ 65535 → Part (wdT n).2.1 (wdT n).1 ∧ AllC (wdT n).1 := fun h => ⟨.w _ h, num_allc (by omega)⟩
  have L : Nm to → Part (lbT to row).2.1 (lbT to row).1 ∧ AllC (lbT to row).1 := fun h => ⟨.t h, h.allc⟩
  have fn : ∀ {p : Tr → Prop}, ∀ t ∈ ([] : List Tr), p t := fun t h => absurd h List.not_mem_nil
  have fc : ∀ {p : Tr → Prop} {a : Tr} {l : List Tr}, p a → (∀ t ∈ l, p t) → ∀ t ∈ a :: l, p t := fun h r => List.forall_mem_cons.2 ⟨h, r⟩
  cases h with
  | set a w ha hw => exact ⟨by simp, fc (R ha) (fc (W hw) fn), "rw", rfl, by rfl⟩
  | ifz a ha => exact ⟨by simp, fc (R ha) (fc (L (ht ⟨lbT to row, by simp, rfl⟩)) fn), "rt", rfl, by rfl⟩
  | jump => exact ⟨by simp, fc (L (ht ⟨lbT to row, by simp, rfl⟩)) fn, "t", rfl, by rfl⟩
  | tri nm hn a b c ha hb hc =>
    refine ⟨by simp, fc (R ha) (fc (R hb) (fc (R hc) fn)), "rrr", ?_, by rfl⟩
    simp only [sums, List.mem_cons, List.not_mem_nil, or_false] at hn; rcases hn with rfl | rfl | rfl | rfl | rfl <;> rfl
  | mem nm hn a b w ha hb hw =>
    refine ⟨by simp, fc (R ha) (fc (R hb) (fc (W hw) fn)), "rrw", ?_, by rfl⟩
    simp only [List.mem_cons, List.not_mem_nil, or_false] at hn; rcases hn with rfl | rfl <;> rfl
  | quad nm hn a b c w ha hb hc hw =>
    refine ⟨by simp, fc (R ha) (fc (R hb) (fc (R hc) (fc (W hw) fn))), "rrrw", ?_, by rfl⟩
    simp only [List.mem_cons, List.not_mem_nil, or_false] at hn; rcases hn with rfl | rfl <;> rfl
  | non nm hn =>
    refine ⟨by simp, fn, "", ?_, by rfl⟩
    simp only [List.mem_cons, List.not_mem_nil, or_false] at hn; rcases hn with rfl | rfl | rfl <;> rfl
theorem line_facts {nm : Str} {ts : List Str} (h0 : AllC nm) (hc : ¬ nm = "core") (h : ∀ t ∈ ts, AllC t) (hl : ts.length ≤ 4) : (58 : Nat) ∉ tl (Txt.join " " (nm :: ts)) ∧ (10 : Nat) ∉ tl (Txt.join " " (nm :: ts)) ∧ (∀ w ∈ nm :: ts, (32 : Nat) ∉ tl w) ∧ (tl (Txt.join " " (nm :: ts))).length ≤ 65 ∧ ¬ (Txt.join " " (nm :: ts) = "core") := by
  have all : ∀ w ∈ nm :: ts, AllC w := List.forall_mem_cons.2 ⟨h0, h⟩
  have no : ∀ c, ¬ okc c → c ≠ 32 → c ∉ tl (Txt.join " " (nm :: ts)) := fun c hc h3 m => by
    rw [tl_joinS, tl_sp] at m
    rcases join_mem m with m | ⟨p, hp, m⟩
    · exact h3 m
    · obtain ⟨w, hw, rfl⟩ := List.mem_map.mp hp
      exact allc_not (all w hw) hc m
  refine ⟨no 58 n58 (by omega), no 10 n10 (by omega), fun w hw => allc_not (all w hw) n32, ?_, fun e => ?_⟩
  · rw [tl_joinS, tl_sp]
    have := join_len (s := 32) (B := 12) (ps := (nm :: ts).map tl) (fun p hp => by obtain ⟨w, hw, rfl⟩ := List.mem_map.mp hp; exact (all w hw).2)
    simp only [List.length_map, List.length_cons] at this ⊢
    omega
  · have e2 := congrArg tl e
    rw [tl_joinS, tl_sp] at e2
    cases ts with
    | nil => exact hc (ext_tl e2)
    | cons t ts =>
      have m : (32 : Nat) ∈ joinL [32] ((nm :: t :: ts).map tl) := by
        show (32 : Nat) ∈ tl nm ++ ([32] ++ joinL [32] ((t :: ts).map tl))
        simp
      rw [e2] at m
      revert m
      decide +kernel
theorem Shp.ok {to : Str} {row : Nat} {nm : Str} {tr : List Tr} (ht : (∃ t ∈ tr, t.2.1 = 116) → Nm to) (h : Shp to row nm tr) : OkRow nm tr ∧ (10 : Nat) ∉ tl (Txt.join " " (nm :: tr.map (·.1))) ∧ (tl (Txt.join " " (nm :: tr.map (·.1)))).length ≤ 65 := by
  obtain ⟨p1, p2, p3⟩ := h.part ht
  obtain ⟨a1, a2⟩ := nms_allc nm h.nms
  obtain ⟨f1, f2, f3, f4, f5⟩ := line_facts a1 a2 (ts := tr.map (·.1)) (fun t hm => by obtain ⟨u, hu, rfl⟩ := List.mem_map.mp hm; exact (p2 u hu).2) (by simpa using p1)
  exact ⟨⟨p3, p1, fun t hm => (p2 t hm).1, f1, f3, by omega, f5⟩, f2, f4⟩
theorem Shp.val {to : Str} {row : Nat} {nm : Str} {tr : List Tr} {kvs : List (Key × D)} (ht : (∃ t ∈ tr, t.2.1 = 116) → valD kvs (.inr to) = some (.int (row : Int))) (h : Shp to row nm tr) : ∀ t ∈ tr, Val kvs t.2.1 t.1 t.2.2 := by
  have fn : ∀ {p : Tr → Prop}, ∀ t ∈ ([] : List Tr), p t := fun t h => absurd h List.not_mem_nil
  have fc : ∀ {p : Tr → Prop} {a : Tr} {l : List Tr}, p a → (∀ t ∈ l, p t) → ∀ t ∈ a :: l, p t := fun h r => List.forall_mem_cons.2 ⟨h, r⟩
  cases h with
  | set a w ha hw => exact fc (.r a ha) (fc (.w w hw) fn)
  | ifz a ha => exact fc (.r a ha) (fc (.t to _ (ht ⟨lbT to row, by simp, rfl⟩)) fn)
  | jump => exact fc (.t to _ (ht ⟨lbT to row, by simp, rfl⟩)) fn
  | tri nm hn a b c ha hb hc => exact fc (.r a ha) (fc (.r b hb) (fc (.r c hc) fn))
  | mem nm hn a b w ha hb hw => exact fc (.r a ha) (fc (.r b hb) (fc (.w w hw) fn))
  | quad nm hn a b c w ha hb hc hw => exact fc (.r a ha) (fc (.r b hb) (fc (.r c hc) (fc (.w w hw) fn)))
  | non nm hn => exact fn
theorem shp_of {nm to : Str} {row : Nat} (hm : nm ∈ nms) (h1 : ¬ nm = "ifzero") (h2 : ¬ nm = "jump") {i1 i2 i3 w g : Int} (a0 : 0 ≤ i1) (a1 : i1 < 8) (b0 : 0 ≤ i2) (b1 : i2 < 8) (c0 : 0 ≤ i3) (c1 : i3 < 8) (w0 : 0 ≤ w) (w1 : w < 65536) :
    ∃ tr, Shp to row nm tr ∧ tr.map (·.2.2) = shape nm i1 i2 i3 w g ∧ ∀ t ∈ tr, ¬ t.2.1 = 116 := by
  have e1 : (i1.toNat : Int) = i1 := Int.toNat_of_nonneg a0
  have e2 : (i2.toNat : Int) = i2 := Int.toNat_of_nonneg b0
  have e3 : (i3.toNat : Int) = i3 := Int.toNat_of_nonneg c0
  have e4 : (w.toNat : Int) = w := Int.toNat_of_nonneg w0
  have A : i1.toNat ≤ 7 := by omega
  have B : i2.toNat ≤ 7 := by omega
  have C' : i3.toNat ≤ 7 := by omega
  have W' : w.toNat ≤ 65535 := by omega
  have q1 : (rgT i1.toNat).2.2 = .int i1 := by show D.int _ = _; rw [e1]
  have q2 : (rgT i2.toNat).2.2 = .int i2 := by show D.int _ = _; rw [e2]
  have q3 : (rgT i3.toNat).2.2 = .int i3 := by show D.int _ = _; rw [e3]
  have q4 : (wdT w.toNat).2.2 = .int w := by show D.int _ = _; rw [e4]
  have r1 : ¬ (rgT i1.toNat).2.1 = 116 := by show ¬ (114 = 116); omega
  have r2 : ¬ (rgT i2.toNat).2.1 = 116 := by show ¬ (114 = 116); omega
  have r3 : ¬ (rgT i3.toNat).2.1 = 116 := by show ¬ (114 = 116); omega
  have r4 : ¬ (wdT w.toNat).2.1 = 116 := by show ¬ (119 = 116); omega
  have fn : ∀ {p : Tr → Prop}, ∀ t ∈ ([] : List Tr), p t := fun t h => absurd h List.not_mem_nil
  have fc : ∀ {p : Tr → Prop} {a : Tr} {l : List Tr}, p a → (∀ t ∈ l, p t) → ∀ t ∈ a :: l, p t := fun h r => List.forall_mem_cons.2 ⟨h, r⟩
  have T : ∀ nm, nm ∈ sums → shape nm i1 i2 i3 w g = [.int i1, .int i2, .int i3] → ∃ tr, Shp to row nm tr ∧ tr.map (·.2.2) = shape nm i1 i2 i3 w g ∧ ∀ t ∈ tr, ¬ t.2.1 = 116 := fun nm h e => ⟨_, .tri nm h _ _ _ A B C', by rw [e]; simp only [List.map_cons, List.map_nil, q1, q2, q3], fc r1 (fc r2 (fc r3 fn))⟩
  have M : ∀ nm, nm ∈ (["load", "store"] : List Str) → shape nm i1 i2 i3 w g = [.int i1, .int i2, .int w] → ∃ tr, Shp to row nm tr ∧ tr.map (·.2.2) = shape nm i1 i2 i3 w g ∧ ∀ t ∈ tr, ¬ t.2.1 = 116 := fun nm h e => ⟨_, .mem nm h _ _ _ A B W', by rw [e]; simp only [List.map_cons, List.map_nil, q1, q2, q4], fc r1 (fc r2 (fc r4 fn))⟩
  have Q4 : ∀ nm, nm ∈ (["swap", "addto"] : List Str) → shape nm i1 i2 i3 w g = [.int i1, .int i2, .int i3, .int w] → ∃ tr, Shp to row nm tr ∧ tr.map (·.2.2) = shape nm i1 i2 i3 w g ∧ ∀ t ∈ tr, ¬ t.2.1 = 116 := fun nm h e => ⟨_, .quad nm h _ _ _ _ A B C' W', by rw [e]; simp only [List.map_cons, List.map_nil, q1, q2, q3, q4], fc r1 (fc r2 (fc r3 (fc r4 fn)))⟩
  have N : ∀ nm, nm ∈ (["fence", "gap", "stop"] : List Str) → shape nm i1 i2 i3 w g = [] → ∃ tr, Shp to row nm tr ∧ tr.map (·.2.2) = shape nm i1 i2 i3 w g ∧ ∀ t ∈ tr, ¬ t.2.1 = 116 := fun nm h e => ⟨_, .non nm h, by rw [e]; rfl, fn⟩
  simp only [nms, List.mem_cons, List.not_mem_nil, or_false] at hm
  rcases hm with rfl | rfl | rfl | rfl | rfl | rfl | rfl | rfl | rfl | rfl | rfl | rfl | rfl | rfl | rfl <;> first
    | exact absurd rfl h1
    | exact absurd rfl h2
    | exact T _ (by decide +kernel) rfl
    | exact M _ (by decide +kernel) rfl
    | exact Q4 _ (by decide +kernel) rfl
    | exact N _ (by decide +kernel) rfl
    | exact ⟨_, .set _ _ A W', by simp only [List.map_cons, List.map_nil, q1, q4]; rfl, fc r1 (fc r4 fn)⟩
section
variable {q : Pr} (Q : HK q) {W : Nat}
include Q
theorem lawline_p (k : Nat) {S : Store} {nm to : Str} {row : Nat} {tr : List Tr} (ht : (∃ t ∈ tr, t.2.1 = 116) → Nm to) (h : Shp to row nm tr) : ∃ S', run q W (k + 1) 49 [dRow (nm, tr), .str to] S = some (.str (Txt.join " " (nm :: tr.map (·.1))), S') ∧ Kp [] S S' := by
  obtain ⟨p1, p2, _⟩ := h.part ht
  obtain ⟨a1, _⟩ := nms_allc nm h.nms
  obtain ⟨m, S1, c1, c2, c3⟩ := parts_p (q := q) (W := W) k (S := S ++ [O.lst []]) (m0 := S.length) g_last h
  have i0 : idxop (dRow (nm, tr)) (.int 0) S = some (.str nm) := i_tup (atN (n := 0) rfl)
  let S2 := S1 ++ [O.lst [.str nm]]
  have m2 : S2[m]? = some (.lst ((tr.map (·.1)).map D.str)) := Kp.push (A := []) _ _ (by simp) c2
  have ad : binop .add (.ref S1.length) (.ref m) S2 = some (.ref S2.length, S2 ++ [.lst ([.str nm] ++ (tr.map (·.1)).map D.str)]) := o_addL (g_last (S := S1)) m2 (by simp only [List.length_map, List.length_singleton]; rw [sizeLine_eq]; omega)
  have jn : mtop .join (.str " ") [.ref S2.length] (S2 ++ [.lst ([.str nm] ++ (tr.map (·.1)).map D.str)]) = some (.str (Txt.join " " (nm :: tr.map (·.1))), S2 ++ [.lst ([.str nm] ++ (tr.map (·.1)).map D.str)]) := by
    show (listAt _ S2.length).bind (fun xs => (strsD xs).bind fun ys => okI (decide ((ys.map (·.length)).sum + ys.length * (" " : Str).length ≤ 16777216)) (.str (Txt.join " " ys)) _) = _
    rw [l_last]
    show (strsD ((nm :: tr.map (·.1)).map D.str)).bind _ = _
    rw [strsD_map]
    show okI (decide ((((nm :: tr.map (·.1)).map (·.length)).sum + (nm :: tr.map (·.1)).length * (" " : Str).length) ≤ 16777216)) _ _ = _
    have b : ∀ l : List Tr, (∀ t ∈ l, AllC t.1) → ((l.map (·.1)).map (·.length)).sum ≤ 12 * l.length := by
      intro l
      induction l with
      | nil => intro _; simp
      | cons t r ih =>
        intro hh
        have h1 := (hh t (by simp)).2
        rw [← len_tl] at h1
        have h2 := ih (fun u hu => hh u (List.mem_cons_of_mem _ hu))
        simp only [List.map_cons, List.sum_cons, List.length_cons]
        omega
    have b1 := b tr (fun t hm => (p2 t hm).2)
    have b2 := a1.2
    rw [← len_tl] at b2
    have b3 : (" " : Str).length = 1 := by rfl
    rw [decide_eq_true (by simp only [List.map_cons, List.sum_cons, List.length_cons, List.length_map, b3]; omega)]; rfl
  refine ⟨S2 ++ [.lst ([.str nm] ++ (tr.map (·.1)).map D.str)], ?_, Kp.push.trans (c3.trans kp2)⟩
  refine' run_rt (e0 := [some _, some _, none, none]) Q.f49 rfl rfl ?h
  case h =>
    unfold b_49
    have cc := c1
    unfold b_49c at cc
    exact es_nx (es_asg (er_tup (er_cons (er_idx (er_var rfl) (er_lit rfl) i0) (er_cons (er_lst er_nil (Nat.le_of_ble_eq_true rfl)) er_nil)) (Nat.le_of_ble_eq_true rfl)) rfl)
      (es_nx cc (es_rt (es_ret (er_mt (er_lit rfl) (er_cons (er_bin (er_lst (er_cons (er_var rfl) er_nil) (Nat.le_of_ble_eq_true rfl)) (er_var rfl) ad) er_nil) rfl jn))))
end
end Tm

set_option Elab.async false
set_option linter.all false
set_option maxRecDepth 100000
set_option maxHeartbeats 8000000
namespace Tm
open PySem L2 TL
/-! ## the items of a drawn core -/
def atsOf (ms : List Mk) (t : Nat) : List Mk := ms.filter fun p => decide (p.2 = t)
def labsAt (ms : List Mk) (t : Nat) : List Itm := (atsOf ms t).map fun p => .lb p.1
def mk (ms : List Mk) : Nat → List (Str × List Tr) → List Itm
  | t, [] => labsAt ms t
  | t, r :: rs => labsAt ms t ++ .rw r.1 r.2 :: mk ms (t + 1) rs
def namesI : List Itm → List Str
  | [] => []
  | .lb x :: r => x :: namesI r
  | .rw _ _ :: r => namesI r
theorem namesI_app : ∀ a b : List Itm, namesI (a ++ b) = namesI a ++ namesI b
  | [], _ => rfl
  | .lb x :: r, b => by simp only [List.cons_append, namesI, namesI_app r b]
  | .rw _ _ :: r, b => by simp only [List.cons_append, namesI, namesI_app r b]
theorem namesI_labs (l : List Mk) : namesI (l.map fun p => Itm.lb p.1) = l.map (·.1) := by
  induction l with
  | nil => rfl
  | cons p r ih => simp only [List.map_cons, namesI, ih]
theorem rowsOf_labs (l : List Mk) : rowsOf (l.map fun p => Itm.lb p.1) = [] := by
  induction l with
  | nil => rfl
  | cons p r ih => simp only [List.map_cons, rowsOf, ih]
theorem labs_labs (l : List Mk) (m : Nat) : labs m (l.map fun p => Itm.lb p.1) = l.map fun p => (.inr p.1, .int (m : Int)) := by
  induction l with
  | nil => rfl
  | cons p r ih => simp only [List.map_cons, labs, ih]
theorem rowsOf_mk (ms : List Mk) : ∀ (rws : List (Str × List Tr)) (t : Nat), rowsOf (mk ms t rws) = rws
  | [], t => rowsOf_labs _
  | r :: rs, t => by
    show rowsOf (labsAt ms t ++ .rw r.1 r.2 :: mk ms (t + 1) rs) = r :: rs
    rw [rowsOf_app, show rowsOf (labsAt ms t) = [] from rowsOf_labs _, List.nil_append]
    show (r.1, r.2) :: rowsOf (mk ms (t + 1) rs) = r :: rs
    rw [rowsOf_mk ms rs (t + 1)]
theorem keys_labs : ∀ (its : List Itm) (m : Nat), (labs m its).map (·.1) = (namesI its).map Sum.inr
  | [], _ => rfl
  | .lb x :: r, m => by simp only [labs, namesI, List.map_cons, keys_labs r m]
  | .rw _ _ :: r, m => by simp only [labs, namesI, keys_labs r (m + 1)]
theorem valD_none {kvs : List (Key × D)} {k : Key} (h : k ∉ kvs.map (·.1)) : valD kvs k = none := by
  unfold valD
  rw [Option.map_eq_none_iff, List.find?_eq_none]
  intro kv hkv e
  exact h (List.mem_map.mpr ⟨kv, hkv, of_decide_eq_true e⟩)
theorem valD_some {kvs : List (Key × D)} {k : Key} {v : D} (hn : (kvs.map (·.1)).Nodup) (h : (k, v) ∈ kvs) : valD kvs k = some v := by
  induction kvs with
  | nil => cases h
  | cons p r ih =>
    simp only [List.map_cons, List.nodup_cons] at hn
    unfold valD
    rcases List.mem_cons.mp h with e | h
    · rw [← e]; simp [List.find?_cons]
    · have : ¬ p.1 = k := fun e => hn.1 (e ▸ List.mem_map.mpr ⟨(k, v), h, rfl⟩)
      rw [List.find?_cons, decide_eq_false this]
      exact ih hn.2 h
theorem mem_mk {ms : List Mk} {x : Str} : ∀ (rws : List (Str × List Tr)) (t : Nat), x ∈ namesI (mk ms t rws) → ∃ a, t ≤ a ∧ (x, a) ∈ ms
  | [], t, h => by
    have h : x ∈ namesI (labsAt ms t) := h
    unfold labsAt at h
    rw [namesI_labs] at h
    obtain ⟨p, hp, rfl⟩ := List.mem_map.mp h
    simp only [atsOf, List.mem_filter, decide_eq_true_eq] at hp
    exact ⟨p.2, by omega, hp.1⟩
  | r :: rs, t, h => by
    have h : x ∈ namesI (labsAt ms t ++ .rw r.1 r.2 :: mk ms (t + 1) rs) := h
    rw [namesI_app] at h
    rcases List.mem_append.mp h with h | h
    · unfold labsAt at h
      rw [namesI_labs] at h
      obtain ⟨p, hp, rfl⟩ := List.mem_map.mp h
      simp only [atsOf, List.mem_filter, decide_eq_true_eq] at hp
      exact ⟨p.2, by omega, hp.1⟩
    · obtain ⟨a, h1, h2⟩ := mem_mk rs (t + 1) h
      exact ⟨a, by omega, h2⟩
theorem inj_ms {ms : List Mk} (hn : (ms.map (·.1)).Nodup) {x : Str} {a b : Nat} (h1 : (x, a) ∈ ms) (h2 : (x, b) ∈ ms) : a = b := by
  induction ms with
  | nil => cases h1
  | cons p r ih =>
    simp only [List.map_cons, List.nodup_cons] at hn
    rcases List.mem_cons.mp h1 with e1 | h1 <;> rcases List.mem_cons.mp h2 with e2 | h2
    · rw [← e1] at e2; cases e2; rfl
    · exact absurd (List.mem_map.mpr ⟨(x, b), h2, by rw [← e1]⟩) hn.1
    · exact absurd (List.mem_map.mpr ⟨(x, a), h1, by rw [← e2]⟩) hn.1
    · exact ih hn.2 h1 h2
theorem nodup_mk {ms : List Mk} (hn : (ms.map (·.1)).Nodup) : ∀ (rws : List (Str × List Tr)) (t : Nat), (namesI (mk ms t rws)).Nodup
  | [], t => by
    show (namesI (labsAt ms t)).Nodup
    unfold labsAt
    rw [namesI_labs]
    exact List.Sublist.nodup (List.Sublist.map _ List.filter_sublist) hn
  | r :: rs, t => by
    show (namesI (labsAt ms t ++ .rw r.1 r.2 :: mk ms (t + 1) rs)).Nodup
    rw [namesI_app, List.nodup_append]
    refine ⟨?_, nodup_mk hn rs (t + 1), fun u hu v hv e => ?_⟩
    · unfold labsAt
      rw [namesI_labs]
      exact List.Sublist.nodup (List.Sublist.map _ List.filter_sublist) hn
    · subst e
      obtain ⟨a, h1, h2⟩ := mem_mk rs (t + 1) hv
      unfold labsAt at hu
      rw [namesI_labs] at hu
      obtain ⟨p, hp, rfl⟩ := List.mem_map.mp hu
      simp only [atsOf, List.mem_filter, decide_eq_true_eq] at hp
      have := inj_ms hn (a := p.2) hp.1 h2
      omega
theorem lookup_mk {ms : List Mk} {x : Str} {a : Nat} (h : (x, a) ∈ ms) : ∀ (rws : List (Str × List Tr)) (t : Nat), t ≤ a → a ≤ t + rws.length → (Sum.inr x, D.int (a : Int)) ∈ labs t (mk ms t rws)
  | [], t, h1, h2 => by
    have e : a = t := by simp at h2; omega
    subst e
    show _ ∈ labs a (labsAt ms a)
    unfold labsAt
    rw [labs_labs]
    exact List.mem_map.mpr ⟨(x, a), by simp [atsOf, h], rfl⟩
  | r :: rs, t, h1, h2 => by
    show _ ∈ labs t (labsAt ms t ++ .rw r.1 r.2 :: mk ms (t + 1) rs)
    rw [labs_app, show rowsOf (labsAt ms t) = [] from rowsOf_labs _]
    show _ ∈ labs t (labsAt ms t) ++ labs (t + 0 + 1) (mk ms (t + 1) rs)
    by_cases e : a = t
    · subst e
      refine List.mem_append.mpr (.inl ?_)
      unfold labsAt
      rw [labs_labs]
      exact List.mem_map.mpr ⟨(x, a), by simp [atsOf, h], rfl⟩
    · exact List.mem_append.mpr (.inr (lookup_mk h rs (t + 1) (by omega) (by simp at h2; omega)))
theorem okits_of : ∀ (its before : List Itm), (namesI (before ++ its)).Nodup → (∀ x ∈ namesI its, Nm x) → (∀ p ∈ rowsOf its, OkRow p.1 p.2) → (rowsOf (before ++ its)).length ≤ 40 → OkIts before its
  | [], _, _, _, _, _ => True.intro
  | .lb x :: r, before, h1, h2, h3, h4 => by
    have e : before ++ .lb x :: r = before ++ [.lb x] ++ r := by simp
    refine ⟨h2 x (by simp [namesI]), valD_none ?_, okits_of r _ (by rw [← e]; exact h1) (fun y hy => h2 y (by simp [namesI, hy])) h3 (by rw [← e]; exact h4)⟩
    rw [keys_labs]
    rw [namesI_app, List.nodup_append] at h1
    intro m
    obtain ⟨y, hy, ey⟩ := List.mem_map.mp m
    cases ey
    exact h1.2.2 x hy x (by simp [namesI]) rfl
  | .rw nm tr :: r, before, h1, h2, h3, h4 => by
    have e : before ++ .rw nm tr :: r = before ++ [.rw nm tr] ++ r := by simp
    have h5 := h4
    rw [rowsOf_app] at h5
    simp only [rowsOf, List.length_append, List.length_cons] at h5
    exact ⟨h3 (nm, tr) (by simp [rowsOf]), by omega, okits_of r _ (by rw [← e]; exact h1) h2 (fun p hp => h3 p (by simp [rowsOf, hp])) (by rw [← e]; exact h4)⟩
/-- what is drawn for a row -/
def RowD (ms : List Mk) (r : Str × List Tr) : Prop := ∃ to row, Shp to row r.1 r.2 ∧ ((∃ t ∈ r.2, t.2.1 = 116) → (to, row) ∈ ms)
theorem core_ok {ms : List Mk} {size : Nat} {rws : List (Str × List Tr)} (hm : OkMs size ms) (hl : rws.length = size) (hz : size ≤ 40) (h : ∀ r ∈ rws, RowD ms r) : OkIts [] (mk ms 0 rws) ∧ OkVals (mk ms 0 rws) ∧ ∀ w ∈ (mk ms 0 rws).map lineOf, (10 : Nat) ∉ tl w ∧ (tl w).length ≤ 65 := by
  have ro := rowsOf_mk ms rws 0
  have nd := nodup_mk hm.nd rws 0
  have nn : ∀ x ∈ namesI (mk ms 0 rws), Nm x := fun x hx => by
    obtain ⟨a, _, h2⟩ := mem_mk rws 0 hx
    exact (hm.nm _ h2).1
  have rk : ∀ p ∈ rws, OkRow p.1 p.2 ∧ (10 : Nat) ∉ tl (Txt.join " " (p.1 :: p.2.map (·.1))) ∧ (tl (Txt.join " " (p.1 :: p.2.map (·.1)))).length ≤ 65 := fun p hp => by
    obtain ⟨to, row, h1, h2⟩ := h p hp
    exact h1.ok fun z => (hm.nm _ (h2 z)).1
  refine ⟨okits_of _ [] nd nn (fun p hp => (rk p (by rw [ro] at hp; exact hp)).1) (by rw [List.nil_append, ro]; omega), fun p hp t ht => ?_, fun w hw => ?_⟩
  · rw [ro] at hp
    obtain ⟨to, row, h1, h2⟩ := h p hp
    refine h1.val (fun z => ?_) t ht
    have hmem := h2 z
    exact valD_some (by rw [keys_labs]; exact nd.map (f := Sum.inr) (fun _ _ hne e => hne (Sum.inr.inj e))) (lookup_mk hmem rws 0 (by omega) (by have := (hm.nm _ hmem).2; simp at this; omega))
  · obtain ⟨it, hi, rfl⟩ := List.mem_map.mp hw
    cases it with
    | lb x =>
      have hx : Nm x := nn x (by
        clear nn rk nd ro hw h
        generalize mk ms 0 rws = its at hi
        induction its with
        | nil => cases hi
        | cons a b ih =>
          rcases List.mem_cons.mp hi with e | hi2
          · rw [← e]; simp [namesI]
          · cases a with
            | lb y => simp only [namesI, List.mem_cons]; exact .inr (ih hi2)
            | rw u v => exact ih hi2)
      show (10 : Nat) ∉ tl (x ++ (":" : Str)) ∧ (tl (x ++ (":" : Str))).length ≤ 65
      rw [tl_append]
      have t1 : tl (":" : Str) = [58] := by rfl
      rw [t1]
      refine ⟨fun m => ?_, by rw [List.length_append]; have := hx.allc.2; simp only [List.length_singleton]; omega⟩
      rcases List.mem_append.mp m with m | m
      · exact allc_not hx.allc n10 m
      · simp at m
    | rw nm tr =>
      have hx : (nm, tr) ∈ rws := by
        rw [← ro]
        clear nn rk nd ro hw h
        generalize mk ms 0 rws = its at hi
        induction its with
        | nil => cases hi
        | cons a b ih =>
          rcases List.mem_cons.mp hi with e | hi2
          · rw [← e]; simp [rowsOf]
          · cases a with
            | lb y => exact ih hi2
            | rw u v => simp only [rowsOf, List.mem_cons]; exact .inr (ih hi2)
      exact (rk _ hx).2
end Tm

set_option Elab.async false
set_option linter.all false
set_option maxRecDepth 100000
set_option maxHeartbeats 8000000
namespace Tm
open PySem L2 TL
theorem kle {S S' : Store} (h : Kp [] S S') : S.length ≤ S'.length := by
  by_cases z : S.length = 0
  · omega
  · have := h.len0 (n := S.length - 1) (by omega)
    omega
theorem strOk_of {x : Str} (h : AllC x) : PyData.strOk x = true := by
  show x.cps.all (· < 0x110000) = true
  rw [← Array.all_toList, List.all_eq_true]
  intro c hc
  have := h.1 c hc
  unfold okc isSm isDg at this
  exact decide_eq_true (by omega)
theorem nw_mk {p : Mk} (h : Nm p.1) (h2 : p.2 ≤ 1000) : NW 1 102 (encM p) := by
  refine NW.tup (dp := 0) (w := 50) (ds := [.str p.1, .int p.2]) ?_
  intro d hd
  simp only [List.mem_cons, List.not_mem_nil, or_false] at hd
  rcases hd with rfl | rfl
  · exact NW.str (strOk_of h.allc) (by
      have := h.allc.2
      have e : (tl p.1).length = p.1.cps.size := by simp [tl]
      omega)
  · exact NW.int (by omega)
def names17 : List Str := ["set", "add", "sub", "and", "xor", "below", "load", "store", "swap", "addto", "fence", "ifzero", "ifzero", "jump", "jump", "gap", "stop"]
theorem n17 : ∀ x ∈ names17, x ∈ nms := by decide +kernel
def b_52a : St := (.asg (.nm 4) (.bin .add (.var 4) (.lc (.itv (.var 3)) (.tp 2 (.cons (.nm 10) (.cons (.nm 9) .nil))) (.cmp .eq (.var 9) (.var 6)) (.bin .add (.var 10) (.lit (.str ":"))) [10, 9])))
def b_52r : St := (.seq (.asg (.tp 2 (.cons (.nm 7) (.cons (.nm 8) .nil))) (.tup (.cons (.call 7 [0, 1, 2, 3] (.cons (.var 0) (.cons (.idx (.var 2) (.call 5 [0, 1] (.cons (.var 0) (.cons (.bi .len (.cons (.var 2) .nil)) .nil)) .nil)) (.cons (.lit (.int 8)) (.cons (.lit (.int 40)) .nil)))) .nil) (.cons (.lit (.str "")) .nil))))
  (.seq (.ifs (.and_ (.cmp .in_ (.idx (.var 7) (.lit (.int 0))) (.lst (.cons (.lit (.str "ifzero")) (.cons (.lit (.str "jump")) .nil)))) (.cmp .eq (.var 3) (.lst .nil))) (.seq (.asg (.nm 7) (.tup (.cons (.lit (.str "fence")) .nil)))
  .skip) .skip)
  (.seq (.ifs (.cmp .in_ (.idx (.var 7) (.lit (.int 0))) (.lst (.cons (.lit (.str "ifzero")) (.cons (.lit (.str "jump")) .nil)))) (.seq (.asg (.tp 2 (.cons (.nm 8) (.cons (.nm 9) .nil))) (.idx (.var 3) (.call 5 [0, 1] (.cons (.var 0) (.cons (.bi .len (.cons (.var 3) .nil)) .nil)) .nil)))
  (.seq (.asg (.nm 7) (.bin .add (.slc (.var 7) .absent (.neg (.lit (.int 1)))) (.tup (.cons (.var 9) .nil))))
  .skip)) .skip)
  (.seq (.drop (.app (.var 5) (.var 7)))
  (.seq (.drop (.app (.var 4) (.call 49 [0, 1] (.cons (.var 7) (.cons (.var 8) .nil)) .nil)))
  .skip)))))
def b_52l : St := (.seq b_52a (.seq (.ifs (.cmp .lt (.var 6) (.var 1)) b_52r .skip)
  .skip))
theorem er_slcT_to {q : Pr} {W k : Nat} {e : Env'} {S S1 S2 : Store} {a b : C} {xs : List D} {i : Int} {w : D × Store} (h1 : ev (pm q W k) a e S = some (.tup xs, S1)) (hb : isAbs b = false) (h2 : ev (pm q W k) b e S1 = some (.int i, S2)) (h3 : slcop (.tup xs) none (some i) S2 = some w) : ev (pm q W k) (.slc a .absent b) e S = some w := by
  have ha : isAbs C.absent = true := rfl
  simp only [ev, h1, Option.bind_some, part, ha, if_true, hb, Bool.false_eq_true, if_false, h2, h3]
abbrev E52 (a size nl m L R : Nat) (x6 x7 x8 x9 x10 : Option D) : Env' := [some (.ref a), some (.int size), some (.ref nl), some (.ref m), some (.ref L), some (.ref R), x6, x7, x8, x9, x10]
section
variable {q : Pr} (Q : HK q) {W : Nat}
include Q
theorem labels_p (k : Nat) {S : Store} {a size nl m L R t : Nat} {ls : List Str} {ms : List Mk} {x7 x8 x9 x10 : Option D} (hm : S[m]? = some (.lst (ms.map encM))) (hL : S[L]? = some (.lst (ls.map D.str))) (hl : ls.length + ms.length ≤ 5000) (hn : ∀ p ∈ ms, Nm p.1) :
    ∃ L' S', ex (pm q W k) b_52a (E52 a size nl m L R (some (.int t)) x7 x8 x9 x10) S = some (.nx, E52 a size nl m L' R (some (.int t)) x7 x8 x9 x10, S') ∧ S.length ≤ L' ∧ S'[L']? = some (.lst ((ls ++ (labsAt ms t).map lineOf).map D.str)) ∧ Kp [] S S' := by
  have ad : ∀ {x : Str} {S : Store}, Nm x → binop .add (.str x) (.str ":") S = some (.str (x ++ ":"), S) := fun h => o_addS3 (by
    have := h.allc.2
    have t1 : (tl (":" : Str)).length = 1 := by rfl
    omega)
  obtain ⟨S1, c1, c2, c3⟩ := er_lcF (q := q) (W := W) (k := k) (i := .itv (.var 3)) (a := .bin .add (.var 10) (.lit (.str ":"))) (b := .cmp .eq (.var 9) (.var 6)) (t := .tp 2 (.cons (.nm 10) (.cons (.nm 9) .nil))) (own := [10, 9]) (e := E52 a size nl m L R (some (.int t)) x7 x8 x9 x10) (S := S) (ds := ms) encM
    (fun p => if p.2 = t then some (.str (p.1 ++ ":")) else none) (itv_lst (er_var rfl) (l_lst hm)) (fun S2 h => chk_lst (l_lst hm) h) (by rw [sizeLine_eq]; omega) (fun p hp S2 hS => by
      refine ⟨E52 a size nl m L R (some (.int t)) x7 x8 (some (.int p.2)) (some (.str p.1)), rfl, ?_⟩
      by_cases e : p.2 = t
      · exact .inr ⟨.str (p.1 ++ ":"), S2, by rw [if_pos e], er_cmp (er_var rfl) (er_var rfl) (c_eq_t (by rw [e])), er_bin (er_var rfl) (er_lit rfl) (ad (hn p hp)), Kp.refl _ _⟩
      · exact .inl ⟨by rw [if_neg e], er_cmp (er_var rfl) (er_var rfl) (c_eq_f (by omega))⟩)
  have fm : ms.filterMap (fun p => if p.2 = t then some (D.str (p.1 ++ ":")) else none) = ((labsAt ms t).map lineOf).map D.str := by
    unfold labsAt atsOf
    rw [List.map_map, List.map_map]
    clear hm hl hn c3
    induction ms with
    | nil => rfl
    | cons p r ih =>
      by_cases e : p.2 = t
      · simp only [List.filterMap_cons, if_pos e, List.filter_cons, decide_eq_true e, List.map_cons, ih]; rfl
      · simp only [List.filterMap_cons, if_neg e, List.filter_cons, decide_eq_false e, ih]; rfl
  rw [fm] at c3
  have L1 : S1[L]? = some (.lst (ls.map D.str)) := c2 _ _ (by simp) hL
  have le : (labsAt ms t).length ≤ ms.length := by unfold labsAt atsOf; rw [List.length_map]; exact List.length_filter_le _ _
  have o := o_addL L1 c3 (by simp only [List.length_map]; rw [sizeLine_eq]; omega)
  refine ⟨S1.length, S1 ++ [.lst (ls.map D.str ++ ((labsAt ms t).map lineOf).map D.str)], ?_, kle c2, by rw [List.map_append]; exact g_last, c2.trans Kp.push⟩
  unfold b_52a
  exact es_asg (er_bin (er_var rfl) c1 o) rfl
end
end Tm

set_option Elab.async false
set_option linter.all false
set_option maxRecDepth 100000
set_option maxHeartbeats 8000000
namespace Tm
open PySem L2 TL
section
variable {q : Pr} (Q : HK q) {W : Nat}
include Q
theorem tail_p (k : Nat) {S : Store} {a size nl m L R : Nat} {ls : List Str} {rws : List (Str × List Tr)} {nm to : Str} {row : Nat} {tr : List Tr} {x6 x9 x10 : Option D} (hL : S[L]? = some (.lst (ls.map D.str))) (hR : S[R]? = some (.lst (rws.map dRow))) (hLR : L ≠ R) (l1 : ls.length < 5000) (l2 : rws.length < 2000)
    (ht : (∃ t ∈ tr, t.2.1 = 116) → Nm to) (h : Shp to row nm tr) :
    ∃ S', ex (pm q W (k + 1)) (.seq (.drop (.app (.var 5) (.var 7))) (.seq (.drop (.app (.var 4) (.call 49 [0, 1] (.cons (.var 7) (.cons (.var 8) .nil)) .nil))) .skip)) (E52 a size nl m L R x6 (some (dRow (nm, tr))) (some (.str to)) x9 x10) S = some (.nx, E52 a size nl m L R x6 (some (dRow (nm, tr))) (some (.str to)) x9 x10, S') ∧
      S'[L]? = some (.lst ((ls ++ [lineOf (.rw nm tr)]).map D.str)) ∧ S'[R]? = some (.lst ((rws ++ [(nm, tr)]).map dRow)) ∧ Kp [L, R] S S' := by
  let S1 := S.set R (.lst (rws.map dRow ++ [dRow (nm, tr)]))
  have r1 : S1[R]? = some (.lst (rws.map dRow ++ [dRow (nm, tr)])) := set_get hR
  have l3 : S1[L]? = some (.lst (ls.map D.str)) := by show (S.set R _)[L]? = _; rw [List.getElem?_set_ne hLR.symm]; exact hL
  obtain ⟨S2, a1, a2⟩ := lawline_p Q (W := W) k (S := S1) ht h
  have l4 := a2 _ _ (by simp) l3
  have r2 := a2 _ _ (by simp) r1
  refine ⟨S2.set L (.lst (ls.map D.str ++ [.str (Txt.join " " (nm :: tr.map (·.1)))])), ?_, by rw [List.map_append]; exact set_get l4, ?_, ?_⟩
  · exact es_nx (es_drop (er_app (er_var rfl) (er_var rfl) (push_at hR (by rw [List.length_map, sizeLine_eq]; omega)))) (es_nx (es_drop (er_appG (er_var rfl) (lst_ok (l_lst l3)) (er_call (er_cons (er_var rfl) (er_cons (er_var rfl) er_nil)) er_nil rfl a1) (push_at l4 (by rw [List.length_map, sizeLine_eq]; omega)))) es_skip)
  · rw [List.getElem?_set_ne hLR, List.map_append]; exact r2
  · exact ((Kp.set.more (by simp)).trans a2.nil).trans (Kp.set.more (by simp))
theorem rowstep_p (k : Nat) {S : Store} {a size nl m L R t : Nat} {c : Int} {ls : List Str} {rws : List (Str × List Tr)} {ms : List Mk} {x7 x8 x9 x10 : Option D} (hs : Spr S a c) (hc : c + 20 < 10 ^ 12) (hnl : S[nl]? = some (.lst (names17.map D.str))) (hm : S[m]? = some (.lst (ms.map encM))) (hL : S[L]? = some (.lst (ls.map D.str)))
    (hR : S[R]? = some (.lst (rws.map dRow))) (hLR : L ≠ R) (aL : a ≠ L) (aR : a ≠ R) (an : a ≠ nl) (am : a ≠ m) (l1 : ls.length < 5000) (l2 : rws.length < 2000) (ho : OkMs size ms) (hz : size ≤ 40) (hml : ms.length ≤ 82) :
    ∃ r S' y7 y8 y9, ex (pm q W (k + 4)) b_52r (E52 a size nl m L R (some (.int t)) x7 x8 x9 x10) S = some (.nx, E52 a size nl m L R (some (.int t)) y7 y8 y9 x10, S') ∧ RowD ms r ∧ S'[L]? = some (.lst ((ls ++ [lineOf (.rw r.1 r.2)]).map D.str)) ∧ S'[R]? = some (.lst ((rws ++ [r]).map dRow)) ∧ Spr S' a (c + 10) ∧ Kp [a, L, R] S S' := by
  obtain ⟨r1, S1, p1, l3, u3, s1, k1⟩ := pick_spec Q.f5 (W := W) (k + 3) hs (by omega) (show (0 : Int) < 17 by decide) (by unfold Sm; decide)
  have hx : ∃ x, atI (names17.map D.str) r1 = some (.str x) ∧ x ∈ nms := by
    have hj : r1.toNat < names17.length := by show r1.toNat < 17; omega
    refine ⟨names17[r1.toNat], at_pos l3 ?_, n17 _ (List.getElem_mem hj)⟩
    rw [List.getElem?_map, List.getElem?_eq_getElem hj]; rfl
  obtain ⟨nm0, x1, x2⟩ := hx
  have nl1 := k1 _ _ (by simp; exact an.symm) hnl
  obtain ⟨i1, i2, i3, w, g, S2, q1, a0, a1, b0, b1, c0, c1, w0, w1, g0, g1, s2, k2⟩ := instr_spec Q.f5 Q.f6 Q.f7 (W := W) (k + 1) s1 (by omega) (show (0 : Int) < 8 by decide) (by decide) (show (0 : Int) ≤ 40 by decide) (by decide) x2
  have K2 : Kp [a] S S2 := k1.trans k2
  have m2 := K2 _ _ (by simp; exact am.symm) hm
  have L2 := K2 _ _ (by simp; exact aL.symm) hL
  have R2 := K2 _ _ (by simp; exact aR.symm) hR
  have ln : biop .len [.ref nl] S = some (.int 17, S) := b_lenL (l_lst hnl)
  have first : ∀ x7 x8, ev (pm q W (k + 4)) (.tup (.cons (.call 7 [0, 1, 2, 3] (.cons (.var 0) (.cons (.idx (.var 2) (.call 5 [0, 1] (.cons (.var 0) (.cons (.bi .len (.cons (.var 2) .nil)) .nil)) .nil)) (.cons (.lit (.int 8)) (.cons (.lit (.int 40)) .nil)))) .nil) (.cons (.lit (.str "")) .nil))) (E52 a size nl m L R (some (.int t)) x7 x8 x9 x10) S = some (.tup [.tup (.str nm0 :: shape nm0 i1 i2 i3 w g), .str ""], S2) := fun x7 x8 =>
    er_tup (er_cons (er_call (er_cons (er_var rfl) (er_cons (er_idx (er_var rfl) (er_call (er_cons (er_var rfl) (er_cons (er_bi (er_cons (er_var rfl) er_nil) ln) er_nil)) er_nil rfl p1) (i_lst (l_lst nl1) x1)) (er_cons (er_lit rfl) (er_cons (er_lit rfl) er_nil)))) er_nil rfl q1) (er_cons (er_lit rfl) er_nil)) (Nat.le_of_ble_eq_true rfl)
  -- what follows, once the row and its label are known
  have fin : ∀ {nm to : Str} {row : Nat} {tr : List Tr} {S3 : Store} {c3 : Int} {y9 : Option D}, Kp [a] S2 S3 → Spr S3 a c3 → c3 ≤ c + 10 → ((∃ t ∈ tr, t.2.1 = 116) → (to, row) ∈ ms) → Shp to row nm tr →
      (∀ w, ex (pm q W (k + 4)) (.seq (.drop (.app (.var 5) (.var 7))) (.seq (.drop (.app (.var 4) (.call 49 [0, 1] (.cons (.var 7) (.cons (.var 8) .nil)) .nil))) .skip)) (E52 a size nl m L R (some (.int t)) (some (dRow (nm, tr))) (some (.str to)) y9 x10) S3 = some w → ex (pm q W (k + 4)) b_52r (E52 a size nl m L R (some (.int t)) x7 x8 x9 x10) S = some w) →
      ∃ r S' y7 y8 y9, ex (pm q W (k + 4)) b_52r (E52 a size nl m L R (some (.int t)) x7 x8 x9 x10) S = some (.nx, E52 a size nl m L R (some (.int t)) y7 y8 y9 x10, S') ∧ RowD ms r ∧ S'[L]? = some (.lst ((ls ++ [lineOf (.rw r.1 r.2)]).map D.str)) ∧ S'[R]? = some (.lst ((rws ++ [r]).map dRow)) ∧ Spr S' a (c + 10) ∧ Kp [a, L, R] S S' := by
    intro nm to row tr S3 c3 y9 k3 s3 hc3 ht h go
    obtain ⟨S4, t1, t2, t3, t4⟩ := tail_p Q (W := W) (k + 3) (a := a) (size := size) (nl := nl) (m := m) (x6 := some (.int t)) (x9 := y9) (x10 := x10) (k3 _ _ (by simp; exact aL.symm) L2) (k3 _ _ (by simp; exact aR.symm) R2) hLR l1 l2 (fun z => (ho.nm _ (ht z)).1) h
    exact ⟨(nm, tr), S4, _, _, _, go _ t1, ⟨to, row, h, ht⟩, t2, t3, (s3.kp t4 (by simp; exact ⟨aL, aR⟩)).le hc3, ((K2.trans k3).more (by simp)).trans (t4.more (by simp))⟩
  have it0 : ∀ {S : Store} {xs : List D} {nm : Str}, idxop (.tup (.str nm :: xs)) (.int 0) S = some (.str nm) := fun {S xs nm} => i_tup (atN (n := 0) rfl)
  by_cases hj : nm0 ∈ (["ifzero", "jump"] : List Str)
  · have T1 : ∀ {S : Store} {x8 x9 : Option D}, ev (pm q W (k + 4)) (.cmp .in_ (.idx (.var 7) (.lit (.int 0))) (.lst (litL ["ifzero", "jump"]))) (E52 a size nl m L R (some (.int t)) (some (.tup (.str nm0 :: shape nm0 i1 i2 i3 w g))) x8 x9 x10) S = some (.bl true, S ++ [.lst ((["ifzero", "jump"] : List Str).map D.str)]) := fun {S x8 x9} => er_inL ["ifzero", "jump"] (by decide) (decide_eq_true hj) (er_idx (er_var rfl) (er_lit rfl) it0)
    let S3 := S2 ++ [O.lst ((["ifzero", "jump"] : List Str).map D.str)]
    let S4 := S3 ++ [O.lst []]
    have m4 : S4[m]? = some (.lst (ms.map encM)) := (kp2 (S := S2)) _ _ (by simp) m2
    have en : cmpop .eq (.ref m) (.ref S3.length) S4 = some ms.isEmpty := by
      have := eq_nil (dp := 1) (w := 102) (l_lst m4) (l_lst (g_last (S := S3) (o := .lst []))) (fun d hd => by obtain ⟨p, hp, rfl⟩ := List.mem_map.mp hd; exact nw_mk (ho.nm p hp).1 (by have := (ho.nm p hp).2; omega)) (by decide) (by simp only [List.length_map]; omega)
      rw [this]; cases ms <;> rfl
    have C1 : ev (pm q W (k + 4)) (.and_ (.cmp .in_ (.idx (.var 7) (.lit (.int 0))) (.lst (litL ["ifzero", "jump"]))) (.cmp .eq (.var 3) (.lst .nil))) (E52 a size nl m L R (some (.int t)) (some (.tup (.str nm0 :: shape nm0 i1 i2 i3 w g))) (some (.str "")) x9 x10) S2 = some (.bl ms.isEmpty, S4) := er_and_t T1 (er_cmp (er_var rfl) (er_lst er_nil (Nat.le_of_ble_eq_true rfl)) en)
    by_cases he : ms = []
    · subst he
      let S5 := S4 ++ [O.lst ((["ifzero", "jump"] : List Str).map D.str)]
      have T2 : ev (pm q W (k + 4)) (.cmp .in_ (.idx (.var 7) (.lit (.int 0))) (.lst (litL ["ifzero", "jump"]))) (E52 a size nl m L R (some (.int t)) (some (.tup [.str "fence"])) (some (.str "")) x9 x10) S4 = some (.bl false, S5) := er_inL (nm := "fence") ["ifzero", "jump"] (by decide) (by decide +kernel) (er_idx (er_var rfl) (er_lit rfl) it0)
      refine fin (nm := "fence") (to := "") (row := 0) (tr := []) (S3 := S5) (y9 := x9) (kp3 (S := S2)).nil (s2.kp0 kp3) (by omega) (by rintro ⟨t, h, _⟩; cases h) (.non "fence" (by decide +kernel)) fun w hw => ?_
      unfold b_52r
      exact es_nx (es_asg (first _ _) rfl) (es_nx (es_if_t C1 (es_nx (es_asg (er_tup (er_cons (er_lit rfl) er_nil) (Nat.le_of_ble_eq_true rfl)) rfl) es_skip)) (es_nx (es_if_f T2 es_skip) hw))
    · have ee : ms.isEmpty = false := by cases ms with | nil => exact absurd rfl he | cons _ _ => rfl
      rw [ee] at C1
      let S5 := S4 ++ [O.lst ((["ifzero", "jump"] : List Str).map D.str)]
      have s5 : Spr S5 a (c + 8) := (s2.kp0 kp3).le (by omega)
      have mp : 0 < (ms.length : Int) := by cases ms with | nil => exact absurd rfl he | cons _ _ => simp only [List.length_cons]; omega
      have m5 : S5[m]? = some (.lst (ms.map encM)) := (kp3 (S := S2)) _ _ (by simp) m2
      obtain ⟨r2, S6, p2, l6, u6, s6, k6⟩ := pick_spec Q.f5 (W := W) (k + 3) s5 (by omega) (show (0 : Int) < (ms.length : Int) from mp) (by unfold Sm; omega)
      have m6 := k6 _ _ (by simp; exact am.symm) m5
      have hj2 : r2.toNat < ms.length := by omega
      obtain ⟨⟨x, at_⟩, hxa⟩ : ∃ p, p = ms[r2.toNat] := ⟨_, rfl⟩
      have mem : (x, at_) ∈ ms := by rw [hxa]; exact List.getElem_mem hj2
      have ix : atI (ms.map encM) r2 = some (encM (x, at_)) := at_pos l6 (by rw [List.getElem?_map, List.getElem?_eq_getElem hj2, ← hxa]; rfl)
      have lm : biop .len [.ref m] S5 = some (.int (ms.length : Int), S5) := by rw [b_lenL (l_lst m5)]; simp
      have C2 : ev (pm q W (k + 4)) (.idx (.var 3) (.call 5 [0, 1] (.cons (.var 0) (.cons (.bi .len (.cons (.var 3) .nil)) .nil)) .nil)) (E52 a size nl m L R (some (.int t)) (some (.tup (.str nm0 :: shape nm0 i1 i2 i3 w g))) (some (.str "")) x9 x10) S5 = some (encM (x, at_), S6) :=
        er_idx (er_var rfl) (er_call (er_cons (er_var rfl) (er_cons (er_bi (er_cons (er_var rfl) er_nil) lm) er_nil)) er_nil rfl p2) (i_lst (l_lst m6) ix)
      have K6 : Kp [a] S2 S6 := (kp3 (S := S2)).nil.trans k6
      have e1 : (i1.toNat : Int) = i1 := Int.toNat_of_nonneg a0
      simp only [List.mem_cons, List.not_mem_nil, or_false] at hj
      rcases hj with rfl | rfl
      · have sl : slcop (.tup (.str "ifzero" :: shape "ifzero" i1 i2 i3 w g)) none (some (-1)) S6 = some (.tup [.str "ifzero", .int i1], S6) := rfl
        have ad : binop .add (.tup [.str "ifzero", .int i1]) (.tup [.int (at_ : Int)]) S6 = some (dRow ("ifzero", [rgT i1.toNat, lbT x at_]), S6) := by
          rw [o_addT (Nat.le_of_ble_eq_true rfl)]
          show some (D.tup [.str "ifzero", .int i1, .int at_], S6) = some (D.tup [.str "ifzero", .int (i1.toNat : Int), .int at_], S6)
          rw [e1]
        refine fin (nm := "ifzero") (to := x) (row := at_) (tr := [rgT i1.toNat, lbT x at_]) (S3 := S6) (y9 := some (.int at_)) K6 s6 (by omega) (fun _ => mem) (.ifz _ (by omega)) fun w' hw => ?_
        unfold b_52r
        exact es_nx (es_asg (first _ _) rfl) (es_nx (es_if_f C1 es_skip) (es_nx (es_if_t T1 (es_nx (es_asg C2 rfl) (es_nx (es_asg (er_bin (er_slcT_to (er_var rfl) rfl (er_neg (er_lit rfl)) sl) (er_tup (er_cons (er_var rfl) er_nil) (Nat.le_of_ble_eq_true rfl)) ad) rfl) es_skip))) hw))
      · have sl : slcop (.tup (.str "jump" :: shape "jump" i1 i2 i3 w g)) none (some (-1)) S6 = some (.tup [.str "jump"], S6) := rfl
        have ad : binop .add (.tup [.str "jump"]) (.tup [.int (at_ : Int)]) S6 = some (dRow ("jump", [lbT x at_]), S6) := by
          rw [o_addT (Nat.le_of_ble_eq_true rfl)]; rfl
        refine fin (nm := "jump") (to := x) (row := at_) (tr := [lbT x at_]) (S3 := S6) (y9 := some (.int at_)) K6 s6 (by omega) (fun _ => mem) .jump fun w' hw => ?_
        unfold b_52r
        exact es_nx (es_asg (first _ _) rfl) (es_nx (es_if_f C1 es_skip) (es_nx (es_if_t T1 (es_nx (es_asg C2 rfl) (es_nx (es_asg (er_bin (er_slcT_to (er_var rfl) rfl (er_neg (er_lit rfl)) sl) (er_tup (er_cons (er_var rfl) er_nil) (Nat.le_of_ble_eq_true rfl)) ad) rfl) es_skip))) hw))
  · have T1 : ∀ {S : Store}, ev (pm q W (k + 4)) (.cmp .in_ (.idx (.var 7) (.lit (.int 0))) (.lst (litL ["ifzero", "jump"]))) (E52 a size nl m L R (some (.int t)) (some (.tup (.str nm0 :: shape nm0 i1 i2 i3 w g))) (some (.str "")) x9 x10) S = some (.bl false, S ++ [.lst ((["ifzero", "jump"] : List Str).map D.str)]) := fun {S} => er_inL ["ifzero", "jump"] (by decide) (decide_eq_false hj) (er_idx (er_var rfl) (er_lit rfl) it0)
    simp only [List.mem_cons, List.not_mem_nil, or_false, not_or] at hj
    obtain ⟨tr, h1, h2, h3⟩ := shp_of (to := "") (row := 0) x2 hj.1 hj.2 a0 a1 b0 b1 c0 c1 w0 w1 (g := g)
    have dr : D.tup (.str nm0 :: shape nm0 i1 i2 i3 w g) = dRow (nm0, tr) := by rw [← h2]; rfl
    refine fin (nm := nm0) (to := "") (row := 0) (tr := tr) (S3 := S2 ++ [O.lst ((["ifzero", "jump"] : List Str).map D.str)] ++ [O.lst ((["ifzero", "jump"] : List Str).map D.str)]) (y9 := x9) (kp2 (S := S2)).nil (s2.kp0 kp2) (by omega) (fun z => by obtain ⟨t, h, e⟩ := z; exact absurd e (h3 t h)) h1 fun w' hw => ?_
    rw [← dr] at hw
    unfold b_52r
    exact es_nx (es_asg (first _ _) rfl) (es_nx (es_if_f (er_and_f T1) es_skip) (es_nx (es_if_f T1 es_skip) hw))
end
end Tm

set_option Elab.async false
set_option linter.all false
set_option maxRecDepth 100000
set_option maxHeartbeats 8000000
namespace Tm
open PySem L2 TL
def RowN (p : Str × List Tr) : Prop := p.1 ∈ nms ∧ p.2.length ≤ 4 ∧ ∀ t ∈ p.2, NW 0 50 t.2.2
theorem Shp.rown {to : Str} {row : Nat} {p : Str × List Tr} (hr : (∃ t ∈ p.2, t.2.1 = 116) → row ≤ 1000) (h : Shp to row p.1 p.2) : RowN p := by
  obtain ⟨nm, tr⟩ := p
  have hn := h.nms
  have fn : ∀ {p : Tr → Prop}, ∀ t ∈ ([] : List Tr), p t := fun t h => absurd h List.not_mem_nil
  have fc : ∀ {p : Tr → Prop} {a : Tr} {l : List Tr}, p a → (∀ t ∈ l, p t) → ∀ t ∈ a :: l, p t := fun h r => List.forall_mem_cons.2 ⟨h, r⟩
  have I : ∀ {n : Nat}, n ≤ 65535 → NW 0 50 (.int (n : Int)) := fun h => NW.int (by omega)
  refine ⟨hn, ?_⟩
  simp only at h hr
  cases h with
  | set a w ha hw => exact ⟨by simp, fc (I (by omega)) (fc (I (by omega)) fn)⟩
  | ifz a ha => exact ⟨by simp, fc (I (by omega)) (fc (I (by have := hr ⟨lbT to row, by simp, rfl⟩; omega)) fn)⟩
  | jump => exact ⟨by simp, fc (I (by have := hr ⟨lbT to row, by simp, rfl⟩; omega)) fn⟩
  | tri nm hn a b c ha hb hc => exact ⟨by simp, fc (I (by omega)) (fc (I (by omega)) (fc (I (by omega)) fn))⟩
  | mem nm hn a b w ha hb hw => exact ⟨by simp, fc (I (by omega)) (fc (I (by omega)) (fc (I (by omega)) fn))⟩
  | quad nm hn a b c w ha hb hc hw => exact ⟨by simp, fc (I (by omega)) (fc (I (by omega)) (fc (I (by omega)) (fc (I (by omega)) fn)))⟩
  | non nm hn => exact ⟨by simp, fn⟩
section
variable {q : Pr} (Q : HK q) {W : Nat}
include Q
theorem coreloop_p (k : Nat) {S00 : Store} {a size nl m R : Nat} {ms : List Mk} (hnl : S00[nl]? = some (.lst (names17.map D.str))) (hm : S00[m]? = some (.lst (ms.map encM))) (aR : a ≠ R) (an : a ≠ nl) (am : a ≠ m) (ho : OkMs size ms) (hz : size ≤ 40) (hml : ms.length ≤ 82) (hR0 : S00.length ≤ R) (ha0 : a < S00.length) :
    ∀ (n t L : Nat) (S : Store) (c : Int) (ls : List Str) (rws : List (Str × List Tr)) (x6 x7 x8 x9 x10 : Option D), t + n = size → Spr S a c → c + 20 * n + 40 < 10 ^ 12 → S[L]? = some (.lst (ls.map D.str)) → S[R]? = some (.lst (rws.map dRow)) → L ≠ R → S00.length ≤ L → Kp [a] S00 S → ls.length + 90 * (n + 1) ≤ 4000 → ls.length ≤ 1 + 83 * t → rws.length = t →
    ∃ new L' S' y6 y7 y8 y9, forL (ex (pm q W (k + 4)) b_52l) (.nm 6) [] ((List.range' t (n + 1)).map fun (i : Nat) => D.int (i : Int)) (E52 a size nl m L R x6 x7 x8 x9 x10) S = some (.nx, E52 a size nl m L' R y6 y7 y8 y9 x10, S') ∧ new.length = n ∧ (∀ r ∈ new, RowD ms r) ∧ S'[L']? = some (.lst ((ls ++ (mk ms t new).map lineOf).map D.str)) ∧ S'[R]? = some (.lst ((rws ++ new).map dRow)) ∧ Spr S' a (c + 10 * n) ∧ Kp [a] S00 S' := by
  intro n
  induction n with
  | zero =>
    intro t L S c ls rws x6 x7 x8 x9 x10 htn hs hc hL hR hLR hL0 hK hl1 hl2 hr
    obtain ⟨L', S1, a1, a2, a3, a4⟩ := labels_p Q (W := W) (k + 4) (a := a) (size := size) (nl := nl) (R := R) (t := t) (x7 := x7) (x8 := x8) (x9 := x9) (x10 := x10) (hK _ _ (by simp; exact am.symm) hm) hL (by omega) (fun p hp => (ho.nm p hp).1)
    refine ⟨[], L', S1, some (.int t), x7, x8, x9, ?_, rfl, (by intro r h; cases h), a3, ?_, (hs.kp0 a4).le (by omega), hK.trans a4.nil⟩
    · have bd : ex (pm q W (k + 4)) b_52l (E52 a size nl m L R (some (.int t)) x7 x8 x9 x10) S = some (.nx, E52 a size nl m L' R (some (.int t)) x7 x8 x9 x10, S1) := by
        unfold b_52l
        exact es_nx a1 (es_nx (es_if_f (er_cmp (er_var rfl) (er_var rfl) (c_lt_f (by omega))) es_skip) es_skip)
      exact forL_nx rfl rfl bd (forL_nil rfl)
    · rw [List.append_nil]; exact a4 _ _ (by simp) hR
  | succ n ih =>
    intro t L S c ls rws x6 x7 x8 x9 x10 htn hs hc hL hR hLR hL0 hK hl1 hl2 hr
    push_cast at hc
    obtain ⟨L1, S1, a1, a2, a3, a4⟩ := labels_p Q (W := W) (k + 4) (a := a) (size := size) (nl := nl) (R := R) (t := t) (x7 := x7) (x8 := x8) (x9 := x9) (x10 := x10) (hK _ _ (by simp; exact am.symm) hm) hL (by omega) (fun p hp => (ho.nm p hp).1)
    have hK1 : Kp [a] S00 S1 := hK.trans a4.nil
    have hRS := (List.getElem?_eq_some_iff.mp hR).1
    have hS : S00.length ≤ S.length := by have := (List.getElem?_eq_some_iff.mp hL).1; omega
    have le : (labsAt ms t).length ≤ ms.length := by unfold labsAt atsOf; rw [List.length_map]; exact List.length_filter_le _ _
    obtain ⟨r, S2, y7, y8, y9, b1, b2, b3, b4, b5, b6⟩ := rowstep_p Q (W := W) k (size := size) (t := t) (x7 := x7) (x8 := x8) (x9 := x9) (x10 := x10) (hs.kp0 a4) (by omega) (hK1 _ _ (by simp; exact an.symm) hnl) (hK1 _ _ (by simp; exact am.symm) hm) a3 (a4 _ _ (by simp) hR) (by omega) (by omega) aR an am (by simp only [List.length_append, List.length_map]; omega) (by omega) ho hz hml
    obtain ⟨new, L', S', z6, z7, z8, z9, c1, c2, c3, c4, c5, c6, c7⟩ := ih (t + 1) L1 S2 (c + 10) (ls ++ (labsAt ms t).map lineOf ++ [lineOf (.rw r.1 r.2)]) (rws ++ [r]) (some (.int t)) y7 y8 y9 x10 (by omega) b5 (by omega) b3 b4 (by omega) (by omega)
      (hK1.fresh (b6.more (B := [a, L1, R]) (by simp)) |> fun h => Kp.cut hK1 b6 (by intro i hi; simp only [List.mem_cons, List.not_mem_nil, or_false] at hi; rcases hi with rfl | rfl | rfl <;> simp <;> omega)) (by simp only [List.length_append, List.length_map, List.length_singleton]; omega) (by simp only [List.length_append, List.length_map, List.length_singleton]; omega) (by simp; omega)
    refine ⟨r :: new, L', S', z6, z7, z8, z9, ?_, by simp [c2], List.forall_mem_cons.2 ⟨b2, c3⟩, ?_, ?_, c6.le (by push_cast; omega), c7⟩
    · have bd : ex (pm q W (k + 4)) b_52l (E52 a size nl m L R (some (.int t)) x7 x8 x9 x10) S = some (.nx, E52 a size nl m L1 R (some (.int t)) y7 y8 y9 x10, S2) := by
        unfold b_52l
        exact es_nx a1 (es_nx (es_if_t (er_cmp (er_var rfl) (er_var rfl) (c_lt_t (by omega))) b1) es_skip)
      rw [List.range'_succ, List.map_cons]
      exact forL_nx rfl rfl bd c1
    · rw [c4]
      show _ = some (O.lst ((ls ++ (labsAt ms t ++ .rw r.1 r.2 :: mk ms (t + 1) new).map lineOf).map D.str))
      simp
    · rw [c5]; simp
theorem lawcore_p (k : Nat) {S : Store} {a size : Nat} {c : Int} (hs : Spr S a c) (hc : c + 3000 < 10 ^ 12) (hz : size ≤ 40) :
    ∃ (its : List Itm) (n L : Nat) (nms' : D) (S' : Store), run q W (k + 5) 52 [.ref a, .int size] S = some (.ref n, S') ∧ S.length ≤ n ∧ S'[n]? = some (.lst [.ref L, dCore its, nms']) ∧ L ≠ n ∧ S'[L]? = some (.lst ((block its).map D.str)) ∧ OkIts [] its ∧ its.length ≤ 5000 ∧ OkVals its ∧ (∀ w ∈ block its, (10 : Nat) ∉ tl w ∧ (tl w).length ≤ 65) ∧
      (rowsOf its).length ≤ 40 ∧ (∀ p ∈ rowsOf its, RowN p) ∧ Spr S' a (c + 1400) ∧ Kp [a] S S' := by
  have al := hs.lt
  let n13 : List Str := ["set", "add", "sub", "and", "xor", "below", "load", "store", "swap", "addto", "fence", "ifzero", "ifzero"]
  let n4 : List Str := ["jump", "jump", "gap", "stop"]
  let S1 := S ++ [O.lst (n13.map D.str)]
  let S2 := S1 ++ [O.lst (n4.map D.str)]
  let S3 := S2 ++ [O.lst (names17.map D.str)]
  have lS1 : S1.length = S.length + 1 := by simp [S1]
  have lS2 : S2.length = S.length + 2 := by simp [S2, lS1]
  have lS3 : S3.length = S.length + 3 := by simp [S3, lS2]
  have ad : binop .add (.ref S.length) (.ref S1.length) S2 = some (.ref S2.length, S3) := by
    have := o_addL (S := S2) (m := S.length) (n := S1.length) (xs := n13.map D.str) (ys := n4.map D.str) (Kp.push (A := []) _ _ (by simp) (g_last (S := S))) (g_last (S := S1)) (by decide)
    exact this
  have s3 : Spr S3 a c := hs.push.push.push
  obtain ⟨ms, S4, m1, m2, m3, m4, m5, m6⟩ := marks_p Q (W := W) (k + 1) (size := size) s3 (by omega) hz
  have l4 : S3.length ≤ S4.length := by have := (List.getElem?_eq_some_iff.mp m4).1; omega
  have nl4 : S4[S2.length]? = some (.lst (names17.map D.str)) := m6 _ _ (by simp; omega) (g_last (S := S2))
  let S5 := S4 ++ [O.lst [.str "core"]]
  let S6 := S5 ++ [O.lst []]
  have lS5 : S5.length = S4.length + 1 := by simp [S5]
  have ml4 := (List.getElem?_eq_some_iff.mp m4).1
  obtain ⟨new, L', S7, y6, y7, y8, y9, c1, c2, c3, c4, c5, c6, c7⟩ := coreloop_p Q (W := W) k (S00 := S4) (a := a) (size := size) (nl := S2.length) (m := S3.length) (R := S5.length) nl4 m4 (by omega) (by omega) (by omega) m2 hz m3 (by omega) (by omega) size 0 S4.length S6 (c + 820) ["core"] [] none none none none none (by omega) m5.push.push (by omega)
    (Kp.push (A := []) _ _ (by simp) (g_last (S := S4))) (g_last (S := S5)) (by omega) (Nat.le_refl _) (Kp.push.trans Kp.push) (by simp; omega) (by simp) rfl
  have ck := core_ok m2 (rws := new) c2 hz c3
  have ro := rowsOf_mk ms new 0
  have t7 : biop .tuple [.ref S5.length] S7 = some (dCore (mk ms 0 new), S7) := by
    rw [b_tupL (l_lst c5)]; show some (D.tup _, S7) = some (D.tup _, S7); rw [ro]; rfl
  have m7 : S7[S3.length]? = some (.lst (ms.map encM)) := c7 _ _ (by simp; omega) m4
  have e52 : ∀ y, (E52 a size S2.length S3.length L' S5.length y6 y7 y8 y9 y).length = 11 := fun _ => rfl
  obtain ⟨S8, d1, d2, d3⟩ := er_lcG (q := q) (W := W) (k := k + 4) (i := .itv (.var 3)) (a := .var 10) (t := .tp 2 (.cons (.nm 10) (.cons (.nm 9) .nil))) (own := [10, 9]) (e := E52 a size S2.length S3.length L' S5.length y6 y7 y8 y9 none) (S := S7) (ds := ms) encM (fun p => .str p.1)
    (itv_lst (er_var rfl) (l_lst m7)) (fun S h => chk_lst (l_lst m7) h) (by rw [sizeLine_eq]; omega) (fun p hp S hS => ⟨E52 a size S2.length S3.length L' S5.length y6 y7 y8 (some (.int p.2)) (some (.str p.1)), S, rfl, er_var rfl, Kp.refl _ _⟩)
  have K48 : Kp [a] S S8 := (((Kp.push.trans Kp.push).trans Kp.push).trans m6).trans (c7.trans d2.nil)
  have L8 : S8[L']? = some (.lst ((block (mk ms 0 new)).map D.str)) := d2 _ _ (by simp) c4
  have l8 := (List.getElem?_eq_some_iff.mp L8).1
  have hlen7 : S.length ≤ S7.length := by have := (List.getElem?_eq_some_iff.mp m7).1; omega
  have rg : ev (pm q W (k + 4)) (.irng (.cons (.bin .add (.var 1) (.lit (.int 1))) .nil)) (E52 a size S2.length S3.length S4.length S5.length none none none none none) S6 = some (itD ((List.range' 0 (size + 1)).map fun (i : Nat) => D.int (i : Int)) [], S6) := by
    rw [← List.range_eq_range']
    exact er_rng (er_cons (er_bin (er_var rfl) (er_lit rfl) (by rw [o_add]; push_cast; rfl)) er_nil) (by omega)
  have lts : (mk ms 0 new).length ≤ 5000 := by
    have : ∀ (rws : List (Str × List Tr)) (t : Nat), (mk ms t rws).length ≤ (rws.length + 1) * (ms.length + 1) := by
      intro rws
      induction rws with
      | nil => intro t; show (labsAt ms t).length ≤ _; unfold labsAt atsOf; rw [List.length_map]; have := List.length_filter_le (fun p : Mk => decide (p.2 = t)) ms; simp; omega
      | cons r rs ih =>
        intro t
        show (labsAt ms t ++ .rw r.1 r.2 :: mk ms (t + 1) rs).length ≤ _
        have h1 := ih (t + 1)
        have h2 : (labsAt ms t).length ≤ ms.length := by unfold labsAt atsOf; rw [List.length_map]; exact List.length_filter_le _ _
        rw [List.length_append, List.length_cons, List.length_cons, Nat.succ_mul (rs.length + 1)]
        omega
    have h1 := this new 0
    have h2 : (new.length + 1) * (ms.length + 1) ≤ 41 * 83 := Nat.mul_le_mul (by omega) (by omega)
    omega
  refine ⟨mk ms 0 new, S8.length, L', .ref S7.length, S8 ++ [.lst [.ref L', dCore (mk ms 0 new), .ref S7.length]], ?_, by have := kle (S := S7) d2; omega, g_last, by omega, Kp.push (A := []) _ _ (by simp) L8, ck.1, lts, ck.2.1, ?_, by rw [ro]; omega, ?_, ?_, K48.trans Kp.push⟩
  · refine' run_rt (e0 := [some _, some _, none, none, none, none, none, none, none, none, none]) Q.f52 rfl rfl ?h
    case h =>
      unfold b_52
      have cc := c1
      unfold b_52l b_52a b_52r at cc
      exact es_nx (es_asg (er_lst (er_litL n13) (by decide)) rfl) (es_nx (es_asg (er_bin (er_var rfl) (er_lst (er_litL n4) (by decide)) ad) rfl)
        (es_nx (es_asg (er_tup (er_cons (er_call (er_cons (er_var rfl) (er_cons (er_var rfl) er_nil)) er_nil rfl m1) (er_cons (er_lst (er_cons (er_lit rfl) er_nil) (Nat.le_of_ble_eq_true rfl)) (er_cons (er_lst er_nil (Nat.le_of_ble_eq_true rfl)) er_nil))) (Nat.le_of_ble_eq_true rfl)) rfl)
        (es_nx (es_for rg cc) (es_rt (es_ret (er_lst (er_cons (er_var rfl) (er_cons (er_bi (er_cons (er_var rfl) er_nil) t7) (er_cons d1 er_nil))) (Nat.le_of_ble_eq_true rfl)))))))
  · intro w hw
    rcases List.mem_cons.mp hw with rfl | hw
    · exact ⟨by decide +kernel, by decide +kernel⟩
    · exact ck.2.2 w hw
  · intro p hp
    rw [ro] at hp
    obtain ⟨to, row, h1, h2⟩ := c3 p hp
    exact h1.rown fun z => by have := (m2.nm _ (h2 z)).2; omega
  · exact (c6.kp0 d2).push.le (by have : ((size : Nat) : Int) ≤ 40 := by omega
                                  omega)
end
end Tm

set_option Elab.async false
set_option linter.all false
set_option maxRecDepth 100000
set_option maxHeartbeats 8000000
namespace Tm
open PySem L2 TL
theorem Kp.set_newA {A : List Nat} {S0 S : Store} {n : Nat} {o : O} (h : Kp A S0 S) (hn : S0.length ≤ n) : Kp A S0 (S.set n o) := fun i u x e => by
  have := (List.getElem?_eq_some_iff.mp e).1
  rw [List.getElem?_set_ne (by omega)]
  exact h i u x e
theorem Spr.setN {S : Store} {a n : Nat} {c : Int} {o : O} (h : Spr S a c) (hn : n ≠ a) : Spr (S.set n o) a c := h.kp (A := [n]) Kp.set (by simp; exact fun z => hn z.symm)
/-- a comprehension whose items draw -/
theorem lcD {α β : Type} {cnd elt : Env' → Store → Option (D × Store)} {t : Tg} {w : Env'} {cks : List D} {n a : Nat} {S0 : Store} (N B : Int) (h : α → D) (enc : β → D) (R : α → β → Prop) (hck : ∀ S, Kp [a] S0 S → chks S cks = true) (hn : S0.length ≤ n) (ha : a < S0.length) :
    ∀ (l : List α) (acc : List D) (S : Store) (c : Int),
    (∀ x ∈ l, ∀ S c, Spr S a c → c + N ≤ B → Kp [a] S0 S → ∃ e1 b S2, bindT t (h x) S w = some e1 ∧ cnd e1 S = some (.bl true, S) ∧ elt e1 S = some (enc b, S2) ∧ R x b ∧ Spr S2 a (c + N) ∧ Kp [a] S S2) →
    Spr S a c → 0 ≤ N → c + N * (l.length : Int) ≤ B → S[n]? = some (.lst acc) → Kp [a] S0 S → acc.length + l.length ≤ sizeLine →
    ∃ bs S', lcL cnd elt t cks w n (l.map h) S = some S' ∧ bs.length = l.length ∧ (∀ p ∈ l.zip bs, R p.1 p.2) ∧ S'[n]? = some (.lst (acc ++ bs.map enc)) ∧ Spr S' a (c + N * (l.length : Int)) ∧ Kp [a] S0 S' := by
  intro l
  induction l with
  | nil => intro acc S c _ h1 hN h2 h3 h4 _; exact ⟨[], S, by simp only [List.map_nil, lcL, hck S h4, if_true], rfl, (by intro p hp; simp at hp), by simpa using h3, by simpa using h1, h4⟩
  | cons x l ih =>
    intro acc S c hs h1 hN h2 h3 h4 h5
    have hm : N * ((x :: l).length : Int) = N + N * (l.length : Int) := by rw [List.length_cons]; push_cast; rw [Int.mul_add, Int.mul_one]; omega
    rw [hm] at h2 ⊢
    have hNl : 0 ≤ N * (l.length : Int) := Int.mul_nonneg hN (by omega)
    obtain ⟨e1, b, S2, g1, g2, g3, g4, g5, g6⟩ := hs x List.mem_cons_self S c h1 (by omega) h4
    have hna : n ≠ a := by omega
    have h3' := g6 n _ (by simp; exact hna) h3
    simp only [List.length_cons] at h5
    obtain ⟨bs, S', k1, k2, k3, k4, k5, k6⟩ := ih (acc ++ [enc b]) (S2.set n (.lst (acc ++ [enc b]))) (c + N) (fun y hy => hs y (List.mem_cons_of_mem _ hy)) (g5.setN hna) hN (by omega) (set_get h3') ((h4.trans g6).set_newA hn) (by simp; omega)
    refine ⟨b :: bs, S', ?_, by simp [k2], ?_, by rw [k4]; simp, by rw [← Int.add_assoc]; exact k5, k6⟩
    · simp only [List.map_cons, lcL, hck S h4, if_true, g1, g2, g3, Option.bind_some, push_at h3' (show acc.length < sizeLine by omega)]; exact k1
    · intro p hp
      rw [List.zip_cons_cons] at hp
      rcases List.mem_cons.mp hp with rfl | hp
      · exact g4
      · exact k3 p hp
theorem er_lcD {α β : Type} {q : Pr} {W k : Nat} {i el : C} {t : Tg} {own : List Nat} {e : Env'} {S S1 : Store} {l : List α} {cks : List D} {a : Nat} {c : Int} (N B : Int) (h : α → D) (enc : β → D) (R : α → β → Prop) (h1 : ev (pm q W k) i e S = some (itD (l.map h) cks, S1)) (hck : ∀ S, Kp [a] S1 S → chks S cks = true)
    (step : ∀ x ∈ l, ∀ S c, Spr S a c → c + N ≤ B → Kp [a] S1 S → ∃ e1 b S2, bindT t (h x) S (wipeE e own) = some e1 ∧ ev (pm q W k) el e1 S = some (enc b, S2) ∧ R x b ∧ Spr S2 a (c + N) ∧ Kp [a] S S2)
    (hs : Spr S1 a c) (hN : 0 ≤ N) (hB : c + N * (l.length : Int) ≤ B) (hl : l.length ≤ sizeLine) :
    ∃ bs S', ev (pm q W k) (.lc i t (.lit (.bl true)) el own) e S = some (.ref S1.length, S') ∧ bs.length = l.length ∧ (∀ p ∈ l.zip bs, R p.1 p.2) ∧ S'[S1.length]? = some (.lst (bs.map enc)) ∧ Spr S' a (c + N * (l.length : Int)) ∧ Kp [a] S1 S' := by
  obtain ⟨bs, S', k1, k2, k3, k4, k5, k6⟩ := lcD (cnd := ev (pm q W k) (.lit (.bl true))) (elt := ev (pm q W k) el) (t := t) (w := wipeE e own) (n := S1.length) (S0 := S1) N B h enc R hck (Nat.le_refl _) hs.lt l [] (S1 ++ [.lst []]) c
    (fun x hx S c h1 h2 h3 => by obtain ⟨e1, b, S2, g1, g2, g3⟩ := step x hx S c h1 h2 h3; exact ⟨e1, b, S2, g1, er_lit rfl, g2, g3⟩) hs.push hN hB g_last Kp.push (by simpa using hl)
  exact ⟨bs, S', er_lc h1 k1, k2, k3, by simpa using k4, k5, k6⟩
structure Good (cores : List (List Itm)) : Prop where
  ne : cores ≠ []
  l4 : cores.length ≤ 4
  ok : ∀ c ∈ cores, OkIts [] c ∧ c.length ≤ 5000 ∧ OkVals c
  ln : ∀ w ∈ cores.flatMap block, (10 : Nat) ∉ tl w ∧ (tl w).length ≤ 65
  rw : ∀ c ∈ cores, (rowsOf c).length ≤ 40 ∧ ∀ p ∈ rowsOf c, RowN p
theorem flat_len {cores : List (List Itm)} (h : ∀ c ∈ cores, c.length ≤ 5000) : (cores.flatMap block).length ≤ 5001 * cores.length := by
  induction cores with
  | nil => simp
  | cons c cs ih =>
    have h1 := h c (by simp)
    have h2 := ih fun d hd => h d (List.mem_cons_of_mem _ hd)
    rw [List.flatMap_cons, List.length_append, List.length_cons]
    have : (block c).length = c.length + 1 := by simp [block]
    omega
theorem Good.len {cores : List (List Itm)} (h : Good cores) : (tl (text cores)).length ≤ 10000000 ∧ (((cores.flatMap block).map (·.length)).sum + (cores.flatMap block).length * 1 ≤ 16777216) := by
  have h1 := flat_len fun c hc => (h.ok c hc).2.1
  have h2 := h.l4
  constructor
  · unfold text
    rw [tl_joinS, tl_nl]
    have := join_len (s := 10) (B := 65) (ps := (cores.flatMap block).map tl) (fun p hp => by obtain ⟨w, hw, rfl⟩ := List.mem_map.mp hp; exact (h.ln w hw).2)
    rw [List.length_map] at this
    omega
  · have b : ∀ l : List Str, (∀ w ∈ l, (tl w).length ≤ 65) → (l.map (·.length)).sum ≤ 65 * l.length := by
      intro l
      induction l with
      | nil => intro _; simp
      | cons t r ih =>
        intro hh
        have h1 := hh t (by simp)
        rw [← len_tl] at h1
        have h2 := ih (fun u hu => hh u (List.mem_cons_of_mem _ hu))
        simp only [List.map_cons, List.sum_cons, List.length_cons]
        omega
    have := b _ fun w hw => (h.ln w hw).2
    omega
theorem rep40 (n : Nat) : (List.replicate n [D.int 40]).flatten = (List.replicate n 40).map fun (i : Nat) => D.int (i : Int) := by
  induction n with
  | zero => rfl
  | succ n ih => rw [List.replicate_succ, List.flatten_cons, ih]; rfl
abbrev nI (i : Nat) : D := .int (i : Int)
structure Szs (zs : List Nat) : Prop where
  l1 : 1 ≤ zs.length
  l4 : zs.length ≤ 4
  le : ∀ z ∈ zs, z ≤ 40
def b_53l : St := (.seq (.asg (.tp 3 (.cons (.nm 5) (.cons (.nm 6) (.cons (.nm 7) .nil)))) (.call 52 [0, 1] (.cons (.var 0) (.cons (.var 4) .nil)) .nil))
  (.seq (.asg (.nm 2) (.bin .add (.var 2) (.var 5)))
  (.seq (.drop (.app (.var 3) (.var 6)))
  .skip)))
section
variable {q : Pr} (Q : HK q) {W : Nat}
include Q
theorem drawloop_p (k : Nat) {S00 : Store} {a p B : Nat} {zs0 : List Nat} (hp : S00[p]? = some (.lst (zs0.map nI))) (pa : p ≠ a) (aB : a ≠ B) (hB0 : S00.length ≤ B) : ∀ (zs : List Nat) (L : Nat) (S : Store) (c : Int) (done : List (List Itm)) (x4 x5 x6 x7 x8 : Option D), (∀ z ∈ zs, z ≤ 40) → done.length + zs.length ≤ 4 → Spr S a c → c + 3000 * zs.length + 3000 < 10 ^ 12 →
    S[L]? = some (.lst ((done.flatMap block).map D.str)) → S[B]? = some (.lst (done.map dCore)) → L ≠ B → L ≠ a → Kp [a] S00 S → (∀ c ∈ done, OkIts [] c ∧ c.length ≤ 5000 ∧ OkVals c) → (∀ w ∈ done.flatMap block, (10 : Nat) ∉ tl w ∧ (tl w).length ≤ 65) → (∀ c ∈ done, (rowsOf c).length ≤ 40 ∧ ∀ p ∈ rowsOf c, RowN p) →
    ∃ (cores : List (List Itm)) (L' : Nat) (S' : Store) (y4 y5 y6 y7 : Option D), forL (ex (pm q W (k + 5)) b_53l) (.nm 4) [.tup [.ref p, .tup (zs0.map nI)]] (zs.map nI) [some (.ref a), some (.ref p), some (.ref L), some (.ref B), x4, x5, x6, x7, x8] S = some (.nx, [some (.ref a), some (.ref p), some (.ref L'), some (.ref B), y4, y5, y6, y7, x8], S') ∧ cores.length = done.length + zs.length ∧
      S'[L']? = some (.lst ((cores.flatMap block).map D.str)) ∧ S'[B]? = some (.lst (cores.map dCore)) ∧ Spr S' a (c + 3000 * zs.length) ∧ Kp [a] S00 S' ∧ (∀ c ∈ cores, OkIts [] c ∧ c.length ≤ 5000 ∧ OkVals c) ∧ (∀ w ∈ cores.flatMap block, (10 : Nat) ∉ tl w ∧ (tl w).length ≤ 65) ∧ (∀ c ∈ cores, (rowsOf c).length ≤ 40 ∧ ∀ p ∈ rowsOf c, RowN p) := by
  intro zs
  induction zs with
  | nil =>
    intro L S c done x4 x5 x6 x7 x8 _ _ hs _ hL hB _ _ hK h1 h2 h3
    exact ⟨done, L, S, x4, x5, x6, x7, forL_nil (chk_lst (lst_keep hK (l_lst hp) pa) (Kp.refl [] S)), rfl, hL, hB, by simpa using hs, hK, h1, h2, h3⟩
  | cons z zs ih =>
    intro L S c done x4 x5 x6 x7 x8 hz hl hs hc hL hB hLB hLa hK h1 h2 h3
    simp only [List.length_cons] at hl hc
    push_cast at hc
    obtain ⟨its, n, L1, nm1, S1, a1, a2, a3, a4, a5, a6, a7, a8, a9, a10, a11, a12, a13⟩ := lawcore_p Q (W := W) k (size := z) hs (by omega) (hz z (by simp))
    have hBS := (List.getElem?_eq_some_iff.mp hB).1
    have L2 := a13 _ _ (by simp; exact hLa) hL
    have B2 := a13 _ _ (by simp; exact aB.symm) hB
    have hS1B := (List.getElem?_eq_some_iff.mp B2).1
    have fl := flat_len (cores := done ++ [its]) (fun c hc => by
      rcases List.mem_append.mp hc with hc | hc
      · exact (h1 c hc).2.1
      · simp only [List.mem_singleton] at hc; subst hc; exact a7)
    rw [List.flatMap_append, List.length_append, List.length_append] at fl
    simp only [List.flatMap_cons, List.flatMap_nil, List.append_nil, List.length_singleton] at fl
    have ad := o_addL L2 a5 (by simp only [List.length_map]; rw [sizeLine_eq]; omega)
    have B3 : (S1 ++ [O.lst ((done.flatMap block).map D.str ++ (block its).map D.str)])[B]? = some (.lst (done.map dCore)) := Kp.push (A := []) _ _ (by simp) B2
    have pu := push_at (d := dCore its) B3 (by rw [List.length_map, sizeLine_eq]; omega)
    let S2 := (S1 ++ [O.lst ((done.flatMap block).map D.str ++ (block its).map D.str)]).set B (.lst (done.map dCore ++ [dCore its]))
    have fm : ∀ {α : Type} (f : Str → α), ((done ++ [its]).flatMap block).map f = (done.flatMap block).map f ++ (block its).map f := fun f => by rw [List.flatMap_append, List.map_append]; simp
    have L3 : S2[S1.length]? = some (.lst (((done ++ [its]).flatMap block).map D.str)) := by
      show ((S1 ++ [_]).set B _)[S1.length]? = _
      rw [List.getElem?_set_ne (by omega), fm]; exact g_last
    have B4 : S2[B]? = some (.lst ((done ++ [its]).map dCore)) := by rw [List.map_append]; exact set_get B3
    have hK2 : Kp [a] S00 S2 := Kp.cut (hK.trans (a13.trans Kp.push)) (Kp.set (a := B)) (by intro i hi; simp only [List.mem_singleton] at hi; subst hi; exact .inr hB0)
    have s2 : Spr S2 a (c + 3000) := ((a12.push).setN aB.symm).le (by omega)
    obtain ⟨cores, L', S', y4, y5, y6, y7, g1, g2, g3, g4, g5, g6, g7, g8, g9⟩ := ih S1.length S2 (c + 3000) (done ++ [its]) (some (.int z)) (some (.ref L1)) (some (dCore its)) (some nm1) x8 (fun u hu => hz u (List.mem_cons_of_mem _ hu)) (by simp; omega) s2 (by omega) L3 B4 (by omega) (by have := a12.lt; omega) hK2
      (fun c hc => by
        rcases List.mem_append.mp hc with hc | hc
        · exact h1 c hc
        · simp only [List.mem_singleton] at hc; subst hc; exact ⟨a6, a7, a8⟩)
      (fun w hw => by
        rw [List.flatMap_append] at hw
        rcases List.mem_append.mp hw with hw | hw
        · exact h2 w hw
        · exact a9 w (by simpa using hw))
      (fun c hc => by
        rcases List.mem_append.mp hc with hc | hc
        · exact h3 c hc
        · simp only [List.mem_singleton] at hc; subst hc; exact ⟨a10, a11⟩)
    refine ⟨cores, L', S', y4, y5, y6, y7, ?_, by rw [g2]; simp only [List.length_append, List.length_cons, List.length_nil]; omega, g3, g4, g5.le (by simp only [List.length_cons]; push_cast; omega), g6, g7, g8, g9⟩
    rw [List.map_cons]
    refine forL_nx (chk_lst (lst_keep hK (l_lst hp) pa) (Kp.refl [] S)) rfl ?_ g1
    unfold b_53l
    have bd : bindT (.tp 3 (.cons (.nm 5) (.cons (.nm 6) (.cons (.nm 7) .nil)))) (.ref n) S1 [some (.ref a), some (.ref p), some (.ref L), some (.ref B), some (.int z), x5, x6, x7, x8] = some [some (.ref a), some (.ref p), some (.ref L), some (.ref B), some (.int z), some (.ref L1), some (dCore its), some nm1, x8] := by
      show (listAt S1 n).bind _ = _
      rw [l_lst a3]; rfl
    exact es_nx (es_asg (er_call (er_cons (er_var rfl) (er_cons (er_var rfl) er_nil)) er_nil rfl a1) bd) (es_nx (es_asg (er_bin (er_var rfl) (er_var rfl) ad) rfl) (es_nx (es_drop (er_app (er_var rfl) (er_var rfl) pu)) es_skip))
end
end Tm

set_option Elab.async false
set_option linter.all false
set_option maxRecDepth 100000
set_option maxHeartbeats 8000000
namespace Tm
open PySem L2
local macro_rules | `(tactic| walk_at "sm") => `(tactic| first | assumption | (unfold Sm; first | omega | decide))
local macro_rules | `(tactic| walk_at "in") => `(tactic| first | assumption | omega | decide)
local macro_rules | `(tactic| walk_at "lst") => `(tactic| first | assumption | exact l_last | exact l_lst (by assumption) | exact l_ro (by assumption) | exact l_lst (set_get (by assumption)))
local macro_rules | `(tactic| walk_at "op") => `(tactic| first
  | with_reducible exact o_add
  | with_reducible exact o_sub
  | ((with_reducible refine' o_addT ?h); (case h => first | assumption | exact Nat.le_of_ble_eq_true rfl))
  | with_reducible exact o_band
  | with_reducible exact o_bxor
  | with_reducible exact o_band
  | with_reducible exact o_bxor
  | ((with_reducible refine' o_mod ?h); (case h => walk_at "in"))
  | ((with_reducible refine' o_div ?h ?g); (case h => walk_at "in"); (case g => walk_at "sm"))
  | ((with_reducible refine' o_mul ?h ?g); (case h => walk_at "sm"); (case g => walk_at "sm"))
  | ((with_reducible refine' o_pow ?h ?g); (case h => walk_at "in"); (case g => decide)))
local macro_rules | `(tactic| walk_at "cmp") => `(tactic| first
  | with_reducible assumption
  | with_reducible exact c_isN
  | with_reducible exact c_isnN
  | with_reducible exact c_isT
  | with_reducible exact c_isnT
  | with_reducible exact c_isB
  | ((with_reducible refine' c_eq_t ?h); (case h => walk_at "in"))
  | ((with_reducible refine' c_lt_t ?h); (case h => walk_at "in"))
  | ((with_reducible refine' c_gt_t ?h); (case h => walk_at "in"))
  | ((with_reducible refine' c_ne_t ?h); (case h => walk_at "in"))
  | ((with_reducible refine' c_le_t ?h); (case h => walk_at "in"))
  | ((with_reducible refine' c_ge_t ?h); (case h => walk_at "in"))
  | ((with_reducible refine' c_eq_f ?h); (case h => walk_at "in"))
  | ((with_reducible refine' c_lt_f ?h); (case h => walk_at "in"))
  | ((with_reducible refine' c_gt_f ?h); (case h => walk_at "in"))
  | ((with_reducible refine' c_ne_f ?h); (case h => walk_at "in"))
  | ((with_reducible refine' c_le_f ?h); (case h => walk_at "in"))
  | ((with_reducible refine' c_ge_f ?h); (case h => walk_at "in"))
  | ((with_reducible refine' c_str_t ?h); (case h => with_reducible exact rfl))
  | ((with_reducible refine' c_str_f ?h); (case h => first | assumption | decide))
  | ((with_reducible refine' c_strn_f ?h); (case h => with_reducible exact rfl))
  | ((with_reducible refine' c_strn_t ?h); (case h => first | assumption | decide))
  | ((with_reducible refine' c_in (t := true) ?h ?g ?f ?e); (case h => walk_at "lst"); (case g => exact rfl); (case f => exact rfl); (case e => first | assumption | decide))
  | ((with_reducible refine' c_in (t := false) ?h ?g ?f ?e); (case h => walk_at "lst"); (case g => exact rfl); (case f => exact rfl); (case e => first | assumption | decide))
  | ((with_reducible refine' c_inT (t := true) ?g ?f ?e); (case g => exact rfl); (case f => exact rfl); (case e => first | assumption | decide))
  | ((with_reducible refine' c_inT (t := false) ?g ?f ?e); (case g => exact rfl); (case f => exact rfl); (case e => first | assumption | decide))
  | ((with_reducible refine' c_ninT (t := true) ?g ?f ?e); (case g => exact rfl); (case f => exact rfl); (case e => first | assumption | decide))
  | ((with_reducible refine' c_ninT (t := false) ?g ?f ?e); (case g => exact rfl); (case f => exact rfl); (case e => first | assumption | decide))
  | ((with_reducible refine' c_nin (t := true) ?h ?g ?f ?e); (case h => walk_at "lst"); (case g => exact rfl); (case f => exact rfl); (case e => first | assumption | decide))
  | ((with_reducible refine' c_nin (t := false) ?h ?g ?f ?e); (case h => walk_at "lst"); (case g => exact rfl); (case f => exact rfl); (case e => first | assumption | decide)))
local macro_rules | `(tactic| walk_at "bi") => `(tactic| first | with_reducible assumption | ((with_reducible refine' b_tupL ?h); (case h => walk_at "lst")) | with_reducible exact b_int | with_reducible exact b_bool | with_reducible exact b_abs | with_reducible exact b_max | with_reducible exact b_min | with_reducible exact b_lenT | ((with_reducible refine' b_lenL ?h); (case h => walk_at "lst")) | with_reducible apply_assumption)
local macro_rules | `(tactic| walk_at "pick") => `(tactic| first | with_reducible exact pk1 | with_reducible exact pk2 | with_reducible exact pk3 | with_reducible exact pk4 | with_reducible exact pk5 | with_reducible exact pn1 | with_reducible exact pn2 | with_reducible exact pn3)
local macro_rules | `(tactic| walk_at "call") => `(tactic| first | with_reducible assumption | with_reducible apply_assumption)
local macro_rules | `(tactic| walk_at "ev") => `(tactic| first
  | (with_reducible assumption)
  | ((with_reducible refine' er_env ?he ?h); (case h => with_reducible assumption); (case he => exact rfl))
  | (with_reducible exact er_nil)
  | ((with_reducible refine' er_glob ?h); (case h => assumption))
  | ((with_reducible refine' er_lit ?h); (case h => exact rfl))
  | ((with_reducible refine' er_var ?h); (case h => exact rfl))
  | ((with_reducible refine' er_cons ?h1 ?h2); (case h1 => walk_at "ev"); (case h2 => walk_at "ev"))
  | ((with_reducible refine' er_tup ?h1 ?h2); (case h1 => walk_at "ev"); (case h2 => exact Nat.le_of_ble_eq_true rfl))
  | ((with_reducible refine' er_lst ?h1 ?h2); (case h1 => walk_at "ev"); (case h2 => exact Nat.le_of_ble_eq_true rfl))
  | ((with_reducible refine' er_neg ?h1); (case h1 => walk_at "ev"))
  | ((with_reducible refine' er_isty ?h1 ?h2); (case h1 => walk_at "ev"); (case h2 => first | exact rfl | exact ty_ref (by walk_at "lst")))
  | ((with_reducible refine' er_chain_t ?h1 ?h2 ?h3 ?h4 ?h5); (case h1 => walk_at "ev"); (case h2 => walk_at "ev"); (case h3 => walk_at "cmp"); (case h4 => walk_at "ev"); (case h5 => walk_at "cmp"))
  | ((with_reducible refine' er_slc_to ?h1 ?h2 ?h3 ?h4); (case h1 => walk_at "ev"); (case h2 => exact rfl); (case h3 => walk_at "ev"); (case h4 => first | assumption | omega))
  | ((with_reducible refine' er_slc_from ?h1 ?h2 ?h3 ?h4); (case h1 => walk_at "ev"); (case h2 => exact rfl); (case h3 => walk_at "ev"); (case h4 => first | assumption | omega))
  | ((with_reducible refine' er_app ?h1 ?h2 ?h3); (case h1 => walk_at "ev"); (case h2 => walk_at "ev"); (case h3 => exact push_at (by assumption) (by assumption)))
  | ((with_reducible refine' er_callv ?h1 ?h2 ?h3 ?h4); (case h1 => walk_at "ev"); (case h2 => walk_at "ev"); (case h3 => assumption); (case h4 => walk_at "call"))
  | ((with_reducible refine' er_bin ?h1 ?h2 ?h3); (case h1 => walk_at "ev"); (case h2 => walk_at "ev"); (case h3 => walk_at "op"))
  | ((with_reducible refine' er_idx ?h1 ?h2 ?h3); (case h1 => walk_at "ev"); (case h2 => walk_at "ev"); (case h3 => first | exact i_tup (by first | assumption | rfl) | exact i_lst (by walk_at "lst") (by first | assumption | rfl)))
  | ((with_reducible refine' er_call ?h1 ?h2 ?h3 ?h4); (case h1 => walk_at "ev"); (case h2 => walk_at "ev"); (case h3 => walk_at "pick"); (case h4 => walk_at "call"))
  | ((with_reducible refine' er_bi ?h1 ?h2); (case h1 => walk_at "ev"); (case h2 => walk_at "bi"))
  | ((with_reducible refine' er_cmp ?h1 ?h2 ?h3); (case h1 => walk_at "ev"); (case h2 => walk_at "ev"); (case h3 => walk_at "cmp"))
  | ((with_reducible refine' er_nots ?h1 ?h2); (case h1 => walk_at "ev"); (case h2 => first | exact Neg.t | exact Neg.f))
  | ((with_reducible refine' er_ors ?h1 ?h2); (case h1 => walk_at "ev"); (case h2 => first | exact ors_t | ((with_reducible refine' ors_f ?h3); (case h3 => walk_at "ev"))))
  | ((with_reducible refine' er_ands ?h1 ?h2); (case h1 => walk_at "ev"); (case h2 => first | exact ands_f | ((with_reducible refine' ands_t ?h3); (case h3 => walk_at "ev"))))
  | ((with_reducible refine' er_br ?h1 ?h2); (case h1 => walk_at "ev"); (case h2 => first | ((with_reducible refine' bre_t ?h3); (case h3 => walk_at "ev")) | ((with_reducible refine' bre_f ?h3); (case h3 => walk_at "ev")))))
local macro_rules | `(tactic| walk_at "ex") => `(tactic| first
  | ((with_reducible refine' es_skip2 ?h1 ?h2); (case h1 => exact rfl); (case h2 => exact rfl))
  | ((with_reducible refine' es_sq ?h1 ?h2); (case h1 => walk_at "ex"); (case h2 => first | exact nxt_rt | exact nxt_bk | exact nxt_ct | ((with_reducible refine' nxt_nx ?h3); (case h3 => walk_at "ex"))))
  | ((with_reducible refine' es_ret ?h1); (case h1 => walk_at "ev"))
  | ((with_reducible refine' es_asg ?h1 ?h2); (case h1 => walk_at "ev"); (case h2 => exact rfl))
  | ((with_reducible refine' es_seti ?h1 ?h2 ?h3 ?h4); (case h1 => walk_at "ev"); (case h2 => walk_at "ev"); (case h3 => walk_at "ev"); (case h4 => exact s_set (by first | assumption | exact set_get (by assumption)) rfl))
  | ((with_reducible refine' es_drop ?h1); (case h1 => walk_at "ev"))
  | ((with_reducible refine' es_br ?h1 ?h2); (case h1 => walk_at "ev"); (case h2 => first | ((with_reducible refine' brs_t ?h3); (case h3 => walk_at "ex")) | ((with_reducible refine' brs_f ?h3); (case h3 => walk_at "ex")))))


def b_4l : St := (.seq (.asg (.nm 3) (.bin .mod (.bi .int (.cons (.bin .add (.bin .mul (.var 3) (.lit (.int 524287))) (.bin .mod (.bi .int (.cons (.var 4) .nil)) (.bin .add (.bin .pow (.lit (.int 10)) (.lit (.int 18))) (.lit (.int 9))))) .nil)) (.bin .sub (.bin .pow (.lit (.int 2)) (.lit (.int 61))) (.lit (.int 1)))))
  .skip)
theorem spring_loop {q : Pr} {W k : Nat} {S : Store} {cks : List D} (hc : chks S cks = true) {v0 v1 v2 : Option D} : ∀ (ns : List Int) (m : Int) (x4 : Option D), 0 ≤ m → m < 2 ^ 61 →
    ∃ m' x4', forL (ex (pm q W k) b_4l) (.nm 4) cks (ns.map D.int) [v0, v1, v2, some (.int m), x4] S = some (.nx, [v0, v1, v2, some (.int m'), x4'], S) ∧ 0 ≤ m' ∧ m' < 2 ^ 61
  | [], m, x4, h0, h1 => ⟨m, x4, forL_nil hc, h0, h1⟩
  | n :: ns, m, x4, h0, h1 => by
    have w3 : 0 < (10 : Int) ^ (18 : Int).toNat + 9 := by decide
    have w4 : 0 < (2 : Int) ^ (61 : Int).toNat - 1 := by decide
    have w5 : Sm m := by unfold Sm; omega
    have w6 := Int.emod_nonneg (m * 524287 + n % ((10 : Int) ^ (18 : Int).toNat + 9)) (show (2 : Int) ^ (61 : Int).toNat - 1 ≠ 0 by decide)
    have w7 : (m * 524287 + n % ((10 : Int) ^ (18 : Int).toNat + 9)) % ((2 : Int) ^ (61 : Int).toNat - 1) < 2 ^ 61 := Int.lt_trans (Int.emod_lt_of_pos _ w4) (by decide)
    obtain ⟨m', x4', he, k0, k1⟩ := spring_loop (q := q) (W := W) (k := k) hc (v0 := v0) (v1 := v1) (v2 := v2) ns _ (some (.int n)) w6 w7
    exact ⟨m', x4', forL_nx hc rfl (by unfold b_4l; walk_at "ex") he, k0, k1⟩
theorem spring_spec {q : Pr} (h4 : q.fs 4 = some (2, 5, b_4)) {W k : Nat} {S : Store} {ns : List Int} {i : Int} (hS : S[0]? = some (.ro (ns.map D.int))) (hi : 0 ≤ i ∧ i < 100) :
    ∃ u m, run q W (k + 1) 4 [.ref 0, .int i] S = some (.ref S.length, S ++ [.lst [.int u, .int m, .int 0]]) ∧ 0 ≤ m ∧ m < 2 ^ 61 := by
  have hL : listAt S 0 = some (ns.map D.int) := l_ro hS
  have A : ∃ u, ev (pm q W k) (.var 2) [some (.ref 0), some (.int i), some (.int u), none, none] S = some (.int u, S) ∧ ∀ w' (st : St), ex (pm q W k) st [some (.ref 0), some (.int i), some (.int u), none, none] S = some w' →
      ex (pm q W k) (.seq (.asg (.nm 2) (.bin .add (.bin .mul (.lit (.int 13)) (.var 1)) (.lit (.int 5)))) (.seq (.ifs (.cmp .lt (.var 1) (.bi .len (.cons (.var 0) .nil))) (.seq (.asg (.nm 2) (.idx (.var 0) (.var 1))) .skip) .skip) st)) (env0 2 5 [.ref 0, .int i]) S = some w' := by
    have sm1 : Sm i := by unfold Sm; omega
    by_cases h : i < ((ns.map D.int).length : Int)
    · obtain ⟨u, hu⟩ := at_ints ns i hi.1 h
      refine ⟨u, rfl, fun w' st hw => ?_⟩
      refine' es_nx ?a1 ?a2
      case a1 => walk_at "ex"
      case a2 =>
      refine' es_nx ?b1 ?b2
      case b1 => walk_at "ex"
      case b2 => exact hw
    · refine ⟨13 * i + 5, rfl, fun w' st hw => ?_⟩
      · refine' es_nx ?a1 ?a2
        case a1 => walk_at "ex"
        case a2 =>
        refine' es_nx ?b1 ?b2
        case b1 => walk_at "ex"
        case b2 => exact hw
  obtain ⟨u, _, A1⟩ := A
  have w3 : 0 < (10 : Int) ^ (9 : Int).toNat + 7 := by decide
  have w5 := Int.emod_nonneg (if u < 0 then -u else u) (show (10 : Int) ^ (9 : Int).toNat + 7 ≠ 0 by decide)
  have w6 : (if u < 0 then -u else u) % ((10 : Int) ^ (9 : Int).toNat + 7) < 10 ^ 10 := Int.lt_trans (Int.emod_lt_of_pos _ w3) (by decide)
  have sm1 : Sm i := by unfold Sm; omega
  have hc : chks S [.tup [.ref 0, .tup (ns.map D.int)]] = true := by
    simp only [chks, chk1, hL, D.beqs_refl, Bool.and_true]
  obtain ⟨m, x4, B1, B2, B3⟩ := spring_loop (q := q) (W := W) (k := k) hc (v0 := some (.ref 0)) (v1 := some (.int i)) (v2 := some (.int u)) ns (977 + 3 * i + (if u < 0 then -u else u) % ((10 : Int) ^ (9 : Int).toNat + 7)) none (by omega) (by omega)
  refine' ⟨_, m, run_rt (b := b_4) h4 rfl rfl (A1 _ _ ?hh), B2, B3⟩
  case hh =>
  refine' es_nx ?a1 ?a2
  case a1 => walk_at "ex"
  case a2 =>
  refine' es_nx ?b1 ?b2
  case b1 => exact es_for (er_itv (er_var rfl) (by show (listAt S 0).map _ = _; rw [hL]; rfl)) B1
  case b2 => walk_at "ex"

end Tm

set_option Elab.async false
set_option linter.all false
set_option maxRecDepth 100000
set_option maxHeartbeats 8000000
namespace Tm
open PySem L2 TL
section
variable {q : Pr} (Q : HK q) {W : Nat}
include Q
theorem sizes_p (k : Nat) {S : Store} {a : Nat} {c : Int} (hs : Spr S a c) (hc : c + 100 < 10 ^ 12) : ∃ (zs : List Nat) (p : Nat) (S' : Store), Szs zs ∧ S'[p]? = some (.lst (zs.map nI)) ∧ S.length ≤ p ∧ Spr S' a (c + 20) ∧ Kp [a] S S' ∧
    ∀ (u : St) (w : Fl × Env' × Store), ex (pm q W (k + 1)) u [some (.ref a), some (.ref p), none, none, none, none, none, none, none] S' = some w →
      ex (pm q W (k + 1)) (.seq (.asg (.nm 1) (.lc (.irng (.cons (.bin .add (.lit (.int 1)) (.call 5 [0, 1] (.cons (.var 0) (.cons (.lit (.int 4)) .nil)) .nil)) .nil)) (.nm 8) (.lit (.bl true)) (.call 5 [0, 1] (.cons (.var 0) (.cons (.lit (.int 10)) .nil)) .nil) [8]))
  (.seq (.ifs (.cmp .eq (.call 5 [0, 1] (.cons (.var 0) (.cons (.lit (.int 6)) .nil)) .nil) (.lit (.int 0))) (.seq (.seti (.lit (.int 40)) (.var 1) (.call 5 [0, 1] (.cons (.var 0) (.cons (.bi .len (.cons (.var 1) .nil)) .nil)) .nil))
  .skip) .skip)
  (.seq (.ifs (.cmp .eq (.call 5 [0, 1] (.cons (.var 0) (.cons (.lit (.int 24)) .nil)) .nil) (.lit (.int 0))) (.seq (.asg (.nm 1) (.bin .mul (.lst (.cons (.lit (.int 40)) .nil)) (.bi .len (.cons (.var 1) .nil))))
  .skip) .skip) u))) [some (.ref a), none, none, none, none, none, none, none, none] S = some w := by
  have al := hs.lt
  obtain ⟨r1, S1, p1, l1, u1, s1, k1⟩ := pick_spec Q.f5 (W := W) k hs (by omega) (show (0 : Int) < 4 by decide) (by unfold Sm; decide)
  have hlen : (List.range (r1 + 1).toNat).length = (r1 + 1).toNat := by simp
  have rg : ev (pm q W (k + 1)) (.irng (.cons (.bin .add (.lit (.int 1)) (.call 5 [0, 1] (.cons (.var 0) (.cons (.lit (.int 4)) .nil)) .nil)) .nil)) [some (.ref a), none, none, none, none, none, none, none, none] S = some (itD ((List.range (r1 + 1).toNat).map fun (i : Nat) => D.int (i : Int)) [], S1) :=
    er_rng (er_cons (er_bin (er_lit rfl) (er_call (er_cons (er_var rfl) (er_cons (er_lit rfl) er_nil)) er_nil rfl p1) (by rw [o_add, Int.toNat_of_nonneg (by omega), Int.add_comm])) er_nil) (by omega)
  obtain ⟨bs, S2, c1, c2, c3, c4, c5, c6⟩ := er_lcD (q := q) (W := W) (k := k + 1) (el := .call 5 [0, 1] (.cons (.var 0) (.cons (.lit (.int 10)) .nil)) .nil) (t := .nm 8) (own := [8]) 1 (10 ^ 12) (fun (i : Nat) => D.int (i : Int)) nI (fun _ b => b ≤ 40) rg (fun _ _ => rfl) (fun x hx S c hs hc _ => by
      obtain ⟨r, S', g1, g2, g3, g4, g5⟩ := pick_spec Q.f5 (W := W) k hs (by omega) (show (0 : Int) < 10 by decide) (by unfold Sm; decide)
      exact ⟨[some (.ref a), none, none, none, none, none, none, none, some (.int x)], r.toNat, S', rfl, by rw [show nI r.toNat = .int r by show D.int _ = _; rw [Int.toNat_of_nonneg g2]]; exact er_call (er_cons (er_var rfl) (er_cons (er_lit rfl) er_nil)) er_nil rfl g1, by omega, g4, g5⟩)
    s1 (by decide) (by rw [hlen]; omega) (by rw [hlen, sizeLine_eq]; omega)
  rw [hlen] at c2 c5
  have hb : ∀ b ∈ bs, b ≤ 40 := fun b hb => by
    obtain ⟨j, hj⟩ := List.mem_iff_getElem?.mp hb
    have hjl := (List.getElem?_eq_some_iff.mp hj).1
    have hr : (List.range (r1 + 1).toNat)[j]? = some j := by rw [List.getElem?_range (by omega)]
    have hm : (j, b) ∈ (List.range (r1 + 1).toNat).zip bs := by
      rw [List.mem_iff_getElem?]
      exact ⟨j, by rw [List.getElem?_zip_eq_some]; exact ⟨hr, hj⟩⟩
    exact c3 _ hm
  have l1S : S.length ≤ S1.length := by
    by_cases z : S.length = 0
    · omega
    · have := s1.lt
      obtain ⟨o, ho⟩ : ∃ o, S[S.length - 1]? = some o := ⟨S[S.length - 1], by simp⟩
      by_cases e : S.length - 1 = a
      · omega
      · have := (List.getElem?_eq_some_iff.mp (k1 _ _ (by simp; exact e) ho)).1; omega
  have sz0 : Szs bs := ⟨by omega, by omega, hb⟩
  obtain ⟨r2, S3, p2, l2, u2, s3, k3⟩ := pick_spec Q.f5 (W := W) k c5 (by omega) (show (0 : Int) < 6 by decide) (by unfold Sm; decide)
  have ce2 : cmpop .eq (.int r2) (.int 0) S3 = some (decide (r2 = 0)) := rfl
  have t2 : ev (pm q W (k + 1)) (.cmp .eq (.call 5 [0, 1] (.cons (.var 0) (.cons (.lit (.int 6)) .nil)) .nil) (.lit (.int 0))) [some (.ref a), some (.ref S1.length), none, none, none, none, none, none, none] S2 = some (.bl (decide (r2 = 0)), S3) := er_cmp (er_call (er_cons (er_var rfl) (er_cons (er_lit rfl) er_nil)) er_nil rfl p2) (er_lit rfl) ce2
  have n3 : S3[S1.length]? = some (.lst (bs.map nI)) := k3 _ _ (by simp; omega) c4
  -- the first if
  have A : ∃ (zs : List Nat) (S4 : Store), Szs zs ∧ S4[S1.length]? = some (.lst (zs.map nI)) ∧ Spr S4 a (c + 10) ∧ Kp [a] S S4 ∧ ex (pm q W (k + 1)) (.ifs (.cmp .eq (.call 5 [0, 1] (.cons (.var 0) (.cons (.lit (.int 6)) .nil)) .nil) (.lit (.int 0))) (.seq (.seti (.lit (.int 40)) (.var 1) (.call 5 [0, 1] (.cons (.var 0) (.cons (.bi .len (.cons (.var 1) .nil)) .nil)) .nil))
  .skip) .skip) [some (.ref a), some (.ref S1.length), none, none, none, none, none, none, none] S2 = some (.nx, [some (.ref a), some (.ref S1.length), none, none, none, none, none, none, none], S4) := by
    have K3 : Kp [a] S S3 := k1.trans (c6.trans k3)
    by_cases h : r2 = 0
    · rw [decide_eq_true h] at t2
      obtain ⟨r3, S4, p3, l3, u3, s4, k4⟩ := pick_spec Q.f5 (W := W) k s3 (by omega) (show (0 : Int) < (bs.length : Int) by omega) (by unfold Sm; omega)
      have n4 := k4 _ _ (by simp; omega) n3
      have ln : biop .len [.ref S1.length] S3 = some (.int (bs.length : Int), S3) := by rw [b_lenL (l_lst n3)]; simp
      have ij : ixN (bs.map nI).length r3 = some r3.toNat := by unfold ixN; rw [if_pos l3, if_pos (by simpa using u3)]
      refine ⟨bs.set r3.toNat 40, S4.set S1.length (.lst ((bs.map nI).set r3.toNat (.int 40))), ⟨by simp; omega, by simp; omega, fun z hz => ?_⟩, ?_, (s4.setN (by omega)).le (by omega), Kp.cut (K3.trans k4) (Kp.set (a := S1.length)) (by intro i hi; simp only [List.mem_singleton] at hi; subst hi; exact .inr l1S), es_if_t t2 (es_nx (es_seti (er_lit rfl) (er_var rfl) (er_call (er_cons (er_var rfl) (er_cons (er_bi (er_cons (er_var rfl) er_nil) ln) er_nil)) er_nil rfl p3) (s_set n4 ij)) es_skip)⟩
      · rcases List.mem_or_eq_of_mem_set hz with h | h
        · exact hb z h
        · omega
      · rw [List.map_set]; exact set_get n4
    · rw [decide_eq_false h] at t2
      exact ⟨bs, S3, sz0, n3, s3.le (by omega), K3, es_if_f t2 es_skip⟩
  obtain ⟨zs, S4, z1, z2, z3, z4, z5⟩ := A
  obtain ⟨r5, S5, p5, l5, u5, s5, k5⟩ := pick_spec Q.f5 (W := W) k z3 (by omega) (show (0 : Int) < 24 by decide) (by unfold Sm; decide)
  have ce5 : cmpop .eq (.int r5) (.int 0) S5 = some (decide (r5 = 0)) := rfl
  have t5 : ev (pm q W (k + 1)) (.cmp .eq (.call 5 [0, 1] (.cons (.var 0) (.cons (.lit (.int 24)) .nil)) .nil) (.lit (.int 0))) [some (.ref a), some (.ref S1.length), none, none, none, none, none, none, none] S4 = some (.bl (decide (r5 = 0)), S5) := er_cmp (er_call (er_cons (er_var rfl) (er_cons (er_lit rfl) er_nil)) er_nil rfl p5) (er_lit rfl) ce5
  have n5 := k5 _ _ (by simp; omega) z2
  by_cases h : r5 = 0
  · rw [decide_eq_true h] at t5
    have n6 : (S5 ++ [O.lst [.int 40]])[S1.length]? = some (.lst (zs.map nI)) := Kp.push (A := []) _ _ (by simp) n5
    have ln : biop .len [.ref S1.length] (S5 ++ [O.lst [.int 40]]) = some (.int (zs.length : Int), S5 ++ [O.lst [.int 40]]) := by rw [b_lenL (l_lst n6)]; simp
    have h4 := z1.l4
    have ml : binop .mul (.ref S5.length) (.int (zs.length : Int)) (S5 ++ [O.lst [.int 40]]) = some (.ref (S5 ++ [O.lst [.int 40]]).length, S5 ++ [O.lst [.int 40]] ++ [.lst ((List.replicate zs.length 40).map nI)]) := by
      show (match (S5 ++ [O.lst [.int 40]])[S5.length]? with
        | some (.lst xs) => if decide (-(2 ^ 63) ≤ (zs.length : Int)) && decide ((zs.length : Int) < 2 ^ 63) && decide (xs.length * (zs.length : Int).toNat ≤ sizeLine) then some (new (S5 ++ [O.lst [.int 40]]) (List.replicate (zs.length : Int).toNat xs).flatten) else none
        | _ => none) = _
      rw [g_last]
      show (if decide (-(2 ^ 63) ≤ (zs.length : Int)) && decide ((zs.length : Int) < 2 ^ 63) && decide (1 * (zs.length : Int).toNat ≤ sizeLine) then _ else none) = _
      rw [decide_eq_true (show (-(2 ^ 63) : Int) ≤ (zs.length : Int) by omega), decide_eq_true (show (zs.length : Int) < 2 ^ 63 by omega), decide_eq_true (show 1 * (zs.length : Int).toNat ≤ sizeLine by rw [sizeLine_eq]; omega), Int.toNat_natCast, rep40]
      rfl
    refine ⟨List.replicate zs.length 40, (S5 ++ [O.lst [.int 40]]).length, _, ⟨by simp; exact z1.l1, by simp; exact h4, fun z hz => by have := List.eq_of_mem_replicate hz; omega⟩, g_last, ?_, (s5.push.push).le (by omega), (z4.trans k5).trans kp2.nil, fun u w hu => es_nx (es_asg c1 rfl) (es_nx z5 (es_nx (es_if_t t5 (es_nx (es_asg (er_bin (er_lst (er_cons (er_lit rfl) er_nil) (Nat.le_of_ble_eq_true rfl)) (er_bi (er_cons (er_var rfl) er_nil) ln) ml) rfl) es_skip)) hu))⟩
    have := (List.getElem?_eq_some_iff.mp n6).1
    omega
  · rw [decide_eq_false h] at t5
    exact ⟨zs, S1.length, S5, z1, n5, l1S, s5.le (by omega), z4.trans k5, fun u w hu => es_nx (es_asg c1 rfl) (es_nx z5 (es_nx (es_if_f t5 es_skip) hu))⟩
theorem drawn_p (k : Nat) {S : Store} {a : Nat} {c : Int} (hs : Spr S a c) (hc : c + 30000 < 10 ^ 12) : ∃ (cores : List (List Itm)) (n : Nat) (S' : Store), run q W (k + 6) 53 [.ref a] S = some (.ref n, S') ∧ S'[n]? = some (.lst [.str (text cores), .tup (cores.map dCore)]) ∧ Good cores ∧ Kp [a] S S' := by
  obtain ⟨zs, p, S1, z1, z2, z3, z4, z5, z6⟩ := sizes_p Q (W := W) (k + 4) hs (by omega)
  have al := hs.lt
  have pl := (List.getElem?_eq_some_iff.mp z2).1
  let S2 := S1 ++ [O.lst []]
  let S3 := S2 ++ [O.lst []]
  have l2 : S2.length = S1.length + 1 := by simp [S2]
  have zl := z1.l4
  obtain ⟨cores, L', S4, y4, y5, y6, y7, g1, g2, g3, g4, g5, g6, g7, g8, g9⟩ := drawloop_p Q (W := W) k (S00 := S1) (a := a) (p := p) (B := S2.length) z2 (by omega) (by have := z4.lt; omega) (by omega) zs S1.length S3 (c + 20) [] none none none none none z1.le (by simpa using zl) z4.push.push (by omega)
    (Kp.push (A := []) _ _ (by simp) (g_last (S := S1))) (g_last (S := S2)) (by omega) (by have := z4.lt; omega) (Kp.push.trans Kp.push) (by intro c h; cases h) (by intro c h; cases h) (by intro c h; cases h)
  have gd : Good cores := ⟨fun e => by rw [e] at g2; have := z1.l1; simp at g2; omega, by rw [g2]; simpa using zl, g7, g8, g9⟩
  have jn : mtop .join (.str "\n") [.ref L'] S4 = some (.str (text cores), S4) := by
    show (listAt _ L').bind (fun xs => (strsD xs).bind fun ys => okI (decide ((ys.map (·.length)).sum + ys.length * ("\n" : Str).length ≤ 16777216)) (.str (Txt.join "\n" ys)) _) = _
    rw [l_lst g3]
    show (strsD ((cores.flatMap block).map D.str)).bind _ = _
    rw [strsD_map]
    show okI (decide (((cores.flatMap block).map (·.length)).sum + (cores.flatMap block).length * ("\n" : Str).length ≤ 16777216)) _ _ = _
    rw [show ("\n" : Str).length = 1 by rfl, decide_eq_true gd.len.2]; rfl
  refine ⟨cores, S4.length, S4 ++ [.lst [.str (text cores), .tup (cores.map dCore)]], ?_, g_last, gd, (z5.trans g6).trans Kp.push⟩
  refine' run_rt (e0 := [some _, none, none, none, none, none, none, none, none]) Q.f53 rfl rfl ?h
  case h =>
    unfold b_53
    have gg := g1
    unfold b_53l at gg
    exact z6 _ _ (es_nx (es_asg (er_tup (er_cons (er_lst er_nil (Nat.le_of_ble_eq_true rfl)) (er_cons (er_lst er_nil (Nat.le_of_ble_eq_true rfl)) er_nil)) (Nat.le_of_ble_eq_true rfl)) rfl)
      (es_nx (es_for (itv_lst (er_var rfl) (l_lst (Kp.push (A := []) _ _ (by simp) (Kp.push (A := []) _ _ (by simp) z2)))) gg) (es_rt (es_ret (er_lst (er_cons (er_mt (er_lit rfl) (er_cons (er_var rfl) er_nil) rfl jn) (er_cons (er_bi (er_cons (er_var rfl) er_nil) (b_tupL (l_lst g4))) er_nil)) (Nat.le_of_ble_eq_true rfl))))))
end
end Tm

set_option Elab.async false
set_option linter.all false
set_option maxRecDepth 100000
set_option maxHeartbeats 8000000
namespace Tm
open PySem L2 TL
theorem row_nw {p : Str × List Tr} (h : RowN p) : NW 1 255 (dRow p) := by
  obtain ⟨h1, h2, h3⟩ := h
  have q : NW 1 (51 * (D.str p.1 :: p.2.map (·.2.2)).length) (dRow p) := NW.tup (dp := 0) (w := 50) (fun d hd => by
    rcases List.mem_cons.mp hd with rfl | hd
    · exact NW.str (strOk_of (nms_allc _ h1).1) (by
        have := (nms_allc _ h1).1.2
        have e : (tl p.1).length = p.1.cps.size := by simp [tl]
        omega)
    · obtain ⟨t, ht, rfl⟩ := List.mem_map.mp hd
      exact h3 t ht)
  exact q.mono (Nat.le_refl _) (by simp only [List.length_cons, List.length_map]; omega)
theorem core_nw {c : List Itm} (h : (rowsOf c).length ≤ 40 ∧ ∀ p ∈ rowsOf c, RowN p) : NW 2 10240 (dCore c) := by
  have q : NW 2 (256 * ((rowsOf c).map dRow).length) (dCore c) := NW.tup (dp := 1) (w := 255) (fun d hd => by
    obtain ⟨p, hp, rfl⟩ := List.mem_map.mp hd
    exact row_nw (h.2 p hp))
  exact q.mono (Nat.le_refl _) (by rw [List.length_map]; omega)
theorem book_nw {cores : List (List Itm)} (h : Good cores) : NW 3 40964 (.tup (cores.map dCore)) := by
  have q : NW 3 (10241 * (cores.map dCore).length) (.tup (cores.map dCore)) := NW.tup (dp := 2) (w := 10240) (fun d hd => by
    obtain ⟨c, hc, rfl⟩ := List.mem_map.mp hd
    exact core_nw (h.rw c hc))
  exact q.mono (Nat.le_refl _) (by rw [List.length_map]; have := h.l4; omega)
theorem good_core : Good [[]] := by
  refine ⟨by simp, by simp, fun c hc => ?_, fun w hw => ?_, fun c hc => ?_⟩
  · simp only [List.mem_singleton] at hc; subst hc; exact ⟨True.intro, by simp, fun p hp => by simp [rowsOf] at hp⟩
  · have : w = "core" := by simpa [block] using hw
    subst this; exact ⟨by decide +kernel, by decide +kernel⟩
  · simp only [List.mem_singleton] at hc; subst hc; exact ⟨by simp [rowsOf], fun p hp => by simp [rowsOf] at hp⟩
section
variable {q : Pr} (Q : HK q) {W : Nat}
include Q
theorem like_p (k : Nat) (S : Store) {ds : List D} (h : Nice (.tup ds)) : run q W (k + 1) 54 [.tup ds, .tup ds] S = some (.bl true, S) := by
  obtain ⟨z, hz⟩ := h.rp
  have ce : cmpop .eq (.str z) (.str z) S = some true := c_str_t rfl
  refine' run_rt (e0 := [some _, some _]) Q.f54 rfl rfl ?h
  case h =>
    unfold b_54
    exact es_rt (es_ret (er_and_t (er_isty (er_var rfl) rfl) (er_and_t (er_cmp (er_var rfl) (er_var rfl) (h.eq S)) (er_cmp (er_bi (er_cons (er_var rfl) er_nil) (hz S)) (er_bi (er_cons (er_var rfl) er_nil) (hz S)) ce))))
/-- the book is told, twice the same -/
theorem told_p (k : Nat) (hk : 1 ≤ k) (S : Store) {cores : List (List Itm)} (h : Good cores) : ∃ S', run q W (k + 6) 48 [.str (text cores)] S = some (.tup (cores.map dCore), S') ∧ Kp [] S S' ∧ run q W (k + 6) 54 [.tup (cores.map dCore), .tup (cores.map dCore)] S' = some (.bl true, S') := by
  obtain ⟨S', a1, a2⟩ := assemble_p Q (W := W) k hk S h.ne h.l4 h.ok (fun w hw => (h.ln w hw).1) h.len.1
  exact ⟨S', a1, a2, like_p Q (W := W) (k + 5) S' (book_nw h).nice⟩
def b_55l : St := (.seq (.asg (.nm 3) (.call 4 [0, 1] (.cons (.var 0) (.cons (.var 2) .nil)) .nil))
  (.seq (.asg (.tp 2 (.cons (.nm 4) (.cons (.nm 5) .nil))) (.call 53 [0] (.cons (.var 3) .nil) .nil))
  (.seq (.ifs (.or_ (.not_ (.call 54 [0, 1] (.cons (.call 48 [0] (.cons (.var 4) .nil) .nil) (.cons (.var 5) .nil)) .nil)) (.not_ (.call 54 [0, 1] (.cons (.call 48 [0] .nil (.cons (.var 4) .nil)) (.cons (.var 5) .nil)) .nil))) (.seq (.ret (.lit (.bl false)))
  .skip) .skip)
  (.seq (.drop (.app (.var 1) (.lst (.cons (.var 4) (.cons (.var 5) .nil)))))
  .skip))))
def b_55m : St := (.seq (.ifs (.not_ (.call 54 [0, 1] (.cons (.call 48 [0] (.cons (.var 4) .nil) .nil) (.cons (.var 5) .nil)) .nil)) (.seq (.ret (.lit (.bl false)))
  .skip) .skip)
  .skip)
/-- a kept pair -/
def Kpt (S : Store) (w : Nat) : Prop := ∃ cores, Good cores ∧ S[w]? = some (.lst [.str (text cores), .tup (cores.map dCore)])
theorem law_p (ns : List Int) (hn : ns.length ≤ 63) : Says q 55 ns := by
  have hn' : listAt [O.ro (ns.map D.int)] 0 = some (ns.map D.int) := rfl
  have key : ∀ (l : List Nat), (∀ j ∈ l, j < 3) → ∀ (x2 x3 x4 x5 : Option D) (S : Store) (ws : List Nat), S[0]? = some (.ro (ns.map D.int)) → S[1]? = some (.lst (ws.map D.ref)) → ws.length + l.length ≤ 3 → (∀ w ∈ ws, 1 < w ∧ Kpt S w) →
      ∃ (y2 y3 y4 y5 : Option D) (S' : Store) (ws' : List Nat), forL (ex (pm q 0 20) b_55l) (.nm 2) [] (l.map fun i : Nat => D.int i) [some (.ref 0), some (.ref 1), x2, x3, x4, x5] S = some (.nx, [some (.ref 0), some (.ref 1), y2, y3, y4, y5], S') ∧ S'[1]? = some (.lst (ws'.map D.ref)) ∧ ws'.length ≤ 3 ∧ (∀ w ∈ ws', 1 < w ∧ Kpt S' w) := by
    intro l
    induction l with
    | nil => intro _ x2 x3 x4 x5 S ws _ h1 hl hk; exact ⟨x2, x3, x4, x5, S, ws, forL_nil rfl, h1, by simpa using hl, hk⟩
    | cons j l ih =>
      intro hl x2 x3 x4 x5 S ws hS h1 hwl hk
      have hj := hl j List.mem_cons_self
      simp only [List.length_cons] at hwl
      obtain ⟨u, m, s1, s2, s3⟩ := spring_spec Q.f4 (W := 0) (k := 19) (i := j) hS (by omega)
      have h0 : 1 < S.length := (List.getElem?_eq_some_iff.mp h1).1
      let S1 := S ++ [O.lst [.int u, .int m, .int 0]]
      have sp : Spr S1 S.length 0 := ⟨u, m, 0, g_last, s2, s3, by decide, by decide⟩
      obtain ⟨cores, n, S2, d1, d2, d3, d4⟩ := drawn_p Q (W := 0) 14 sp (by decide)
      have K2 : Kp [] S S2 := Kp.cut Kp.push d4 (by intro i hi; simp only [List.mem_singleton] at hi; subst hi; exact .inr (Nat.le_refl _))
      obtain ⟨S3, a1, a2, a3⟩ := told_p Q (W := 0) 14 (by decide) S2 d3
      obtain ⟨S4, b1, b2, b3⟩ := told_p Q (W := 0) 14 (by decide) S3 d3
      have K4 : Kp [] S S4 := K2.trans (a2.trans b2)
      let S5 := S4 ++ [O.lst [.str (text cores), .tup (cores.map dCore)]]
      have K5 : Kp [] S S5 := K4.trans Kp.push
      have h5 : S5[1]? = some (.lst (ws.map D.ref)) := K5 _ _ (by simp) h1
      have l4 : 1 < S4.length := K4.len0 h0
      have pu := push_at (d := .ref S4.length) h5 (by rw [List.length_map, sizeLine_eq]; omega)
      let S6 := S5.set 1 (.lst (ws.map D.ref ++ [.ref S4.length]))
      have g6 : ∀ i o, i ≠ 1 → S5[i]? = some o → S6[i]? = some o := fun i o hi e => by show (S5.set 1 _)[i]? = _; rw [List.getElem?_set_ne hi.symm]; exact e
      obtain ⟨y2, y3, y4, y5, S', ws', f1, f2, f3, f4⟩ := ih (fun i hi => hl i (List.mem_cons_of_mem _ hi)) (some (.int j)) (some (.ref S.length)) (some (.str (text cores))) (some (.tup (cores.map dCore))) S6 (ws ++ [S4.length]) (g6 _ _ (by decide) (K5 _ _ (by simp) hS)) (by rw [List.map_append]; exact set_get h5) (by simp; omega) (fun w hw => by
        rcases List.mem_append.mp hw with hw | hw
        · obtain ⟨e1, cs, e2, e3⟩ := hk w hw
          exact ⟨e1, cs, e2, g6 _ _ (by omega) (K5 _ _ (by simp) e3)⟩
        · simp only [List.mem_singleton] at hw; subst hw
          exact ⟨l4, cores, d3, g6 _ _ (by omega) (g_last (S := S4))⟩)
      refine ⟨y2, y3, y4, y5, S', ws', ?_, f2, f3, f4⟩
      rw [List.map_cons]
      refine forL_nx rfl rfl ?_ f1
      unfold b_55l
      have bd : bindT (.tp 2 (.cons (.nm 4) (.cons (.nm 5) .nil))) (.ref n) S2 [some (.ref 0), some (.ref 1), some (.int j), some (.ref S.length), x4, x5] = some [some (.ref 0), some (.ref 1), some (.int j), some (.ref S.length), some (.str (text cores)), some (.tup (cores.map dCore))] := by
        show (listAt S2 n).bind _ = _
        rw [l_lst d2]; rfl
      have ap := er_appG (q := q) (W := 0) (k := 20) (e := [some (.ref 0), some (.ref 1), some (.int j), some (.ref S.length), some (.str (text cores)), some (.tup (cores.map dCore))]) (a := .var 1) (b := .lst (.cons (.var 4) (.cons (.var 5) .nil))) (S := S4) (er_var rfl) (lst_ok (l_lst (K4 _ _ (by simp) h1))) (er_lst (er_cons (er_var rfl) (er_cons (er_var rfl) er_nil)) (Nat.le_of_ble_eq_true rfl)) pu
      exact es_nx (es_asg (er_call (er_cons (er_var rfl) (er_cons (er_var rfl) er_nil)) er_nil rfl s1) rfl) (es_nx (es_asg (er_call (er_cons (er_var rfl) er_nil) er_nil rfl d1) bd)
        (es_nx (es_if_f (er_or_f (er_not_f (er_call (er_cons (er_call (er_cons (er_var rfl) er_nil) er_nil rfl a1) (er_cons (er_var rfl) er_nil)) er_nil rfl a3)) (er_not_f (er_call (er_cons (er_call er_nil (er_cons (er_var rfl) er_nil) rfl b1) (er_cons (er_var rfl) er_nil)) er_nil rfl b3))) es_skip)
          (es_nx (es_drop ap) es_skip)))
  have two : ∀ (ws0 : List Nat) (ws : List Nat) (x2 x3 x4 x5 : Option D) (S : Store), listAt S 1 = some (ws0.map D.ref) → (∀ w ∈ ws, Kpt S w) → ∃ y4 y5 S', forL (ex (pm q 0 20) b_55m) (.tp 2 (.cons (.nm 4) (.cons (.nm 5) .nil))) [.tup [.ref 1, .tup (ws0.map D.ref)]] (ws.map D.ref) [some (.ref 0), some (.ref 1), x2, x3, x4, x5] S = some (.nx, [some (.ref 0), some (.ref 1), x2, x3, y4, y5], S') := by
    intro ws0 ws
    induction ws with
    | nil => intro x2 x3 x4 x5 S h1 _; exact ⟨x4, x5, S, forL_nil (chk_lst h1 (Kp.refl [] S))⟩
    | cons w ws ih =>
      intro x2 x3 x4 x5 S h1 hk
      obtain ⟨cores, g, e⟩ := hk w (by simp)
      obtain ⟨S2, a1, a2, a3⟩ := told_p Q (W := 0) 14 (by decide) S g
      obtain ⟨y4, y5, S', f1⟩ := ih x2 x3 (some (.str (text cores))) (some (.tup (cores.map dCore))) S2 (a2.at h1) (fun u hu => by obtain ⟨cs, e1, e2⟩ := hk u (List.mem_cons_of_mem _ hu); exact ⟨cs, e1, a2 _ _ (by simp) e2⟩)
      refine ⟨y4, y5, S', ?_⟩
      rw [List.map_cons]
      have bd : bindT (.tp 2 (.cons (.nm 4) (.cons (.nm 5) .nil))) (.ref w) S [some (.ref 0), some (.ref 1), x2, x3, x4, x5] = some [some (.ref 0), some (.ref 1), x2, x3, some (.str (text cores)), some (.tup (cores.map dCore))] := by
        show (listAt S w).bind _ = _
        rw [l_lst e]; rfl
      refine forL_nx (chk_lst h1 (Kp.refl [] S)) bd ?_ f1
      unfold b_55m
      exact es_nx (es_if_f (er_not_f (er_call (er_cons (er_call (er_cons (er_var rfl) er_nil) er_nil rfl a1) (er_cons (er_var rfl) er_nil)) er_nil rfl a3)) es_skip) es_skip
  have hlen : biop .len [.ref 0] ([O.ro (ns.map D.int)] ++ [O.lst []]) = some (.int ns.length, [O.ro (ns.map D.int)] ++ [O.lst []]) := by
    have : listAt ([O.ro (ns.map D.int)] ++ [O.lst []]) 0 = some (ns.map D.int) := rfl
    rw [b_lenL this]; simp
  obtain ⟨n, hn1, hn2⟩ : ∃ n : Nat, n ≤ 3 ∧ (if (if (ns.length : Int) < 3 then (ns.length : Int) else 3) > 1 then (if (ns.length : Int) < 3 then (ns.length : Int) else 3) else 1) = (n : Int) := by
    refine ⟨(if (if (ns.length : Int) < 3 then (ns.length : Int) else 3) > 1 then (if (ns.length : Int) < 3 then (ns.length : Int) else 3) else 1).toNat, ?_, ?_⟩ <;> split <;> split <;> omega
  obtain ⟨y2, y3, y4, y5, S', ws', f1, f2, f3, f4⟩ := key (List.range n) (fun j hj => by have := List.mem_range.mp hj; omega) none none none none ([O.ro (ns.map D.int)] ++ [O.lst []]) [] rfl rfl (by simpa using hn1) (by intro w h; cases h)
  obtain ⟨z4, z5, S2, g1⟩ := two ws' ws' y2 y3 y4 y5 S' (l_lst f2) (fun w hw => (f4 w hw).2)
  obtain ⟨S3, a1, a2, a3⟩ := told_p Q (W := 0) 14 (by decide) S2 good_core
  have tc : text [[]] = "core" := by
    apply ext_tl
    rw [text, tl_joinS]
    rfl
  rw [tc] at a1
  have dc : ([[]] : List (List Itm)).map dCore = [.tup []] := rfl
  rw [dc] at a1 a3
  refine ⟨0, 21, S3, by decide, ?_⟩
  refine' run_rt (e0 := [some _, none, none, none, none, none]) Q.f55 rfl rfl ?h
  case h =>
    unfold b_55
    have ff := f1
    unfold b_55l at ff
    have gg := g1
    unfold b_55m at gg
    refine' es_nx (es_asg (er_lst er_nil (Nat.le_of_ble_eq_true rfl)) rfl) ?_
    refine' es_nx (es_for (er_rng (n := n) (er_cons (er_bi (er_cons (er_lit rfl) (er_cons (er_bi (er_cons (er_lit rfl) (er_cons (er_bi (er_cons (er_var rfl) er_nil) hlen) er_nil)) b_min) er_nil)) ?hm) er_nil) (by omega)) ff) ?_
    case hm => rw [← hn2]; exact b_max
    exact es_nx (es_for (itv_lst (er_var rfl) (l_lst f2)) gg) (es_rt (es_ret (er_call (er_cons (er_call (er_cons (er_lit rfl) er_nil) er_nil rfl a1) (er_cons (er_tup (er_cons (er_tup er_nil (Nat.le_of_ble_eq_true rfl)) er_nil) (Nat.le_of_ble_eq_true rfl)) er_nil)) er_nil rfl a3)))
end
theorem hk3 : HK prK03 := by constructor <;> rfl
theorem law_run (ns : List Int) (hn : ns.length ≤ 63) : Says prK03 55 ns := law_p hk3 ns hn
end Tm

set_option Elab.async false
set_option linter.all false
set_option maxRecDepth 100000
set_option maxHeartbeats 4000000
namespace Tm
open PySem PySem.Spec PyProof.Rows L2
/-! ## what the top has written, in the machine's words -/
def FnHere (K : PySem.W.Frag) (mg : Str → Option Value) (q : Pr) (G : Gx) (n : Nat) (e : Str × Nat × List Str) : Prop :=
  ∃ (a : Addr) (fd : FuncData) (qual : Str) (st : Stmt) (N : List Str), mg e.1 = some (.ref a) ∧ Fun K e.1 qual st a fd ∧ FnScope N e.2.2 (defScope st) ∧ Binds K fd e.2.2 [] ∧
    (∀ r ∈ G.kws, r.1 = e.1 → ∀ (t : Shared) (us ws : List Value), us.length = r.2.1 → ws.length = r.2.2.1.length → BindsTo t fd ⟨us, r.2.2.1.zip ws⟩ (e.2.2.zip (pick r.2.2.2 (us ++ ws)))) ∧
    q.fs e.2.1 = some (e.2.2.length, N.length, cSs n ⟨N, (defScope st).names, none, G⟩ (defBody st))
theorem mem_of_lookup {α : Type} : ∀ {l : List (Str × α)} {x : Str} {y : α}, l.lookup x = some y → (x, y) ∈ l
  | (x', y') :: r, x, y, h => by
    rw [List.lookup_cons] at h
    cases e : x == x' with
    | true =>
      rw [e] at h
      have := eq_of_beq e
      subst this
      simp only [Option.some.injEq] at h
      subst h
      exact List.mem_cons_self
    | false =>
      rw [e] at h
      exact List.mem_cons_of_mem _ (mem_of_lookup h)
theorem here_mk {K : PySem.W.Frag} {h : Heap} {mg : Str → Option Value} {q : Pr} {G : Gx} {n : Nat} {x qual : Str} {f : Nat} {ps N : List Str} {st : Stmt} {a : Addr} {oc : Value} {od an : Option Addr} {osl : Array (Option Value)} {kV doc pm cdv ct : Value}
    (X : K.In h) (Gm : h.Ns mainGlobals mg) (h1 : PySem.W.nsIn K mainGlobals x = some (some (.ref a)))
    (l : List.lookup a K = some ⟨oc, od, .func (PySem.W.fnOf x qual (defArgs st) (defBody st) (defScope st) .none kV doc pm an cdv ct), osl⟩) (c : PySem.W.codeIn K cdv qual = true) (k : PySem.W.keepIn K (.ref a) = true)
    (S : FnScope N ps (defScope st))
    (b : ∀ (kV doc pm : Value) (an : Option Addr) (cdv ct : Value) (us : List Value), us.length = ps.length → bindArgs (PySem.W.fnOf x qual (defArgs st) (defBody st) (defScope st) .none kV doc pm an cdv ct) ⟨us, []⟩ = pure (ps.zip us))
    (kw : ∀ (kV doc pm : Value) (an : Option Addr) (cdv ct : Value), ∀ r ∈ G.kws, r.1 = x → ∀ (us ws : List Value), us.length = r.2.1 → ws.length = r.2.2.1.length → bindArgs (PySem.W.fnOf x qual (defArgs st) (defBody st) (defScope st) .none kV doc pm an cdv ct) ⟨us, r.2.2.1.zip ws⟩ = pure (ps.zip (pick r.2.2.2 (us ++ ws))))
    (hq : q.fs f = some (ps.length, N.length, cSs n ⟨N, (defScope st).names, none, G⟩ (defBody st))) : FnHere K mg q G n (x, f, ps) := by
  have F := fun_mk (st := st) l c k
  exact ⟨a, _, qual, st, N, PySem.W.mg_of X Gm h1, F, S, F.binds b, fun r hr e t us ws h2 h3 => .of_eq (kw kV doc pm an cdv ct r hr e us ws h2 h3), hq⟩
/-- no call by names of x -/
theorem no_kw {K : Prop} {x : Str} {l : List (Str × Nat × List Str × List Nat)} (h : (l.all fun r => !decide (r.1 = x)) = true) {r : Str × Nat × List Str × List Nat} (hr : r ∈ l) (e : r.1 = x) : K := by
  have := List.all_eq_true.mp h r hr
  rw [decide_eq_true e] at this
  cases this
inductive DMatch (K : PySem.W.Frag) : List DictEntry → List (Str × D) → Prop
  | nil : DMatch K [] []
  | cons {e : DictEntry} {x : Str} {tok : Option Nat} {d : D} {v : V} {es : List DictEntry} {l : List (Str × D)} (hk : ∃ t, e.key = .str x t) (hv : RelV v e.val) (hr : ∀ ρ H, Rep K ρ H v d) (r : DMatch K es l) : DMatch K (e :: es) ((x, d) :: l)
theorem dmatch_find {K : PySem.W.Frag} {es : List DictEntry} {l : List (Str × D)} (m : DMatch K es l) (z : Str) : (es.any fun e => e.refKey) = false ∧
    match lookK l z with
    | none => es.find? (fun e => e.key.isStr z) = none
    | some d => ∃ (e : DictEntry) (v : V), es.find? (fun e => e.key.isStr z) = some e ∧ RelV v e.val ∧ ∀ ρ H, Rep K ρ H v d := by
  induction m with
  | nil => exact ⟨rfl, rfl⟩
  | cons hk hv hr r ih =>
    rename_i e x tok d v es l
    obtain ⟨t, hk⟩ := hk
    have e1 : e.refKey = false := by unfold DictEntry.refKey; rw [hk]
    have e2 : e.key.isStr z = (x == z) := by rw [hk]; rfl
    refine ⟨by simp [e1, ih.1], ?_⟩
    unfold lookK
    rw [List.lookup_cons]
    by_cases hz : z = x
    · subst hz
      simp only [beq_self_eq_true]
      exact ⟨e, v, by rw [List.find?_cons, e2]; simp, hv, hr⟩
    · have b1 : (z == x) = false := by simpa using hz
      have b2 : (x == z) = false := by simpa using fun h => hz h.symm
      simp only [b1]
      have := ih.2
      unfold lookK at this
      rw [List.find?_cons, e2, b2]
      exact this
theorem dict_here {K : PySem.W.Frag} {h : Heap} {w : World} {mg : Str → Option Value} {x : Str} {l : List (Str × D)} {a : Addr} {es : Array DictEntry} {ep : Nat}
    (X : K.In h) (Gm : h.Ns mainGlobals mg) (h1 : PySem.W.nsIn K mainGlobals x = some (some (.ref a))) (hl : List.lookup a K = some { cls := .type "dict", data := .dict es ep }) (lit : PySem.W.KeysLit w.params es.toList) (low : (a == sysModules) = false)
    (m : DMatch K es.toList l) : ∃ (a : Addr) (es : Array DictEntry) (n : Nat), mg x = some (.ref a) ∧ KDict K w a es n ∧
    ∀ z : Str, match lookK l z with
      | none => PySem.W.nsIn K a z = some none
      | some d => ∃ (u : Value) (v : V), PySem.W.nsIn K a z = some (some u) ∧ RelV v u ∧ ∀ ρ H, Rep K ρ H v d := by
  refine ⟨a, es, ep, PySem.W.mg_of X Gm h1, ⟨hl, lit, low⟩, fun z => ?_⟩
  have f := dmatch_find m z
  have e : PySem.W.nsIn K a z = (match es.toList.find? (fun x => x.key.isStr z) with
    | some e => some (some e.val)
    | none => if (es.toList.any fun x => x.refKey) = true then none else some none) := by
    unfold PySem.W.nsIn; rw [hl]; rfl
  cases c : lookK l z with
  | none =>
    rw [c] at f
    show PySem.W.nsIn K a z = some none
    rw [e, f.2, f.1]; rfl
  | some d =>
    rw [c] at f
    obtain ⟨g1, e', v, g2, g3, g4⟩ := f
    exact ⟨e'.val, v, by rw [e, g2], g3, g4⟩
theorem tup_here {K : PySem.W.Frag} {t : Addr} {oc : Value} {od : Option Addr} {its : Array Value} {n : Nat} {osl : Array (Option Value)} {xs : List V} {ds : List D} (l : List.lookup t K = some ⟨oc, od, .seq its n, osl⟩) (hc : oc = .type "tuple") (hs : its.size ≤ sizeLine) (hv : Vals xs its.toList)
    (hr : ∀ ρ H, Reps K ρ H xs ds) : ∀ ρ H, Rep K ρ H (.ref t) (.tup ds) := fun ρ H => .tup (.inr ⟨_, its, n, l, hc, rfl, hs, hv⟩) (hr ρ H)
/-- the law's own def -/
theorem law_fng {P : Program} {w : World} {K : PySem.W.Frag} {mg : Str → Option Value} {base : Heap} {q : Pr} {G : Gx} {n : Nat} (T : Stands K mg w q G n) {x qual : Str} {st : Stmt} {a : Addr} {fd : FuncData} {N ps : List Str} {f : Nat}
    (F : Fun K x qual st a fd) (S : FnScope N ps (defScope st)) (hq : q.fs f = some (ps.length, N.length, cSs n ⟨N, (defScope st).names, none, G⟩ (defBody st))) (W : Nat) : ∀ k : Nat, FnG P w K mg base k a fd ps (spR K ps.length (run q W k f)) := by
  intro k
  cases k with
  | zero => exact fng_zero (q := q) (W := W) (f := f)
  | succ k => exact fng_succ (W := W) F S hq (gmat_all (P := P) (base := base) T W k)
/-- a class with its first def -/
def ClsHere (K : PySem.W.Frag) (mg : Str → Option Value) (q : Pr) (G : Gx) (n : Nat) (e : Str × Nat × List Str × List Str) : Prop :=
  ∃ (C fa : Addr) (fd : FuncData) (qual : Str) (st : Stmt) (N : List Str), mg e.1 = some (.ref C) ∧ PySem.W.nsIn K mainGlobals e.1 = some (some (.ref C)) ∧ L2.Mk K C fa ∧ Fun K "__init__" qual st fa fd ∧ FnScope N e.2.2.1 (defScope st) ∧ Binds K fd e.2.2.1 [] ∧
    q.fs e.2.1 = some (e.2.2.1.length, N.length, cSs n ⟨N, (defScope st).names, none, G⟩ (defBody st))
theorem cls_mk {K : PySem.W.Frag} {h : Heap} {mg : Str → Option Value} {q : Pr} {G : Gx} {n : Nat} {x qual : Str} {f : Nat} {ps N fl : List Str} {st : Stmt} {C a : Addr} {oc : Value} {od an : Option Addr} {osl : Array (Option Value)} {kV doc pm cdv ct : Value}
    (X : K.In h) (Gm : h.Ns mainGlobals mg) (h1 : PySem.W.nsIn K mainGlobals x = some (some (.ref C))) (M : L2.Mk K C a)
    (l : List.lookup a K = some ⟨oc, od, .func (PySem.W.fnOf "__init__" qual (defArgs st) (defBody st) (defScope st) .none kV doc pm an cdv ct), osl⟩) (c : PySem.W.codeIn K cdv qual = true) (k : PySem.W.keepIn K (.ref a) = true)
    (S : FnScope N ps (defScope st))
    (b : ∀ (kV doc pm : Value) (an : Option Addr) (cdv ct : Value) (us : List Value), us.length = ps.length → bindArgs (PySem.W.fnOf "__init__" qual (defArgs st) (defBody st) (defScope st) .none kV doc pm an cdv ct) ⟨us, []⟩ = pure (ps.zip us))
    (hq : q.fs f = some (ps.length, N.length, cSs n ⟨N, (defScope st).names, none, G⟩ (defBody st))) : ClsHere K mg q G n (x, f, ps, fl) := by
  have F := fun_mk (st := st) l c k
  exact ⟨C, a, _, qual, st, N, PySem.W.mg_of X Gm h1, h1, M, F, S, F.binds b, hq⟩
end Tm

set_option Elab.async false
set_option linter.all false
set_option maxRecDepth 100000
set_option maxHeartbeats 8000000
namespace K03
open PySem L2 Tm
def top (i : Nat) : Stmt := PySem.Challenge.pw_touchroad_k03_sources_assembled.main.body.getD i (.Pass ⟨0, 0, 0, 0⟩)
def G : Gx := ⟨("rebuilt", 40, ["value"]) :: ("is_numeral", 893, ["text", "most"]) :: ("is_number", 930, ["text", "largest"]) :: ("is_name", 41, ["text"]) :: ("is_part", 43, ["text", "kind"]) :: ("is_written", 44, ["words"]) :: ("takes_line", 45, ["names", "rows", "number", "line"]) :: ("cores_of", 46, ["lines"]) :: ("instruction_of", 47, ["names", "number", "words"]) :: ("assemble", 48, ["source"]) :: ("_law_spring", 4, ["script", "k"]) :: ("_law_pick", 5, ["spring", "many"]) :: ("_law_word", 6, ["spring"]) :: ("_law_instruction", 7, ["spring", "name", "few", "most"]) :: ("_law_line", 49, ["one", "to"]) :: ("_law_name", 50, ["spring"]) :: ("_law_marks", 51, ["spring", "size"]) :: ("_law_core", 52, ["spring", "size"]) :: ("_law_drawn", 53, ["spring"]) :: ("_law_like", 54, ["found", "due"]) :: ("law", 55, ["script"]) :: [],
  [("DIGITS", 2), ("SMALL", 1)],
  [("PARTS", 1), ("LARGEST", 2)],
  ["isinstance", "list", "tuple", "all", "len", "int", "zip", "enumerate", "str", "max", "abs", "range", "repr", "min"],
  [("assemble", 0, ["source"], [0])],
  []⟩
abbrev s40 : Stmt := top 1
def n40 : List Str := ["value", "item"]
abbrev s893 : Stmt := top 9
def n893 : List Str := ["text", "most", "sign"]
abbrev s930 : Stmt := top 10
def n930 : List Str := ["text", "largest"]
abbrev s41 : Stmt := top 13
def n41 : List Str := ["text", "sign"]
abbrev s43 : Stmt := top 14
def n43 : List Str := ["text", "kind"]
abbrev s44 : Stmt := top 15
def n44 : List Str := ["words", "kinds", "text", "kind"]
abbrev s45 : Stmt := top 16
def n45 : List Str := ["names", "rows", "number", "line", "words"]
abbrev s46 : Stmt := top 17
def n46 : List Str := ["lines", "cores", "number", "line"]
abbrev s47 : Stmt := top 18
def n47 : List Str := ["names", "number", "words", "parts", "text", "kind"]
abbrev s48 : Stmt := top 19
def n48 : List Str := ["source", "cores", "names", "rows", "number", "words"]
abbrev s4 : Stmt := top 21
def n4 : List Str := ["script", "k", "cell", "mixed", "one"]
abbrev s5 : Stmt := top 22
def n5 : List Str := ["spring", "many", "found", "mixed"]
abbrev s6 : Stmt := top 23
def n6 : List Str := ["spring", "way"]
abbrev s7 : Stmt := top 24
def n7 : List Str := ["spring", "name", "few", "most", "one", "two", "three", "word", "row"]
abbrev s49 : Stmt := top 25
def n49 : List Str := ["one", "to", "name", "parts"]
abbrev s50 : Stmt := top 26
def n50 : List Str := ["spring", "words", "signs", "few", "size", "first", "more", "name", "turn"]
abbrev s51 : Stmt := top 27
def n51 : List Str := ["spring", "size", "found", "at", "turn", "name", "one", "row"]
abbrev s52 : Stmt := top 28
def n52 : List Str := ["spring", "size", "names", "marks", "lines", "rows", "at", "one", "to", "row", "name"]
abbrev s53 : Stmt := top 29
def n53 : List Str := ["spring", "sizes", "lines", "book", "size", "more", "rows", "names", "core"]
abbrev s54 : Stmt := top 30
def n54 : List Str := ["found", "due"]
abbrev s55 : Stmt := top 31
def n55 : List Str := ["script", "kept", "k", "spring", "text", "book"]
theorem bq40 : cSs 60 ⟨n40, (defScope s40).names, none, G⟩ (defBody s40) = b_40 := by rfl
theorem bq893 : cSs 60 ⟨n893, (defScope s893).names, none, G⟩ (defBody s893) = b_893 := by rfl
theorem bq930 : cSs 60 ⟨n930, (defScope s930).names, none, G⟩ (defBody s930) = b_930 := by rfl
theorem bq41 : cSs 60 ⟨n41, (defScope s41).names, none, G⟩ (defBody s41) = b_41 := by rfl
theorem bq43 : cSs 60 ⟨n43, (defScope s43).names, none, G⟩ (defBody s43) = b_43 := by rfl
theorem bq44 : cSs 60 ⟨n44, (defScope s44).names, none, G⟩ (defBody s44) = b_44 := by rfl
theorem bq45 : cSs 60 ⟨n45, (defScope s45).names, none, G⟩ (defBody s45) = b_45 := by rfl
theorem bq46 : cSs 60 ⟨n46, (defScope s46).names, none, G⟩ (defBody s46) = b_46 := by rfl
theorem bq47 : cSs 60 ⟨n47, (defScope s47).names, none, G⟩ (defBody s47) = b_47 := by rfl
theorem bq48 : cSs 60 ⟨n48, (defScope s48).names, none, G⟩ (defBody s48) = b_48 := by rfl
theorem bq4 : cSs 60 ⟨n4, (defScope s4).names, none, G⟩ (defBody s4) = b_4 := by rfl
theorem bq5 : cSs 60 ⟨n5, (defScope s5).names, none, G⟩ (defBody s5) = b_5 := by rfl
theorem bq6 : cSs 60 ⟨n6, (defScope s6).names, none, G⟩ (defBody s6) = b_6 := by rfl
theorem bq7 : cSs 60 ⟨n7, (defScope s7).names, none, G⟩ (defBody s7) = b_7 := by rfl
theorem bq49 : cSs 60 ⟨n49, (defScope s49).names, none, G⟩ (defBody s49) = b_49 := by rfl
theorem bq50 : cSs 60 ⟨n50, (defScope s50).names, none, G⟩ (defBody s50) = b_50 := by rfl
theorem bq51 : cSs 60 ⟨n51, (defScope s51).names, none, G⟩ (defBody s51) = b_51 := by rfl
theorem bq52 : cSs 60 ⟨n52, (defScope s52).names, none, G⟩ (defBody s52) = b_52 := by rfl
theorem bq53 : cSs 60 ⟨n53, (defScope s53).names, none, G⟩ (defBody s53) = b_53 := by rfl
theorem bq54 : cSs 60 ⟨n54, (defScope s54).names, none, G⟩ (defBody s54) = b_54 := by rfl
theorem bq55 : cSs 60 ⟨n55, (defScope s55).names, none, G⟩ (defBody s55) = b_55 := by rfl
end K03

set_option Elab.async false
set_option linter.all false
set_option maxRecDepth 100000
set_option maxHeartbeats 8000000
namespace K03
open PySem L2 Tm
theorem sc40 : FnScope n40 ["value"] (defScope s40) := ⟨rfl, rfl, rfl, by decide +kernel, rfl, by decide +kernel, by decide +kernel⟩
theorem here40 {K : PySem.W.Frag} {h : Heap} {mg : Str → Option Value} {a : Addr} {oc : Value} {od an : Option Addr} {osl : Array (Option Value)} {kV doc pm cdv ct : Value}
    (X : K.In h) (Gm : h.Ns mainGlobals mg) (h1 : PySem.W.nsIn K mainGlobals "rebuilt" = some (some (.ref a)))
    (l : List.lookup a K = some ⟨oc, od, .func (PySem.W.fnOf "rebuilt" "rebuilt" (defArgs s40) (defBody s40) (defScope s40) .none kV doc pm an cdv ct), osl⟩) (c : PySem.W.codeIn K cdv "rebuilt" = true) (k : PySem.W.keepIn K (.ref a) = true) : FnHere K mg prK03 G 60 ("rebuilt", 40, ["value"]) := by
  refine here_mk X Gm h1 l c k sc40 (fun _ _ _ _ _ _ us hl => match us, hl with | [_], _ => rfl) ?_ (by rw [bq40]; rfl)
  exact fun _ _ _ _ _ _ r hr e => no_kw (by decide +kernel) hr e
theorem sc893 : FnScope n893 ["text", "most"] (defScope s893) := ⟨rfl, rfl, rfl, by decide +kernel, rfl, by decide +kernel, by decide +kernel⟩
theorem here893 {K : PySem.W.Frag} {h : Heap} {mg : Str → Option Value} {a : Addr} {oc : Value} {od an : Option Addr} {osl : Array (Option Value)} {kV doc pm cdv ct : Value}
    (X : K.In h) (Gm : h.Ns mainGlobals mg) (h1 : PySem.W.nsIn K mainGlobals "is_numeral" = some (some (.ref a)))
    (l : List.lookup a K = some ⟨oc, od, .func (PySem.W.fnOf "is_numeral" "is_numeral" (defArgs s893) (defBody s893) (defScope s893) .none kV doc pm an cdv ct), osl⟩) (c : PySem.W.codeIn K cdv "is_numeral" = true) (k : PySem.W.keepIn K (.ref a) = true) : FnHere K mg prK03 G 60 ("is_numeral", 893, ["text", "most"]) := by
  refine here_mk X Gm h1 l c k sc893 (fun _ _ _ _ _ _ us hl => match us, hl with | [_, _], _ => rfl) ?_ (by rw [bq893]; rfl)
  exact fun _ _ _ _ _ _ r hr e => no_kw (by decide +kernel) hr e
theorem sc930 : FnScope n930 ["text", "largest"] (defScope s930) := ⟨rfl, rfl, rfl, by decide +kernel, rfl, by decide +kernel, by decide +kernel⟩
theorem here930 {K : PySem.W.Frag} {h : Heap} {mg : Str → Option Value} {a : Addr} {oc : Value} {od an : Option Addr} {osl : Array (Option Value)} {kV doc pm cdv ct : Value}
    (X : K.In h) (Gm : h.Ns mainGlobals mg) (h1 : PySem.W.nsIn K mainGlobals "is_number" = some (some (.ref a)))
    (l : List.lookup a K = some ⟨oc, od, .func (PySem.W.fnOf "is_number" "is_number" (defArgs s930) (defBody s930) (defScope s930) .none kV doc pm an cdv ct), osl⟩) (c : PySem.W.codeIn K cdv "is_number" = true) (k : PySem.W.keepIn K (.ref a) = true) : FnHere K mg prK03 G 60 ("is_number", 930, ["text", "largest"]) := by
  refine here_mk X Gm h1 l c k sc930 (fun _ _ _ _ _ _ us hl => match us, hl with | [_, _], _ => rfl) ?_ (by rw [bq930]; rfl)
  exact fun _ _ _ _ _ _ r hr e => no_kw (by decide +kernel) hr e
theorem sc41 : FnScope n41 ["text"] (defScope s41) := ⟨rfl, rfl, rfl, by decide +kernel, rfl, by decide +kernel, by decide +kernel⟩
theorem here41 {K : PySem.W.Frag} {h : Heap} {mg : Str → Option Value} {a : Addr} {oc : Value} {od an : Option Addr} {osl : Array (Option Value)} {kV doc pm cdv ct : Value}
    (X : K.In h) (Gm : h.Ns mainGlobals mg) (h1 : PySem.W.nsIn K mainGlobals "is_name" = some (some (.ref a)))
    (l : List.lookup a K = some ⟨oc, od, .func (PySem.W.fnOf "is_name" "is_name" (defArgs s41) (defBody s41) (defScope s41) .none kV doc pm an cdv ct), osl⟩) (c : PySem.W.codeIn K cdv "is_name" = true) (k : PySem.W.keepIn K (.ref a) = true) : FnHere K mg prK03 G 60 ("is_name", 41, ["text"]) := by
  refine here_mk X Gm h1 l c k sc41 (fun _ _ _ _ _ _ us hl => match us, hl with | [_], _ => rfl) ?_ (by rw [bq41]; rfl)
  exact fun _ _ _ _ _ _ r hr e => no_kw (by decide +kernel) hr e
theorem sc43 : FnScope n43 ["text", "kind"] (defScope s43) := ⟨rfl, rfl, rfl, by decide +kernel, rfl, by decide +kernel, by decide +kernel⟩
theorem here43 {K : PySem.W.Frag} {h : Heap} {mg : Str → Option Value} {a : Addr} {oc : Value} {od an : Option Addr} {osl : Array (Option Value)} {kV doc pm cdv ct : Value}
    (X : K.In h) (Gm : h.Ns mainGlobals mg) (h1 : PySem.W.nsIn K mainGlobals "is_part" = some (some (.ref a)))
    (l : List.lookup a K = some ⟨oc, od, .func (PySem.W.fnOf "is_part" "is_part" (defArgs s43) (defBody s43) (defScope s43) .none kV doc pm an cdv ct), osl⟩) (c : PySem.W.codeIn K cdv "is_part" = true) (k : PySem.W.keepIn K (.ref a) = true) : FnHere K mg prK03 G 60 ("is_part", 43, ["text", "kind"]) := by
  refine here_mk X Gm h1 l c k sc43 (fun _ _ _ _ _ _ us hl => match us, hl with | [_, _], _ => rfl) ?_ (by rw [bq43]; rfl)
  exact fun _ _ _ _ _ _ r hr e => no_kw (by decide +kernel) hr e
theorem sc44 : FnScope n44 ["words"] (defScope s44) := ⟨rfl, rfl, rfl, by decide +kernel, rfl, by decide +kernel, by decide +kernel⟩
theorem here44 {K : PySem.W.Frag} {h : Heap} {mg : Str → Option Value} {a : Addr} {oc : Value} {od an : Option Addr} {osl : Array (Option Value)} {kV doc pm cdv ct : Value}
    (X : K.In h) (Gm : h.Ns mainGlobals mg) (h1 : PySem.W.nsIn K mainGlobals "is_written" = some (some (.ref a)))
    (l : List.lookup a K = some ⟨oc, od, .func (PySem.W.fnOf "is_written" "is_written" (defArgs s44) (defBody s44) (defScope s44) .none kV doc pm an cdv ct), osl⟩) (c : PySem.W.codeIn K cdv "is_written" = true) (k : PySem.W.keepIn K (.ref a) = true) : FnHere K mg prK03 G 60 ("is_written", 44, ["words"]) := by
  refine here_mk X Gm h1 l c k sc44 (fun _ _ _ _ _ _ us hl => match us, hl with | [_], _ => rfl) ?_ (by rw [bq44]; rfl)
  exact fun _ _ _ _ _ _ r hr e => no_kw (by decide +kernel) hr e
theorem sc45 : FnScope n45 ["names", "rows", "number", "line"] (defScope s45) := ⟨rfl, rfl, rfl, by decide +kernel, rfl, by decide +kernel, by decide +kernel⟩
theorem here45 {K : PySem.W.Frag} {h : Heap} {mg : Str → Option Value} {a : Addr} {oc : Value} {od an : Option Addr} {osl : Array (Option Value)} {kV doc pm cdv ct : Value}
    (X : K.In h) (Gm : h.Ns mainGlobals mg) (h1 : PySem.W.nsIn K mainGlobals "takes_line" = some (some (.ref a)))
    (l : List.lookup a K = some ⟨oc, od, .func (PySem.W.fnOf "takes_line" "takes_line" (defArgs s45) (defBody s45) (defScope s45) .none kV doc pm an cdv ct), osl⟩) (c : PySem.W.codeIn K cdv "takes_line" = true) (k : PySem.W.keepIn K (.ref a) = true) : FnHere K mg prK03 G 60 ("takes_line", 45, ["names", "rows", "number", "line"]) := by
  refine here_mk X Gm h1 l c k sc45 (fun _ _ _ _ _ _ us hl => match us, hl with | [_, _, _, _], _ => rfl) ?_ (by rw [bq45]; rfl)
  exact fun _ _ _ _ _ _ r hr e => no_kw (by decide +kernel) hr e
theorem sc46 : FnScope n46 ["lines"] (defScope s46) := ⟨rfl, rfl, rfl, by decide +kernel, rfl, by decide +kernel, by decide +kernel⟩
theorem here46 {K : PySem.W.Frag} {h : Heap} {mg : Str → Option Value} {a : Addr} {oc : Value} {od an : Option Addr} {osl : Array (Option Value)} {kV doc pm cdv ct : Value}
    (X : K.In h) (Gm : h.Ns mainGlobals mg) (h1 : PySem.W.nsIn K mainGlobals "cores_of" = some (some (.ref a)))
    (l : List.lookup a K = some ⟨oc, od, .func (PySem.W.fnOf "cores_of" "cores_of" (defArgs s46) (defBody s46) (defScope s46) .none kV doc pm an cdv ct), osl⟩) (c : PySem.W.codeIn K cdv "cores_of" = true) (k : PySem.W.keepIn K (.ref a) = true) : FnHere K mg prK03 G 60 ("cores_of", 46, ["lines"]) := by
  refine here_mk X Gm h1 l c k sc46 (fun _ _ _ _ _ _ us hl => match us, hl with | [_], _ => rfl) ?_ (by rw [bq46]; rfl)
  exact fun _ _ _ _ _ _ r hr e => no_kw (by decide +kernel) hr e
theorem sc47 : FnScope n47 ["names", "number", "words"] (defScope s47) := ⟨rfl, rfl, rfl, by decide +kernel, rfl, by decide +kernel, by decide +kernel⟩
theorem here47 {K : PySem.W.Frag} {h : Heap} {mg : Str → Option Value} {a : Addr} {oc : Value} {od an : Option Addr} {osl : Array (Option Value)} {kV doc pm cdv ct : Value}
    (X : K.In h) (Gm : h.Ns mainGlobals mg) (h1 : PySem.W.nsIn K mainGlobals "instruction_of" = some (some (.ref a)))
    (l : List.lookup a K = some ⟨oc, od, .func (PySem.W.fnOf "instruction_of" "instruction_of" (defArgs s47) (defBody s47) (defScope s47) .none kV doc pm an cdv ct), osl⟩) (c : PySem.W.codeIn K cdv "instruction_of" = true) (k : PySem.W.keepIn K (.ref a) = true) : FnHere K mg prK03 G 60 ("instruction_of", 47, ["names", "number", "words"]) := by
  refine here_mk X Gm h1 l c k sc47 (fun _ _ _ _ _ _ us hl => match us, hl with | [_, _, _], _ => rfl) ?_ (by rw [bq47]; rfl)
  exact fun _ _ _ _ _ _ r hr e => no_kw (by decide +kernel) hr e
theorem sc48 : FnScope n48 ["source"] (defScope s48) := ⟨rfl, rfl, rfl, by decide +kernel, rfl, by decide +kernel, by decide +kernel⟩
theorem here48 {K : PySem.W.Frag} {h : Heap} {mg : Str → Option Value} {a : Addr} {oc : Value} {od an : Option Addr} {osl : Array (Option Value)} {kV doc pm cdv ct : Value}
    (X : K.In h) (Gm : h.Ns mainGlobals mg) (h1 : PySem.W.nsIn K mainGlobals "assemble" = some (some (.ref a)))
    (l : List.lookup a K = some ⟨oc, od, .func (PySem.W.fnOf "assemble" "assemble" (defArgs s48) (defBody s48) (defScope s48) .none kV doc pm an cdv ct), osl⟩) (c : PySem.W.codeIn K cdv "assemble" = true) (k : PySem.W.keepIn K (.ref a) = true) : FnHere K mg prK03 G 60 ("assemble", 48, ["source"]) := by
  refine here_mk X Gm h1 l c k sc48 (fun _ _ _ _ _ _ us hl => match us, hl with | [_], _ => rfl) ?_ (by rw [bq48]; rfl)
  exact by
    intro _ _ _ _ _ _ r hr e us ws h1 h2
    simp only [G, List.mem_cons, List.not_mem_nil, or_false] at hr
    rcases hr with rfl
    · match us, ws, h1, h2 with | [], [_], _, _ => rfl

theorem sc4 : FnScope n4 ["script", "k"] (defScope s4) := ⟨rfl, rfl, rfl, by decide +kernel, rfl, by decide +kernel, by decide +kernel⟩
theorem here4 {K : PySem.W.Frag} {h : Heap} {mg : Str → Option Value} {a : Addr} {oc : Value} {od an : Option Addr} {osl : Array (Option Value)} {kV doc pm cdv ct : Value}
    (X : K.In h) (Gm : h.Ns mainGlobals mg) (h1 : PySem.W.nsIn K mainGlobals "_law_spring" = some (some (.ref a)))
    (l : List.lookup a K = some ⟨oc, od, .func (PySem.W.fnOf "_law_spring" "_law_spring" (defArgs s4) (defBody s4) (defScope s4) .none kV doc pm an cdv ct), osl⟩) (c : PySem.W.codeIn K cdv "_law_spring" = true) (k : PySem.W.keepIn K (.ref a) = true) : FnHere K mg prK03 G 60 ("_law_spring", 4, ["script", "k"]) := by
  refine here_mk X Gm h1 l c k sc4 (fun _ _ _ _ _ _ us hl => match us, hl with | [_, _], _ => rfl) ?_ (by rw [bq4]; rfl)
  exact fun _ _ _ _ _ _ r hr e => no_kw (by decide +kernel) hr e
theorem sc5 : FnScope n5 ["spring", "many"] (defScope s5) := ⟨rfl, rfl, rfl, by decide +kernel, rfl, by decide +kernel, by decide +kernel⟩
theorem here5 {K : PySem.W.Frag} {h : Heap} {mg : Str → Option Value} {a : Addr} {oc : Value} {od an : Option Addr} {osl : Array (Option Value)} {kV doc pm cdv ct : Value}
    (X : K.In h) (Gm : h.Ns mainGlobals mg) (h1 : PySem.W.nsIn K mainGlobals "_law_pick" = some (some (.ref a)))
    (l : List.lookup a K = some ⟨oc, od, .func (PySem.W.fnOf "_law_pick" "_law_pick" (defArgs s5) (defBody s5) (defScope s5) .none kV doc pm an cdv ct), osl⟩) (c : PySem.W.codeIn K cdv "_law_pick" = true) (k : PySem.W.keepIn K (.ref a) = true) : FnHere K mg prK03 G 60 ("_law_pick", 5, ["spring", "many"]) := by
  refine here_mk X Gm h1 l c k sc5 (fun _ _ _ _ _ _ us hl => match us, hl with | [_, _], _ => rfl) ?_ (by rw [bq5]; rfl)
  exact fun _ _ _ _ _ _ r hr e => no_kw (by decide +kernel) hr e
theorem sc6 : FnScope n6 ["spring"] (defScope s6) := ⟨rfl, rfl, rfl, by decide +kernel, rfl, by decide +kernel, by decide +kernel⟩
theorem here6 {K : PySem.W.Frag} {h : Heap} {mg : Str → Option Value} {a : Addr} {oc : Value} {od an : Option Addr} {osl : Array (Option Value)} {kV doc pm cdv ct : Value}
    (X : K.In h) (Gm : h.Ns mainGlobals mg) (h1 : PySem.W.nsIn K mainGlobals "_law_word" = some (some (.ref a)))
    (l : List.lookup a K = some ⟨oc, od, .func (PySem.W.fnOf "_law_word" "_law_word" (defArgs s6) (defBody s6) (defScope s6) .none kV doc pm an cdv ct), osl⟩) (c : PySem.W.codeIn K cdv "_law_word" = true) (k : PySem.W.keepIn K (.ref a) = true) : FnHere K mg prK03 G 60 ("_law_word", 6, ["spring"]) := by
  refine here_mk X Gm h1 l c k sc6 (fun _ _ _ _ _ _ us hl => match us, hl with | [_], _ => rfl) ?_ (by rw [bq6]; rfl)
  exact fun _ _ _ _ _ _ r hr e => no_kw (by decide +kernel) hr e
theorem sc7 : FnScope n7 ["spring", "name", "few", "most"] (defScope s7) := ⟨rfl, rfl, rfl, by decide +kernel, rfl, by decide +kernel, by decide +kernel⟩
theorem here7 {K : PySem.W.Frag} {h : Heap} {mg : Str → Option Value} {a : Addr} {oc : Value} {od an : Option Addr} {osl : Array (Option Value)} {kV doc pm cdv ct : Value}
    (X : K.In h) (Gm : h.Ns mainGlobals mg) (h1 : PySem.W.nsIn K mainGlobals "_law_instruction" = some (some (.ref a)))
    (l : List.lookup a K = some ⟨oc, od, .func (PySem.W.fnOf "_law_instruction" "_law_instruction" (defArgs s7) (defBody s7) (defScope s7) .none kV doc pm an cdv ct), osl⟩) (c : PySem.W.codeIn K cdv "_law_instruction" = true) (k : PySem.W.keepIn K (.ref a) = true) : FnHere K mg prK03 G 60 ("_law_instruction", 7, ["spring", "name", "few", "most"]) := by
  refine here_mk X Gm h1 l c k sc7 (fun _ _ _ _ _ _ us hl => match us, hl with | [_, _, _, _], _ => rfl) ?_ (by rw [bq7]; rfl)
  exact fun _ _ _ _ _ _ r hr e => no_kw (by decide +kernel) hr e
theorem sc49 : FnScope n49 ["one", "to"] (defScope s49) := ⟨rfl, rfl, rfl, by decide +kernel, rfl, by decide +kernel, by decide +kernel⟩
theorem here49 {K : PySem.W.Frag} {h : Heap} {mg : Str → Option Value} {a : Addr} {oc : Value} {od an : Option Addr} {osl : Array (Option Value)} {kV doc pm cdv ct : Value}
    (X : K.In h) (Gm : h.Ns mainGlobals mg) (h1 : PySem.W.nsIn K mainGlobals "_law_line" = some (some (.ref a)))
    (l : List.lookup a K = some ⟨oc, od, .func (PySem.W.fnOf "_law_line" "_law_line" (defArgs s49) (defBody s49) (defScope s49) .none kV doc pm an cdv ct), osl⟩) (c : PySem.W.codeIn K cdv "_law_line" = true) (k : PySem.W.keepIn K (.ref a) = true) : FnHere K mg prK03 G 60 ("_law_line", 49, ["one", "to"]) := by
  refine here_mk X Gm h1 l c k sc49 (fun _ _ _ _ _ _ us hl => match us, hl with | [_, _], _ => rfl) ?_ (by rw [bq49]; rfl)
  exact fun _ _ _ _ _ _ r hr e => no_kw (by decide +kernel) hr e
theorem sc50 : FnScope n50 ["spring"] (defScope s50) := ⟨rfl, rfl, rfl, by decide +kernel, rfl, by decide +kernel, by decide +kernel⟩
theorem here50 {K : PySem.W.Frag} {h : Heap} {mg : Str → Option Value} {a : Addr} {oc : Value} {od an : Option Addr} {osl : Array (Option Value)} {kV doc pm cdv ct : Value}
    (X : K.In h) (Gm : h.Ns mainGlobals mg) (h1 : PySem.W.nsIn K mainGlobals "_law_name" = some (some (.ref a)))
    (l : List.lookup a K = some ⟨oc, od, .func (PySem.W.fnOf "_law_name" "_law_name" (defArgs s50) (defBody s50) (defScope s50) .none kV doc pm an cdv ct), osl⟩) (c : PySem.W.codeIn K cdv "_law_name" = true) (k : PySem.W.keepIn K (.ref a) = true) : FnHere K mg prK03 G 60 ("_law_name", 50, ["spring"]) := by
  refine here_mk X Gm h1 l c k sc50 (fun _ _ _ _ _ _ us hl => match us, hl with | [_], _ => rfl) ?_ (by rw [bq50]; rfl)
  exact fun _ _ _ _ _ _ r hr e => no_kw (by decide +kernel) hr e
theorem sc51 : FnScope n51 ["spring", "size"] (defScope s51) := ⟨rfl, rfl, rfl, by decide +kernel, rfl, by decide +kernel, by decide +kernel⟩
theorem here51 {K : PySem.W.Frag} {h : Heap} {mg : Str → Option Value} {a : Addr} {oc : Value} {od an : Option Addr} {osl : Array (Option Value)} {kV doc pm cdv ct : Value}
    (X : K.In h) (Gm : h.Ns mainGlobals mg) (h1 : PySem.W.nsIn K mainGlobals "_law_marks" = some (some (.ref a)))
    (l : List.lookup a K = some ⟨oc, od, .func (PySem.W.fnOf "_law_marks" "_law_marks" (defArgs s51) (defBody s51) (defScope s51) .none kV doc pm an cdv ct), osl⟩) (c : PySem.W.codeIn K cdv "_law_marks" = true) (k : PySem.W.keepIn K (.ref a) = true) : FnHere K mg prK03 G 60 ("_law_marks", 51, ["spring", "size"]) := by
  refine here_mk X Gm h1 l c k sc51 (fun _ _ _ _ _ _ us hl => match us, hl with | [_, _], _ => rfl) ?_ (by rw [bq51]; rfl)
  exact fun _ _ _ _ _ _ r hr e => no_kw (by decide +kernel) hr e
theorem sc52 : FnScope n52 ["spring", "size"] (defScope s52) := ⟨rfl, rfl, rfl, by decide +kernel, rfl, by decide +kernel, by decide +kernel⟩
theorem here52 {K : PySem.W.Frag} {h : Heap} {mg : Str → Option Value} {a : Addr} {oc : Value} {od an : Option Addr} {osl : Array (Option Value)} {kV doc pm cdv ct : Value}
    (X : K.In h) (Gm : h.Ns mainGlobals mg) (h1 : PySem.W.nsIn K mainGlobals "_law_core" = some (some (.ref a)))
    (l : List.lookup a K = some ⟨oc, od, .func (PySem.W.fnOf "_law_core" "_law_core" (defArgs s52) (defBody s52) (defScope s52) .none kV doc pm an cdv ct), osl⟩) (c : PySem.W.codeIn K cdv "_law_core" = true) (k : PySem.W.keepIn K (.ref a) = true) : FnHere K mg prK03 G 60 ("_law_core", 52, ["spring", "size"]) := by
  refine here_mk X Gm h1 l c k sc52 (fun _ _ _ _ _ _ us hl => match us, hl with | [_, _], _ => rfl) ?_ (by rw [bq52]; rfl)
  exact fun _ _ _ _ _ _ r hr e => no_kw (by decide +kernel) hr e
theorem sc53 : FnScope n53 ["spring"] (defScope s53) := ⟨rfl, rfl, rfl, by decide +kernel, rfl, by decide +kernel, by decide +kernel⟩
theorem here53 {K : PySem.W.Frag} {h : Heap} {mg : Str → Option Value} {a : Addr} {oc : Value} {od an : Option Addr} {osl : Array (Option Value)} {kV doc pm cdv ct : Value}
    (X : K.In h) (Gm : h.Ns mainGlobals mg) (h1 : PySem.W.nsIn K mainGlobals "_law_drawn" = some (some (.ref a)))
    (l : List.lookup a K = some ⟨oc, od, .func (PySem.W.fnOf "_law_drawn" "_law_drawn" (defArgs s53) (defBody s53) (defScope s53) .none kV doc pm an cdv ct), osl⟩) (c : PySem.W.codeIn K cdv "_law_drawn" = true) (k : PySem.W.keepIn K (.ref a) = true) : FnHere K mg prK03 G 60 ("_law_drawn", 53, ["spring"]) := by
  refine here_mk X Gm h1 l c k sc53 (fun _ _ _ _ _ _ us hl => match us, hl with | [_], _ => rfl) ?_ (by rw [bq53]; rfl)
  exact fun _ _ _ _ _ _ r hr e => no_kw (by decide +kernel) hr e
theorem sc54 : FnScope n54 ["found", "due"] (defScope s54) := ⟨rfl, rfl, rfl, by decide +kernel, rfl, by decide +kernel, by decide +kernel⟩
theorem here54 {K : PySem.W.Frag} {h : Heap} {mg : Str → Option Value} {a : Addr} {oc : Value} {od an : Option Addr} {osl : Array (Option Value)} {kV doc pm cdv ct : Value}
    (X : K.In h) (Gm : h.Ns mainGlobals mg) (h1 : PySem.W.nsIn K mainGlobals "_law_like" = some (some (.ref a)))
    (l : List.lookup a K = some ⟨oc, od, .func (PySem.W.fnOf "_law_like" "_law_like" (defArgs s54) (defBody s54) (defScope s54) .none kV doc pm an cdv ct), osl⟩) (c : PySem.W.codeIn K cdv "_law_like" = true) (k : PySem.W.keepIn K (.ref a) = true) : FnHere K mg prK03 G 60 ("_law_like", 54, ["found", "due"]) := by
  refine here_mk X Gm h1 l c k sc54 (fun _ _ _ _ _ _ us hl => match us, hl with | [_, _], _ => rfl) ?_ (by rw [bq54]; rfl)
  exact fun _ _ _ _ _ _ r hr e => no_kw (by decide +kernel) hr e
theorem sc55 : FnScope n55 ["script"] (defScope s55) := ⟨rfl, rfl, rfl, by decide +kernel, rfl, by decide +kernel, by decide +kernel⟩
theorem here55 {K : PySem.W.Frag} {h : Heap} {mg : Str → Option Value} {a : Addr} {oc : Value} {od an : Option Addr} {osl : Array (Option Value)} {kV doc pm cdv ct : Value}
    (X : K.In h) (Gm : h.Ns mainGlobals mg) (h1 : PySem.W.nsIn K mainGlobals "law" = some (some (.ref a)))
    (l : List.lookup a K = some ⟨oc, od, .func (PySem.W.fnOf "law" "law" (defArgs s55) (defBody s55) (defScope s55) .none kV doc pm an cdv ct), osl⟩) (c : PySem.W.codeIn K cdv "law" = true) (k : PySem.W.keepIn K (.ref a) = true) : FnHere K mg prK03 G 60 ("law", 55, ["script"]) := by
  refine here_mk X Gm h1 l c k sc55 (fun _ _ _ _ _ _ us hl => match us, hl with | [_], _ => rfl) ?_ (by rw [bq55]; rfl)
  exact fun _ _ _ _ _ _ r hr e => no_kw (by decide +kernel) hr e
end K03

set_option Elab.async false
set_option linter.all false
set_option maxRecDepth 100000
set_option maxHeartbeats 8000000
namespace K03
open PySem L2 Tm
theorem all_mk {l : PySem.W.OpenLaw} {w : World} {K : PySem.W.Frag} {h : Heap} {mg : Str → Option Value} {fa : Addr} (X : K.In h) (Gm : h.Ns mainGlobals mg) (hfa : mg "law" = some (.ref fa))
    {f40 : Addr} {oc40 : Value} {od40 an40 : Option Addr} {osl40 : Array (Option Value)} {kV40 doc40 pm40 cdv40 ct40 : Value}
    {f893 : Addr} {oc893 : Value} {od893 an893 : Option Addr} {osl893 : Array (Option Value)} {kV893 doc893 pm893 cdv893 ct893 : Value}
    {f930 : Addr} {oc930 : Value} {od930 an930 : Option Addr} {osl930 : Array (Option Value)} {kV930 doc930 pm930 cdv930 ct930 : Value}
    {f41 : Addr} {oc41 : Value} {od41 an41 : Option Addr} {osl41 : Array (Option Value)} {kV41 doc41 pm41 cdv41 ct41 : Value}
    {f43 : Addr} {oc43 : Value} {od43 an43 : Option Addr} {osl43 : Array (Option Value)} {kV43 doc43 pm43 cdv43 ct43 : Value}
    {f44 : Addr} {oc44 : Value} {od44 an44 : Option Addr} {osl44 : Array (Option Value)} {kV44 doc44 pm44 cdv44 ct44 : Value}
    {f45 : Addr} {oc45 : Value} {od45 an45 : Option Addr} {osl45 : Array (Option Value)} {kV45 doc45 pm45 cdv45 ct45 : Value}
    {f46 : Addr} {oc46 : Value} {od46 an46 : Option Addr} {osl46 : Array (Option Value)} {kV46 doc46 pm46 cdv46 ct46 : Value}
    {f47 : Addr} {oc47 : Value} {od47 an47 : Option Addr} {osl47 : Array (Option Value)} {kV47 doc47 pm47 cdv47 ct47 : Value}
    {f48 : Addr} {oc48 : Value} {od48 an48 : Option Addr} {osl48 : Array (Option Value)} {kV48 doc48 pm48 cdv48 ct48 : Value}
    {f4 : Addr} {oc4 : Value} {od4 an4 : Option Addr} {osl4 : Array (Option Value)} {kV4 doc4 pm4 cdv4 ct4 : Value}
    {f5 : Addr} {oc5 : Value} {od5 an5 : Option Addr} {osl5 : Array (Option Value)} {kV5 doc5 pm5 cdv5 ct5 : Value}
    {f6 : Addr} {oc6 : Value} {od6 an6 : Option Addr} {osl6 : Array (Option Value)} {kV6 doc6 pm6 cdv6 ct6 : Value}
    {f7 : Addr} {oc7 : Value} {od7 an7 : Option Addr} {osl7 : Array (Option Value)} {kV7 doc7 pm7 cdv7 ct7 : Value}
    {f49 : Addr} {oc49 : Value} {od49 an49 : Option Addr} {osl49 : Array (Option Value)} {kV49 doc49 pm49 cdv49 ct49 : Value}
    {f50 : Addr} {oc50 : Value} {od50 an50 : Option Addr} {osl50 : Array (Option Value)} {kV50 doc50 pm50 cdv50 ct50 : Value}
    {f51 : Addr} {oc51 : Value} {od51 an51 : Option Addr} {osl51 : Array (Option Value)} {kV51 doc51 pm51 cdv51 ct51 : Value}
    {f52 : Addr} {oc52 : Value} {od52 an52 : Option Addr} {osl52 : Array (Option Value)} {kV52 doc52 pm52 cdv52 ct52 : Value}
    {f53 : Addr} {oc53 : Value} {od53 an53 : Option Addr} {osl53 : Array (Option Value)} {kV53 doc53 pm53 cdv53 ct53 : Value}
    {f54 : Addr} {oc54 : Value} {od54 an54 : Option Addr} {osl54 : Array (Option Value)} {kV54 doc54 pm54 cdv54 ct54 : Value}
    {f55 : Addr} {oc55 : Value} {od55 an55 : Option Addr} {osl55 : Array (Option Value)} {kV55 doc55 pm55 cdv55 ct55 : Value}
    (a40 : PySem.W.nsIn K mainGlobals "rebuilt" = some (some (.ref f40))) (l40 : List.lookup f40 K = some ⟨oc40, od40, .func (PySem.W.fnOf "rebuilt" "rebuilt" (defArgs s40) (defBody s40) (defScope s40) .none kV40 doc40 pm40 an40 cdv40 ct40), osl40⟩) (c40 : PySem.W.codeIn K cdv40 "rebuilt" = true) (k40 : PySem.W.keepIn K (.ref f40) = true)
    (a893 : PySem.W.nsIn K mainGlobals "is_numeral" = some (some (.ref f893))) (l893 : List.lookup f893 K = some ⟨oc893, od893, .func (PySem.W.fnOf "is_numeral" "is_numeral" (defArgs s893) (defBody s893) (defScope s893) .none kV893 doc893 pm893 an893 cdv893 ct893), osl893⟩) (c893 : PySem.W.codeIn K cdv893 "is_numeral" = true) (k893 : PySem.W.keepIn K (.ref f893) = true)
    (a930 : PySem.W.nsIn K mainGlobals "is_number" = some (some (.ref f930))) (l930 : List.lookup f930 K = some ⟨oc930, od930, .func (PySem.W.fnOf "is_number" "is_number" (defArgs s930) (defBody s930) (defScope s930) .none kV930 doc930 pm930 an930 cdv930 ct930), osl930⟩) (c930 : PySem.W.codeIn K cdv930 "is_number" = true) (k930 : PySem.W.keepIn K (.ref f930) = true)
    (a41 : PySem.W.nsIn K mainGlobals "is_name" = some (some (.ref f41))) (l41 : List.lookup f41 K = some ⟨oc41, od41, .func (PySem.W.fnOf "is_name" "is_name" (defArgs s41) (defBody s41) (defScope s41) .none kV41 doc41 pm41 an41 cdv41 ct41), osl41⟩) (c41 : PySem.W.codeIn K cdv41 "is_name" = true) (k41 : PySem.W.keepIn K (.ref f41) = true)
    (a43 : PySem.W.nsIn K mainGlobals "is_part" = some (some (.ref f43))) (l43 : List.lookup f43 K = some ⟨oc43, od43, .func (PySem.W.fnOf "is_part" "is_part" (defArgs s43) (defBody s43) (defScope s43) .none kV43 doc43 pm43 an43 cdv43 ct43), osl43⟩) (c43 : PySem.W.codeIn K cdv43 "is_part" = true) (k43 : PySem.W.keepIn K (.ref f43) = true)
    (a44 : PySem.W.nsIn K mainGlobals "is_written" = some (some (.ref f44))) (l44 : List.lookup f44 K = some ⟨oc44, od44, .func (PySem.W.fnOf "is_written" "is_written" (defArgs s44) (defBody s44) (defScope s44) .none kV44 doc44 pm44 an44 cdv44 ct44), osl44⟩) (c44 : PySem.W.codeIn K cdv44 "is_written" = true) (k44 : PySem.W.keepIn K (.ref f44) = true)
    (a45 : PySem.W.nsIn K mainGlobals "takes_line" = some (some (.ref f45))) (l45 : List.lookup f45 K = some ⟨oc45, od45, .func (PySem.W.fnOf "takes_line" "takes_line" (defArgs s45) (defBody s45) (defScope s45) .none kV45 doc45 pm45 an45 cdv45 ct45), osl45⟩) (c45 : PySem.W.codeIn K cdv45 "takes_line" = true) (k45 : PySem.W.keepIn K (.ref f45) = true)
    (a46 : PySem.W.nsIn K mainGlobals "cores_of" = some (some (.ref f46))) (l46 : List.lookup f46 K = some ⟨oc46, od46, .func (PySem.W.fnOf "cores_of" "cores_of" (defArgs s46) (defBody s46) (defScope s46) .none kV46 doc46 pm46 an46 cdv46 ct46), osl46⟩) (c46 : PySem.W.codeIn K cdv46 "cores_of" = true) (k46 : PySem.W.keepIn K (.ref f46) = true)
    (a47 : PySem.W.nsIn K mainGlobals "instruction_of" = some (some (.ref f47))) (l47 : List.lookup f47 K = some ⟨oc47, od47, .func (PySem.W.fnOf "instruction_of" "instruction_of" (defArgs s47) (defBody s47) (defScope s47) .none kV47 doc47 pm47 an47 cdv47 ct47), osl47⟩) (c47 : PySem.W.codeIn K cdv47 "instruction_of" = true) (k47 : PySem.W.keepIn K (.ref f47) = true)
    (a48 : PySem.W.nsIn K mainGlobals "assemble" = some (some (.ref f48))) (l48 : List.lookup f48 K = some ⟨oc48, od48, .func (PySem.W.fnOf "assemble" "assemble" (defArgs s48) (defBody s48) (defScope s48) .none kV48 doc48 pm48 an48 cdv48 ct48), osl48⟩) (c48 : PySem.W.codeIn K cdv48 "assemble" = true) (k48 : PySem.W.keepIn K (.ref f48) = true)
    (a4 : PySem.W.nsIn K mainGlobals "_law_spring" = some (some (.ref f4))) (l4 : List.lookup f4 K = some ⟨oc4, od4, .func (PySem.W.fnOf "_law_spring" "_law_spring" (defArgs s4) (defBody s4) (defScope s4) .none kV4 doc4 pm4 an4 cdv4 ct4), osl4⟩) (c4 : PySem.W.codeIn K cdv4 "_law_spring" = true) (k4 : PySem.W.keepIn K (.ref f4) = true)
    (a5 : PySem.W.nsIn K mainGlobals "_law_pick" = some (some (.ref f5))) (l5 : List.lookup f5 K = some ⟨oc5, od5, .func (PySem.W.fnOf "_law_pick" "_law_pick" (defArgs s5) (defBody s5) (defScope s5) .none kV5 doc5 pm5 an5 cdv5 ct5), osl5⟩) (c5 : PySem.W.codeIn K cdv5 "_law_pick" = true) (k5 : PySem.W.keepIn K (.ref f5) = true)
    (a6 : PySem.W.nsIn K mainGlobals "_law_word" = some (some (.ref f6))) (l6 : List.lookup f6 K = some ⟨oc6, od6, .func (PySem.W.fnOf "_law_word" "_law_word" (defArgs s6) (defBody s6) (defScope s6) .none kV6 doc6 pm6 an6 cdv6 ct6), osl6⟩) (c6 : PySem.W.codeIn K cdv6 "_law_word" = true) (k6 : PySem.W.keepIn K (.ref f6) = true)
    (a7 : PySem.W.nsIn K mainGlobals "_law_instruction" = some (some (.ref f7))) (l7 : List.lookup f7 K = some ⟨oc7, od7, .func (PySem.W.fnOf "_law_instruction" "_law_instruction" (defArgs s7) (defBody s7) (defScope s7) .none kV7 doc7 pm7 an7 cdv7 ct7), osl7⟩) (c7 : PySem.W.codeIn K cdv7 "_law_instruction" = true) (k7 : PySem.W.keepIn K (.ref f7) = true)
    (a49 : PySem.W.nsIn K mainGlobals "_law_line" = some (some (.ref f49))) (l49 : List.lookup f49 K = some ⟨oc49, od49, .func (PySem.W.fnOf "_law_line" "_law_line" (defArgs s49) (defBody s49) (defScope s49) .none kV49 doc49 pm49 an49 cdv49 ct49), osl49⟩) (c49 : PySem.W.codeIn K cdv49 "_law_line" = true) (k49 : PySem.W.keepIn K (.ref f49) = true)
    (a50 : PySem.W.nsIn K mainGlobals "_law_name" = some (some (.ref f50))) (l50 : List.lookup f50 K = some ⟨oc50, od50, .func (PySem.W.fnOf "_law_name" "_law_name" (defArgs s50) (defBody s50) (defScope s50) .none kV50 doc50 pm50 an50 cdv50 ct50), osl50⟩) (c50 : PySem.W.codeIn K cdv50 "_law_name" = true) (k50 : PySem.W.keepIn K (.ref f50) = true)
    (a51 : PySem.W.nsIn K mainGlobals "_law_marks" = some (some (.ref f51))) (l51 : List.lookup f51 K = some ⟨oc51, od51, .func (PySem.W.fnOf "_law_marks" "_law_marks" (defArgs s51) (defBody s51) (defScope s51) .none kV51 doc51 pm51 an51 cdv51 ct51), osl51⟩) (c51 : PySem.W.codeIn K cdv51 "_law_marks" = true) (k51 : PySem.W.keepIn K (.ref f51) = true)
    (a52 : PySem.W.nsIn K mainGlobals "_law_core" = some (some (.ref f52))) (l52 : List.lookup f52 K = some ⟨oc52, od52, .func (PySem.W.fnOf "_law_core" "_law_core" (defArgs s52) (defBody s52) (defScope s52) .none kV52 doc52 pm52 an52 cdv52 ct52), osl52⟩) (c52 : PySem.W.codeIn K cdv52 "_law_core" = true) (k52 : PySem.W.keepIn K (.ref f52) = true)
    (a53 : PySem.W.nsIn K mainGlobals "_law_drawn" = some (some (.ref f53))) (l53 : List.lookup f53 K = some ⟨oc53, od53, .func (PySem.W.fnOf "_law_drawn" "_law_drawn" (defArgs s53) (defBody s53) (defScope s53) .none kV53 doc53 pm53 an53 cdv53 ct53), osl53⟩) (c53 : PySem.W.codeIn K cdv53 "_law_drawn" = true) (k53 : PySem.W.keepIn K (.ref f53) = true)
    (a54 : PySem.W.nsIn K mainGlobals "_law_like" = some (some (.ref f54))) (l54 : List.lookup f54 K = some ⟨oc54, od54, .func (PySem.W.fnOf "_law_like" "_law_like" (defArgs s54) (defBody s54) (defScope s54) .none kV54 doc54 pm54 an54 cdv54 ct54), osl54⟩) (c54 : PySem.W.codeIn K cdv54 "_law_like" = true) (k54 : PySem.W.keepIn K (.ref f54) = true)
    (a55 : PySem.W.nsIn K mainGlobals "law" = some (some (.ref f55))) (l55 : List.lookup f55 K = some ⟨oc55, od55, .func (PySem.W.fnOf "law" "law" (defArgs s55) (defBody s55) (defScope s55) .none kV55 doc55 pm55 an55 cdv55 ct55), osl55⟩) (c55 : PySem.W.codeIn K cdv55 "law" = true) (k55 : PySem.W.keepIn K (.ref f55) = true)
    {ad1 : Addr} {es1 : Array DictEntry} {ep1 : Nat} (da1 : PySem.W.nsIn K mainGlobals "PARTS" = some (some (.ref ad1))) (dl1 : List.lookup ad1 K = some { cls := .type "dict", data := .dict es1 ep1 }) (lit1 : PySem.W.KeysLit w.params es1.toList) (low1 : (ad1 == sysModules) = false) (dm1 : DMatch K es1.toList (kdK03 1))
    {ad2 : Addr} {es2 : Array DictEntry} {ep2 : Nat} (da2 : PySem.W.nsIn K mainGlobals "LARGEST" = some (some (.ref ad2))) (dl2 : List.lookup ad2 K = some { cls := .type "dict", data := .dict es2 ep2 }) (lit2 : PySem.W.KeysLit w.params es2.toList) (low2 : (ad2 == sysModules) = false) (dm2 : DMatch K es2.toList (kdK03 2))
    {kc2 : Value} (ca2 : PySem.W.nsIn K mainGlobals "DIGITS" = some (some kc2)) (cr2 : RelV (V.str "0123456789") kc2)
    {kc1 : Value} (ca1 : PySem.W.nsIn K mainGlobals "SMALL" = some (some kc1)) (cr1 : RelV (V.str "abcdefghijklmnopqrstuvwxyz") kc1)
    (z0 : PySem.W.nsIn K mainGlobals "isinstance" = some none)
    (z1 : PySem.W.nsIn K mainGlobals "list" = some none)
    (z2 : PySem.W.nsIn K mainGlobals "tuple" = some none)
    (z3 : PySem.W.nsIn K mainGlobals "all" = some none)
    (z4 : PySem.W.nsIn K mainGlobals "len" = some none)
    (z5 : PySem.W.nsIn K mainGlobals "int" = some none)
    (z6 : PySem.W.nsIn K mainGlobals "zip" = some none)
    (z7 : PySem.W.nsIn K mainGlobals "enumerate" = some none)
    (z8 : PySem.W.nsIn K mainGlobals "str" = some none)
    (z9 : PySem.W.nsIn K mainGlobals "max" = some none)
    (z10 : PySem.W.nsIn K mainGlobals "abs" = some none)
    (z11 : PySem.W.nsIn K mainGlobals "range" = some none)
    (z12 : PySem.W.nsIn K mainGlobals "repr" = some none)
    (z13 : PySem.W.nsIn K mainGlobals "min" = some none)
    : ∃ fd : FuncData, (∀ (s : Shared) (u : Value), BindsTo s fd ⟨[u], []⟩ [(("script" : Str), u)]) ∧ ∀ (W k : Nat) (base : Heap), K.In base → base.Ns mainGlobals mg → FnG l.prog w K mg base k fa fd ["script"] (spR K 1 (run prK03 W k 55)) := by
  have e := hfa.symm.trans (PySem.W.mg_of X Gm a55)
  cases e
  have T : Stands K mg w prK03 G 60 := by
    refine ⟨fun x f ps hl => ?_, fun x g hl => ?_, fun x g hl => ?_, fun x hx => ?_, fun x a hx => PySem.W.mg_of X Gm hx, fun x i hx => ?_, fun x f ps fl hl => ?_, fun e he C hC => ?_⟩
    · refine (show ∀ e ∈ G.funs, FnHere K mg prK03 G 60 e from ?_) _ (Tm.mem_of_lookup hl)
      exact List.forall_mem_cons.2 ⟨here40 X Gm a40 l40 c40 k40, List.forall_mem_cons.2 ⟨here893 X Gm a893 l893 c893 k893, List.forall_mem_cons.2 ⟨here930 X Gm a930 l930 c930 k930, List.forall_mem_cons.2 ⟨here41 X Gm a41 l41 c41 k41, List.forall_mem_cons.2 ⟨here43 X Gm a43 l43 c43 k43, List.forall_mem_cons.2 ⟨here44 X Gm a44 l44 c44 k44, List.forall_mem_cons.2 ⟨here45 X Gm a45 l45 c45 k45, List.forall_mem_cons.2 ⟨here46 X Gm a46 l46 c46 k46, List.forall_mem_cons.2 ⟨here47 X Gm a47 l47 c47 k47, List.forall_mem_cons.2 ⟨here48 X Gm a48 l48 c48 k48, List.forall_mem_cons.2 ⟨here4 X Gm a4 l4 c4 k4, List.forall_mem_cons.2 ⟨here5 X Gm a5 l5 c5 k5, List.forall_mem_cons.2 ⟨here6 X Gm a6 l6 c6 k6, List.forall_mem_cons.2 ⟨here7 X Gm a7 l7 c7 k7, List.forall_mem_cons.2 ⟨here49 X Gm a49 l49 c49 k49, List.forall_mem_cons.2 ⟨here50 X Gm a50 l50 c50 k50, List.forall_mem_cons.2 ⟨here51 X Gm a51 l51 c51 k51, List.forall_mem_cons.2 ⟨here52 X Gm a52 l52 c52 k52, List.forall_mem_cons.2 ⟨here53 X Gm a53 l53 c53 k53, List.forall_mem_cons.2 ⟨here54 X Gm a54 l54 c54 k54, List.forall_mem_cons.2 ⟨here55 X Gm a55 l55 c55 k55, (fun _ hn => absurd hn List.not_mem_nil)⟩⟩⟩⟩⟩⟩⟩⟩⟩⟩⟩⟩⟩⟩⟩⟩⟩⟩⟩⟩⟩
    · have hm := Tm.mem_of_lookup hl
      simp only [G, List.mem_cons, List.not_mem_nil, or_false, Prod.mk.injEq] at hm
      rcases hm with ⟨rfl, rfl⟩ | ⟨rfl, rfl⟩
      · exact ⟨_, .str "0123456789", PySem.W.mg_of X Gm ca2, cr2, fun _ _ => .str _⟩
      · exact ⟨_, .str "abcdefghijklmnopqrstuvwxyz", PySem.W.mg_of X Gm ca1, cr1, fun _ _ => .str _⟩
    · have hm := Tm.mem_of_lookup hl
      simp only [G, List.mem_cons, List.not_mem_nil, or_false, Prod.mk.injEq] at hm
      rcases hm with ⟨rfl, rfl⟩ | ⟨rfl, rfl⟩
      · exact dict_here X Gm da1 dl1 lit1 low1 dm1
      · exact dict_here X Gm da2 dl2 lit2 low2 dm2
    · have hm : x ∈ G.blt := by simpa using hx
      simp only [G, List.mem_cons, List.not_mem_nil, or_false] at hm
      rcases hm with rfl | rfl | rfl | rfl | rfl | rfl | rfl | rfl | rfl | rfl | rfl | rfl | rfl | rfl
      · exact PySem.W.mg_none_of X Gm z0
      · exact PySem.W.mg_none_of X Gm z1
      · exact PySem.W.mg_none_of X Gm z2
      · exact PySem.W.mg_none_of X Gm z3
      · exact PySem.W.mg_none_of X Gm z4
      · exact PySem.W.mg_none_of X Gm z5
      · exact PySem.W.mg_none_of X Gm z6
      · exact PySem.W.mg_none_of X Gm z7
      · exact PySem.W.mg_none_of X Gm z8
      · exact PySem.W.mg_none_of X Gm z9
      · exact PySem.W.mg_none_of X Gm z10
      · exact PySem.W.mg_none_of X Gm z11
      · exact PySem.W.mg_none_of X Gm z12
      · exact PySem.W.mg_none_of X Gm z13
    · cases hx
    · cases hl
    · cases he
  exact ⟨_, fun s v => .of_eq rfl, fun W k base _ _ => law_fng T (fun_mk (st := s55) l55 c55 k55) sc55 (by rw [bq55]; rfl) W k⟩
end K03

open PySem PySem.W PyProof.Rows in
set_option maxRecDepth 100000 in
set_option maxHeartbeats 0 in
theorem PySem.Challenge.cw_touchroad_k03_sources_assembled_holds : PySem.Challenge.rw_touchroad_k03_sources_assembled.Holds := by
  w_on; o_law; k_head; (case hw => w_witness2)
  k_fill
  refine Tm.walk_M (l := PySem.Challenge.rw_touchroad_k03_sources_assembled) (q := Tm.prK03) (f := 55) rfl rfl (fun w h Y => PySem.W.kIn_of Y) ?F (fun ns h => Tm.law_run ns h)
  case F =>
    intro w mg fa h KX G hmg
    refine' K03.all_mk KX G hmg ?a40 ?l40 ?c40 ?k40 ?a893 ?l893 ?c893 ?k893 ?a930 ?l930 ?c930 ?k930 ?a41 ?l41 ?c41 ?k41 ?a43 ?l43 ?c43 ?k43 ?a44 ?l44 ?c44 ?k44 ?a45 ?l45 ?c45 ?k45 ?a46 ?l46 ?c46 ?k46 ?a47 ?l47 ?c47 ?k47 ?a48 ?l48 ?c48 ?k48 ?a4 ?l4 ?c4 ?k4 ?a5 ?l5 ?c5 ?k5 ?a6 ?l6 ?c6 ?k6 ?a7 ?l7 ?c7 ?k7 ?a49 ?l49 ?c49 ?k49 ?a50 ?l50 ?c50 ?k50 ?a51 ?l51 ?c51 ?k51 ?a52 ?l52 ?c52 ?k52 ?a53 ?l53 ?c53 ?k53 ?a54 ?l54 ?c54 ?k54 ?a55 ?l55 ?c55 ?k55 ?da1 ?dl1 ?lit1 ?low1 ?dm1 ?da2 ?dl2 ?lit2 ?low2 ?dm2 ?ca2 ?cr2 ?ca1 ?cr1 ?z0 ?z1 ?z2 ?z3 ?z4 ?z5 ?z6 ?z7 ?z8 ?z9 ?z10 ?z11 ?z12 ?z13
    (case a40 => k_is)
    (case l40 => k_is)
    (case c40 => k_is)
    (case k40 => k_is)
    (case a893 => k_is)
    (case l893 => k_is)
    (case c893 => k_is)
    (case k893 => k_is)
    (case a930 => k_is)
    (case l930 => k_is)
    (case c930 => k_is)
    (case k930 => k_is)
    (case a41 => k_is)
    (case l41 => k_is)
    (case c41 => k_is)
    (case k41 => k_is)
    (case a43 => k_is)
    (case l43 => k_is)
    (case c43 => k_is)
    (case k43 => k_is)
    (case a44 => k_is)
    (case l44 => k_is)
    (case c44 => k_is)
    (case k44 => k_is)
    (case a45 => k_is)
    (case l45 => k_is)
    (case c45 => k_is)
    (case k45 => k_is)
    (case a46 => k_is)
    (case l46 => k_is)
    (case c46 => k_is)
    (case k46 => k_is)
    (case a47 => k_is)
    (case l47 => k_is)
    (case c47 => k_is)
    (case k47 => k_is)
    (case a48 => k_is)
    (case l48 => k_is)
    (case c48 => k_is)
    (case k48 => k_is)
    (case a4 => k_is)
    (case l4 => k_is)
    (case c4 => k_is)
    (case k4 => k_is)
    (case a5 => k_is)
    (case l5 => k_is)
    (case c5 => k_is)
    (case k5 => k_is)
    (case a6 => k_is)
    (case l6 => k_is)
    (case c6 => k_is)
    (case k6 => k_is)
    (case a7 => k_is)
    (case l7 => k_is)
    (case c7 => k_is)
    (case k7 => k_is)
    (case a49 => k_is)
    (case l49 => k_is)
    (case c49 => k_is)
    (case k49 => k_is)
    (case a50 => k_is)
    (case l50 => k_is)
    (case c50 => k_is)
    (case k50 => k_is)
    (case a51 => k_is)
    (case l51 => k_is)
    (case c51 => k_is)
    (case k51 => k_is)
    (case a52 => k_is)
    (case l52 => k_is)
    (case c52 => k_is)
    (case k52 => k_is)
    (case a53 => k_is)
    (case l53 => k_is)
    (case c53 => k_is)
    (case k53 => k_is)
    (case a54 => k_is)
    (case l54 => k_is)
    (case c54 => k_is)
    (case k54 => k_is)
    (case a55 => k_is)
    (case l55 => k_is)
    (case c55 => k_is)
    (case k55 => k_is)
    (case da1 => k_is)
    (case dl1 => k_is)
    (case lit1 => exact He.keysLit_of (ks := ["set", "add", "sub", "and", "xor", "below", "load", "store", "swap", "addto", "fence", "gap", "ifzero", "jump", "stop"]) rfl)
    (case low1 => rfl)
    (case dm1 =>
      refine' .cons (tok := none) ⟨_, rfl⟩ (v := L2.V.str "rw") ⟨_, rfl⟩ (fun _ _ => Tm.Rep.str "rw") (.cons (tok := none) ⟨_, rfl⟩ (v := L2.V.str "rrr") ⟨_, rfl⟩ (fun _ _ => Tm.Rep.str "rrr") (.cons (tok := none) ⟨_, rfl⟩ (v := L2.V.str "rrr") ⟨_, rfl⟩ (fun _ _ => Tm.Rep.str "rrr") (.cons (tok := none) ⟨_, rfl⟩ (v := L2.V.str "rrr") ⟨_, rfl⟩ (fun _ _ => Tm.Rep.str "rrr") (.cons (tok := none) ⟨_, rfl⟩ (v := L2.V.str "rrr") ⟨_, rfl⟩ (fun _ _ => Tm.Rep.str "rrr") (.cons (tok := none) ⟨_, rfl⟩ (v := L2.V.str "rrr") ⟨_, rfl⟩ (fun _ _ => Tm.Rep.str "rrr") (.cons (tok := none) ⟨_, rfl⟩ (v := L2.V.str "rrw") ⟨_, rfl⟩ (fun _ _ => Tm.Rep.str "rrw") (.cons (tok := none) ⟨_, rfl⟩ (v := L2.V.str "rrw") ⟨_, rfl⟩ (fun _ _ => Tm.Rep.str "rrw") (.cons (tok := none) ⟨_, rfl⟩ (v := L2.V.str "rrrw") ⟨_, rfl⟩ (fun _ _ => Tm.Rep.str "rrrw") (.cons (tok := none) ⟨_, rfl⟩ (v := L2.V.str "rrrw") ⟨_, rfl⟩ (fun _ _ => Tm.Rep.str "rrrw") (.cons (tok := none) ⟨_, rfl⟩ (v := L2.V.str "") ⟨_, rfl⟩ (fun _ _ => Tm.Rep.str "") (.cons (tok := none) ⟨_, rfl⟩ (v := L2.V.str "") ⟨_, rfl⟩ (fun _ _ => Tm.Rep.str "") (.cons (tok := none) ⟨_, rfl⟩ (v := L2.V.str "rt") ⟨_, rfl⟩ (fun _ _ => Tm.Rep.str "rt") (.cons (tok := none) ⟨_, rfl⟩ (v := L2.V.str "t") ⟨_, rfl⟩ (fun _ _ => Tm.Rep.str "t") (.cons (tok := none) ⟨_, rfl⟩ (v := L2.V.str "") ⟨_, rfl⟩ (fun _ _ => Tm.Rep.str "") (.nil))))))))))))))))
    (case da2 => k_is)
    (case dl2 => k_is)
    (case lit2 => exact He.keysLit_of (ks := ["r", "w"]) rfl)
    (case low2 => rfl)
    (case dm2 =>
      refine' .cons (tok := none) ⟨_, rfl⟩ (v := L2.V.int 7) ⟨_, rfl⟩ (fun _ _ => Tm.Rep.int 7) (.cons (tok := none) ⟨_, rfl⟩ (v := L2.V.int 65535) ⟨_, rfl⟩ (fun _ _ => Tm.Rep.int 65535) (.nil)))
    (case ca2 => k_is)
    (case cr2 => exact ⟨_, rfl⟩)
    (case ca1 => k_is)
    (case cr1 => exact ⟨_, rfl⟩)
    (case z0 => k_is)
    (case z1 => k_is)
    (case z2 => k_is)
    (case z3 => k_is)
    (case z4 => k_is)
    (case z5 => k_is)
    (case z6 => k_is)
    (case z7 => k_is)
    (case z8 => k_is)
    (case z9 => k_is)
    (case z10 => k_is)
    (case z11 => k_is)
    (case z12 => k_is)
    (case z13 => k_is)
