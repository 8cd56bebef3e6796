import PyProof.Rows.All
import Wide.All
import OpenK.AllK
import Wide.FinOn
import KE.KStateDown
import KE.OsGo
import KE.HD4
import Wide.Once
import HandS.ForSpec
import HandS.ForMost
import HandS.More
import HandS.Conv
import HandS.IsInst
import HandS.Wide
import HandS.Flow
import HandS.Nested
import HandS.SortKw
import HandS.Defaults
import HandS.HeadHook1
import HandS.HeadHook2
import HandS.Walk
import HandS.Zip
import HandS.HeadHook4
import KE.SortKeyHeap
import HandS.EndTab
import HandS.Spec
import PySem.Challenge.RW_reportlayout_s01_answers
set_option Elab.async false
set_option linter.all false
set_option maxRecDepth 100000
set_option maxHeartbeats 0
namespace Dg
open PySem PySem.Spec PyProof.Rows L2

/-! ### data without addresses -/
inductive D where
  | non
  | bl (b : Bool)
  | int (i : Int)
  | str (s : Str)
  | lst (ds : List D)
  | tup (ds : List D)
  | obj (c : Str) (fs : List (Str × D))
  | rq (ns : List Int)

def Ex (G H : Hp) : Prop := ∀ a o, G a = some o → H a = some o
theorem Ex.refl (H : Hp) : Ex H H := fun _ _ h => h
theorem Ex.trans {G H I : Hp} (a : Ex G H) (b : Ex H I) : Ex G I := fun x o h => b x o (a x o h)
theorem Ex.new {H : Hp} {p : Addr} {o : HO} (h : H p = none) : Ex H (upd H p o) := fun a u e => by
  rw [upd_ne (ne_of_none e h)]
  exact e
theorem Ex.none {G H : Hp} {p : Addr} (e : Ex G H) (h : H p = none) : G p = none := by
  cases q : G p with
  | none => rfl
  | some o =>
    rw [e p o q] at h
    cases h
theorem Ex.sqL {K : PySem.W.Frag} {H H' : Hp} {a : Addr} {xs : List V} (e : Ex H H') (h : SqL K H a xs) : SqL K H' a xs := by
  rcases h with (h | ⟨o, h⟩) | h
  · exact .inl (.inl (e _ _ h))
  · exact .inl (.inr ⟨o, e _ _ h⟩)
  · exact .inr h
theorem Ex.sqT {K : PySem.W.Frag} {H H' : Hp} {a : Addr} {xs : List V} (e : Ex H H') (h : SqT K H a xs) : SqT K H' a xs := by
  rcases h with (h | ⟨o, h⟩) | h
  · exact .inl (.inl (e _ _ h))
  · exact .inl (.inr ⟨o, e _ _ h⟩)
  · exact .inr h

mutual
inductive At (K : PySem.W.Frag) (G : Hp) : V → D → Prop
  | non : At K G .non .non
  | bl {b : Bool} : At K G (.bl b) (.bl b)
  | int {i : Int} : At K G (.int i) (.int i)
  | str {s : Str} : At K G (.str s) (.str s)
  | lst {p : Addr} {vs : List V} {ds : List D} : G p = some (.lst vs) → Ats K G vs ds → At K G (.ref p) (.lst ds)
  | tup {p : Addr} {vs : List V} {ds : List D} : G p = some (.tup vs) → Ats K G vs ds → At K G (.ref p) (.tup ds)
  | obj {p dx : Addr} {c : Str} {vs : List (Str × V)} {fs : List (Str × D)} : G p = some (.ins (He.ga K c) dx vs) → Afs K G vs fs → At K G (.ref p) (.obj c fs)
  | rq {p : Addr} {ns : List Int} : SqL K G p (ns.map V.int) → At K G (.ref p) (.rq ns)
inductive Ats (K : PySem.W.Frag) (G : Hp) : List V → List D → Prop
  | nil : Ats K G [] []
  | cons {v : V} {d : D} {vs : List V} {ds : List D} : At K G v d → Ats K G vs ds → Ats K G (v :: vs) (d :: ds)
inductive Afs (K : PySem.W.Frag) (G : Hp) : List (Str × V) → List (Str × D) → Prop
  | nil : Afs K G [] []
  | cons {f : Str} {v : V} {d : D} {vs : List (Str × V)} {ds : List (Str × D)} : At K G v d → Afs K G vs ds → Afs K G ((f, v) :: vs) ((f, d) :: ds)
end
section
variable {K : PySem.W.Frag} {G G' : Hp}
mutual
theorem At.mono (e : Ex G G') : ∀ {v : V} {d : D}, At K G v d → At K G' v d
  | _, _, .non => .non
  | _, _, .bl => .bl
  | _, _, .int => .int
  | _, _, .str => .str
  | _, _, .lst h t => .lst (e _ _ h) (Ats.mono e t)
  | _, _, .tup h t => .tup (e _ _ h) (Ats.mono e t)
  | _, _, .obj h t => .obj (e _ _ h) (Afs.mono e t)
  | _, _, .rq h => .rq (e.sqL h)
theorem Ats.mono (e : Ex G G') : ∀ {v : List V} {d : List D}, Ats K G v d → Ats K G' v d
  | _, _, .nil => .nil
  | _, _, .cons h t => .cons (At.mono e h) (Ats.mono e t)
theorem Afs.mono (e : Ex G G') : ∀ {v : List (Str × V)} {d : List (Str × D)}, Afs K G v d → Afs K G' v d
  | _, _, .nil => .nil
  | _, _, .cons h t => .cons (At.mono e h) (Afs.mono e t)
end
theorem Ats.length : ∀ {v : List V} {d : List D}, Ats K G v d → v.length = d.length
  | _, _, .nil => rfl
  | _, _, .cons _ t => congrArg (· + 1) t.length
theorem Ats.get : ∀ {vs : List V} {ds : List D} {i : Nat} {d : D}, Ats K G vs ds → ds[i]? = some d → ∃ v, vs[i]? = some v ∧ At K G v d
  | _, _, _, _, .nil, e => by simp at e
  | _, _, 0, _, .cons r _, e => by simp at e; subst e; exact ⟨_, rfl, r⟩
  | _, _, i + 1, d, .cons _ t, e => by
    obtain ⟨u, h1, h2⟩ := Ats.get (i := i) (d := d) t (by simpa using e)
    exact ⟨u, by simpa using h1, h2⟩
theorem Ats.getV : ∀ {vs : List V} {ds : List D} {i : Nat} {v : V}, Ats K G vs ds → vs[i]? = some v → ∃ d, ds[i]? = some d ∧ At K G v d
  | _, _, _, _, .nil, e => by simp at e
  | _, _, 0, _, .cons r _, e => by simp at e; subst e; exact ⟨_, rfl, r⟩
  | _, _, i + 1, v, .cons _ t, e => by
    obtain ⟨u, h1, h2⟩ := Ats.getV (i := i) (v := v) t (by simpa using e)
    exact ⟨u, by simpa using h1, h2⟩
theorem Ats.append : ∀ {xs ys : List V} {us ws : List D}, Ats K G xs us → Ats K G ys ws → Ats K G (xs ++ ys) (us ++ ws)
  | _, _, _, _, .nil, s => s
  | _, _, _, _, .cons r t, s => .cons r (Ats.append t s)
theorem Ats.take : ∀ {xs : List V} {us : List D} (n : Nat), Ats K G xs us → Ats K G (xs.take n) (us.take n)
  | _, _, 0, _ => .nil
  | _, _, _ + 1, .nil => .nil
  | _, _, n + 1, .cons r t => .cons r (Ats.take n t)
theorem Ats.drop : ∀ {xs : List V} {us : List D} (n : Nat), Ats K G xs us → Ats K G (xs.drop n) (us.drop n)
  | _, _, 0, r => r
  | _, _, _ + 1, .nil => .nil
  | _, _, n + 1, .cons _ t => Ats.drop n t
theorem Ats.set {x : V} {u : D} (r : At K G x u) : ∀ {xs : List V} {us : List D} (i : Nat), Ats K G xs us → Ats K G (xs.set i x) (us.set i u)
  | _, _, _, .nil => .nil
  | _, _, 0, .cons _ t => .cons r t
  | _, _, i + 1, .cons q t => .cons q (Ats.set r i t)
theorem Ats.rep {x : V} {u : D} (r : At K G x u) : ∀ n : Nat, Ats K G (List.replicate n x) (List.replicate n u)
  | 0 => .nil
  | n + 1 => .cons r (Ats.rep r n)
theorem Afs.get : ∀ {vs : List (Str × V)} {fs : List (Str × D)} {f : Str} {d : D}, Afs K G vs fs → fs.lookup f = some d → ∃ v, vs.lookup f = some v ∧ At K G v d
  | _, _, _, _, .nil, e => by simp at e
  | _, _, f, d, .cons (f := g) r t, e => by
    cases q : (f == g) with
    | true =>
      rw [List.lookup_cons, q] at e
      cases e
      exact ⟨_, by rw [List.lookup_cons, q], r⟩
    | false =>
      rw [List.lookup_cons, q] at e
      obtain ⟨v, h1, h2⟩ := Afs.get t e
      exact ⟨v, by rw [List.lookup_cons, q]; exact h1, h2⟩
theorem Afs.length : ∀ {v : List (Str × V)} {d : List (Str × D)}, Afs K G v d → v.length = d.length
  | _, _, .nil => rfl
  | _, _, .cons _ t => congrArg (· + 1) t.length
theorem At.int_eq {v : V} {i : Int} (h : At K G v (.int i)) : v = .int i := by cases h; rfl
theorem At.bl_eq {v : V} {i : Bool} (h : At K G v (.bl i)) : v = .bl i := by cases h; rfl
theorem At.str_eq {v : V} {i : Str} (h : At K G v (.str i)) : v = .str i := by cases h; rfl
theorem At.non_eq {v : V} (h : At K G v .non) : v = .non := by cases h; rfl
theorem At.lst_eq {v : V} {ds : List D} (h : At K G v (.lst ds)) : ∃ p vs, v = .ref p ∧ G p = some (.lst vs) ∧ Ats K G vs ds := by cases h with | lst a b => exact ⟨_, _, rfl, a, b⟩
theorem At.tup_eq {v : V} {ds : List D} (h : At K G v (.tup ds)) : ∃ p vs, v = .ref p ∧ G p = some (.tup vs) ∧ Ats K G vs ds := by cases h with | tup a b => exact ⟨_, _, rfl, a, b⟩
theorem At.obj_eq {v : V} {c : Str} {fs : List (Str × D)} (h : At K G v (.obj c fs)) : ∃ p dx vs, v = .ref p ∧ G p = some (.ins (He.ga K c) dx vs) ∧ Afs K G vs fs := by cases h with | obj a b => exact ⟨_, _, _, rfl, a, b⟩
theorem At.rq_eq {v : V} {ns : List Int} (h : At K G v (.rq ns)) : ∃ p, v = .ref p ∧ SqL K G p (ns.map V.int) := by cases h with | rq a => exact ⟨_, rfl, a⟩
theorem At.non_iff {v : V} {d : D} (h : At K G v d) : decide (v = .non) = (match d with | .non => true | _ => false) := by
  cases h <;> rfl
/-- lists of ints -/
abbrev dI (l : List Int) : List D := l.map D.int
theorem Ats.ints_eq : ∀ {vs : List V} {l : List Int}, Ats K G vs (dI l) → vs = l.map V.int
  | _, [], .nil => rfl
  | _, i :: l, .cons h t => by
    rw [h.int_eq, Ats.ints_eq t]
    rfl
theorem Ats.of_ints : ∀ (l : List Int), Ats K G (l.map V.int) (dI l)
  | [] => .nil
  | _ :: l => .cons .int (Ats.of_ints l)
theorem Ats.bls_eq : ∀ {vs : List V} {l : List Bool}, Ats K G vs (l.map D.bl) → vs = l.map V.bl
  | _, [], .nil => rfl
  | _, i :: l, .cons h t => by
    rw [h.bl_eq, Ats.bls_eq t]
    rfl
end

/-! ### slots -/
structure Bs where
  G0 : Hp
  H0 : Hp
  W : Addr → Prop
inductive Sl where
  /-- nothing is known -/
  | un
  /-- a datum that never changes -/
  | sh (d : D)
  /-- a list of one's own -/
  | own (ds : List D)
  /-- a list of lists of one's own -/
  | ow2 (dss : List (List D))
  /-- the caller's list of objects -/
  | st (p : Addr) (xs : List Addr) (its : List (Str × List (Str × D)))
  /-- one of the objects of the caller's list -/
  | al (x : Addr)
  /-- an object of one's own -/
  | oi (x : Addr) (it : Str × List (Str × D))

def ItA (K : PySem.W.Frag) (G H : Hp) (x : Addr) (it : Str × List (Str × D)) : Prop := ∃ dx vs, H x = some (.ins (He.ga K it.1) dx vs) ∧ Afs K G vs it.2
inductive SlA (K : PySem.W.Frag) (B : Bs) (G H : Hp) : Option V → Sl → List Addr → Prop
  | un {o : Option V} : SlA K B G H o .un []
  | sh {v : V} {d : D} : At K G v d → SlA K B G H (some v) (.sh d) []
  | own {p : Addr} {vs : List V} {ds : List D} : B.H0 p = none → H p = some (.lst vs) → Ats K G vs ds → SlA K B G H (some (.ref p)) (.own ds) [p]
  | ow2 {p : Addr} {qs : List Addr} {dss : List (List D)} : (∀ q ∈ p :: qs, B.H0 q = none) → H p = some (.lst (qs.map V.ref)) → Paired (fun q ds => ∃ vs, H q = some (.lst vs) ∧ Ats K G vs ds) qs dss → SlA K B G H (some (.ref p)) (.ow2 dss) (p :: qs)
  | st {p : Addr} {xs : List Addr} {its : List (Str × List (Str × D))} : (∀ q ∈ p :: xs, B.H0 q = none ∨ B.W q) → H p = some (.lst (xs.map V.ref)) → Paired (ItA K G H) xs its → SlA K B G H (some (.ref p)) (.st p xs its) (p :: xs)
  | al {x : Addr} : SlA K B G H (some (.ref x)) (.al x) []
  | oi {x : Addr} {it : Str × List (Str × D)} : B.H0 x = none → ItA K G H x it → SlA K B G H (some (.ref x)) (.oi x it) [x]
inductive SlsA (K : PySem.W.Frag) (B : Bs) (G H : Hp) : L2.St → List Sl → List Addr → Prop
  | nil : SlsA K B G H [] [] []
  | cons {o : Option V} {s : Sl} {σ : L2.St} {δ : List Sl} {F F' : List Addr} : SlA K B G H o s F → SlsA K B G H σ δ F' → SlsA K B G H (o :: σ) (s :: δ) (F ++ F')
section
variable {K : PySem.W.Frag} {B : Bs} {G G' H H' : Hp}
theorem SlA.mono (e : Ex G G') (h : Ex H H') {o : Option V} {s : Sl} {F : List Addr} (x : SlA K B G H o s F) : SlA K B G' H' o s F := by
  cases x with
  | un => exact .un
  | sh a => exact .sh (a.mono e)
  | own n a b => exact .own n (h _ _ a) (b.mono e)
  | ow2 n a b => exact .ow2 n (h _ _ a) (Paired.mapP b fun q ds ⟨vs, c, d⟩ => ⟨vs, h _ _ c, d.mono e⟩)
  | st n a b => exact .st n (h _ _ a) (Paired.mapP b fun q ds ⟨dx, vs, c, d⟩ => ⟨dx, vs, h _ _ c, d.mono e⟩)
  | al => exact .al
  | oi n a => exact .oi n (let ⟨dx, vs, c, d⟩ := a; ⟨dx, vs, h _ _ c, d.mono e⟩)
theorem SlsA.mono (e : Ex G G') (h : Ex H H') : ∀ {σ : L2.St} {δ : List Sl} {F : List Addr}, SlsA K B G H σ δ F → SlsA K B G' H' σ δ F
  | _, _, _, .nil => .nil
  | _, _, _, .cons a b => .cons (a.mono e h) (b.mono e h)
theorem Paired.mapM {α β : Type} {P Q : α → β → Prop} : ∀ {l₁ : List α} {l₂ : List β}, Paired P l₁ l₂ → (∀ a ∈ l₁, ∀ b, P a b → Q a b) → Paired Q l₁ l₂
  | _, _, .nil, _ => .nil
  | _, _, .cons r t, f => .cons (f _ (by simp) _ r) (Paired.mapM t fun a m b p => f a (by simp [m]) b p)
/-- what a slot leans on -/
theorem SlA.at_ (h : ∀ a, ∀ o, H a = some o → a ∈ F → H' a = some o) {o : Option V} {s : Sl} (x : SlA K B G H o s F) : SlA K B G H' o s F := by
  cases x with
  | un => exact .un
  | sh a => exact .sh a
  | own n a b => exact .own n (h _ _ a (by simp)) b
  | ow2 n a b => exact .ow2 n (h _ _ a (by simp)) (Paired.mapM b fun q m ds ⟨vs, c, d⟩ => ⟨vs, h _ _ c (by simp [m]), d⟩)
  | st n a b => exact .st n (h _ _ a (by simp)) (Paired.mapM b fun q m ds ⟨dx, vs, c, d⟩ => ⟨dx, vs, h _ _ c (by simp [m]), d⟩)
  | al => exact .al
  | oi n a => exact .oi n (let ⟨dx, vs, c, d⟩ := a; ⟨dx, vs, h _ _ c (by simp), d⟩)
theorem SlsA.at_ : ∀ {σ : L2.St} {δ : List Sl} {F : List Addr}, (∀ a, ∀ o, H a = some o → a ∈ F → H' a = some o) → SlsA K B G H σ δ F → SlsA K B G H' σ δ F
  | _, _, _, _, .nil => .nil
  | _, _, _, h, .cons a b => .cons (a.at_ fun c o e m => h c o e (List.mem_append_left _ m)) (b.at_ fun c o e m => h c o e (List.mem_append_right _ m))
theorem SlA.there {o : Option V} {s : Sl} {F : List Addr} (x : SlA K B G H o s F) : ∀ p ∈ F, ∃ u, H p = some u := by
  have key : ∀ {β : Type} {P : Addr → β → Prop} {qs : List Addr} {l : List β}, Paired P qs l → (∀ q b, P q b → ∃ u, H q = some u) → ∀ q ∈ qs, ∃ u, H q = some u := by
    intro β P qs l h f
    induction h with
    | nil => intro q m; simp at m
    | cons r t ih =>
      intro q m
      rcases List.mem_cons.mp m with rfl | m
      · exact f _ _ r
      · exact ih q m
  cases x with
  | un => intro p m; simp at m
  | sh a => intro p m; simp at m
  | own n a b => intro p m; simp at m; subst m; exact ⟨_, a⟩
  | ow2 n a b =>
    intro p m
    rcases List.mem_cons.mp m with rfl | m
    · exact ⟨_, a⟩
    · exact key b (fun q ds ⟨vs, c, _⟩ => ⟨_, c⟩) p m
  | st n a b =>
    intro p m
    rcases List.mem_cons.mp m with rfl | m
    · exact ⟨_, a⟩
    · exact key b (fun q ds ⟨_, vs, c, _⟩ => ⟨_, c⟩) p m
  | al => intro p m; simp at m
  | oi n a =>
    intro p m
    simp at m
    subst m
    obtain ⟨dx, vs, c, d⟩ := a
    exact ⟨_, c⟩
theorem SlsA.there : ∀ {σ : L2.St} {δ : List Sl} {F : List Addr}, SlsA K B G H σ δ F → ∀ p ∈ F, ∃ u, H p = some u
  | _, _, _, .nil, p, m => by simp at m
  | _, _, _, .cons a b, p, m => by
    rcases List.mem_append.mp m with m | m
    · exact a.there p m
    · exact b.there p m
theorem SlsA.length : ∀ {σ : L2.St} {δ : List Sl} {F : List Addr}, SlsA K B G H σ δ F → σ.length = δ.length
  | _, _, _, .nil => rfl
  | _, _, _, .cons _ b => congrArg (· + 1) b.length
/-- the slot at i, and what may be put in its place -/
theorem SlsA.cut : ∀ {σ : L2.St} {δ : List Sl} {F : List Addr} {i : Nat} {s : Sl}, SlsA K B G H σ δ F → δ[i]? = some s →
    ∃ o F1 Fi F2, F = F1 ++ (Fi ++ F2) ∧ σ[i]? = some o ∧ SlA K B G H o s Fi ∧
      ∀ (H' : Hp) o' s' Fi', (∀ a u, H a = some u → a ∈ F1 ++ F2 → H' a = some u) → SlA K B G H' o' s' Fi' → SlsA K B G H' (σ.set i o') (δ.set i s') (F1 ++ (Fi' ++ F2))
  | _, _, _, _, _, .nil, e => by simp at e
  | _, _, _, 0, _, .cons (o := o) (F := F) (F' := F') a b, e => by
    simp at e
    subst e
    exact ⟨o, [], F, F', rfl, rfl, a, fun H' o' s' Fi' k x => SlsA.cons (F := Fi') (F' := F') x (b.at_ fun c u h m => k c u h (by simpa using m))⟩
  | _, _, _, i + 1, s, .cons (o := o) (F := F) (F' := F') a b, e => by
    obtain ⟨o1, F1, Fi, F2, e1, e2, x, k⟩ := SlsA.cut (i := i) (s := s) b (by simpa using e)
    refine ⟨o1, F ++ F1, Fi, F2, by rw [e1, List.append_assoc], by simpa using e2, x, fun H' o' s' Fi' kk y => ?_⟩
    have q := k H' o' s' Fi' (fun c u h m => kk c u h (by
      rcases List.mem_append.mp m with m | m
      · exact List.mem_append_left _ (List.mem_append_right _ m)
      · exact List.mem_append_right _ m)) y
    have r := a.at_ (H' := H') fun c u h m => kk c u h (List.mem_append_left _ (List.mem_append_left _ m))
    rw [List.append_assoc]
    exact .cons r q
end

/-! ### where one stands -/
structure Rel (B : Bs) (G H : Hp) : Prop where
  g : Ex B.G0 G
  h : ∀ a o, B.H0 a = some o → ¬ B.W a → H a = some o
  s : Ex G H
  f : ∀ a o, B.H0 a = some o → B.G0 a = none → G a = none
  t : ∀ a, B.H0 a ≠ none → H a ≠ none
structure SA (K : PySem.W.Frag) (B : Bs) (G H : Hp) (σ : L2.St) (δ : List Sl) (X : List Addr) : Prop where
  rel : Rel B G H
  sl : ∃ F, SlsA K B G H σ δ F ∧ (F ++ X).Nodup ∧ (∀ p ∈ F ++ X, G p = none ∧ H p ≠ none) ∧ ∀ p ∈ X, B.H0 p = none
section
variable {K : PySem.W.Frag} {B : Bs} {G G' H H' : Hp} {σ : L2.St} {δ : List Sl} {X : List Addr}
/-- a new thing, known for good -/
theorem SA.fresh {p : Addr} {o : HO} (S : SA K B G H σ δ X) (h : H p = none) : SA K B (upd G p o) (upd H p o) σ δ X := by
  have hG := S.rel.s.none h
  obtain ⟨F, s1, s2, s3, s4⟩ := S.sl
  refine ⟨⟨S.rel.g.trans (Ex.new hG), fun a u e w => Ex.new h _ _ (S.rel.h a u e w), fun a u e => ?_, fun a u e e' => ?_, fun a e => ?_⟩, F, s1.mono (Ex.new hG) (Ex.new h), s2, fun q m => ?_, s4⟩
  · by_cases c : a = p
    · subst c
      rw [upd_same] at e ⊢
      exact e
    · rw [upd_ne c] at e ⊢
      exact S.rel.s a u e
  · by_cases c : a = p
    · subst c
      exact absurd h (S.rel.t a (by rw [e]; simp))
    · rw [upd_ne c]
      exact S.rel.f a u e e'
  · by_cases c : a = p
    · subst c
      rw [upd_same]
      simp
    · rw [upd_ne c]
      exact S.rel.t a e
  · obtain ⟨q1, q2⟩ := s3 q m
    have c : q ≠ p := fun z => q2 (by rw [z]; exact h)
    rw [upd_ne c, upd_ne c]
    exact ⟨q1, q2⟩
/-- a new thing of one's own -/
theorem SA.mine {p : Addr} {o : HO} (S : SA K B G H σ δ X) (h : H p = none) : SA K B G (upd H p o) σ δ (p :: X) := by
  have hG := S.rel.s.none h
  obtain ⟨F, s1, s2, s3, s4⟩ := S.sl
  have np : p ∉ F ++ X := fun m => (s3 p m).2 h
  refine ⟨⟨S.rel.g, fun a u e w => Ex.new h _ _ (S.rel.h a u e w), S.rel.s.trans (Ex.new h), S.rel.f, fun a e => ?_⟩, F, s1.mono (Ex.refl _) (Ex.new h), ?_, fun q m => ?_, fun q m => ?_⟩
  · by_cases c : a = p
    · subst c
      rw [upd_same]
      simp
    · rw [upd_ne c]
      exact S.rel.t a e
  · rw [List.nodup_append] at s2 ⊢
    refine ⟨s2.1, List.nodup_cons.mpr ⟨fun m => np (List.mem_append_right _ m), s2.2.1⟩, fun a ha b hb => ?_⟩
    rcases List.mem_cons.mp hb with rfl | hb
    · exact fun z => np (by rw [← z]; exact List.mem_append_left _ ha)
    · exact s2.2.2 a ha b hb
  · have m' : q = p ∨ q ∈ F ++ X := by
      rcases List.mem_append.mp m with m | m
      · exact .inr (List.mem_append_left _ m)
      · rcases List.mem_cons.mp m with m | m
        · exact .inl m
        · exact .inr (List.mem_append_right _ m)
    rcases m' with rfl | m'
    · exact ⟨hG, by rw [upd_same]; simp⟩
    · obtain ⟨q1, q2⟩ := s3 q m'
      refine ⟨q1, ?_⟩
      by_cases c : q = p
      · rw [c, upd_same]
        simp
      · rw [upd_ne c]
        exact q2
  · rcases List.mem_cons.mp m with rfl | m
    · cases e : B.H0 q with
      | none => rfl
      | some u => exact absurd h (S.rel.t q (by rw [e]; simp))
    · exact s4 q m
/-- what is one's own becomes known for good -/
theorem SA.freeze {p : Addr} {o : HO} (S : SA K B G H σ δ (p :: X)) (h : H p = some o) : SA K B (upd G p o) H σ δ X ∧ Ex G (upd G p o) := by
  obtain ⟨F, s1, s2, s3, s4⟩ := S.sl
  obtain ⟨hG, _⟩ := s3 p (by simp)
  have hw := s4 p (by simp)
  have e1 : Ex G (upd G p o) := Ex.new hG
  rw [List.nodup_append] at s2
  obtain ⟨t1, t2, t3⟩ := s2
  obtain ⟨t4, t5⟩ := List.nodup_cons.mp t2
  have np : p ∉ F ++ X := fun m => by
    rcases List.mem_append.mp m with m | m
    · exact t3 p m p (by simp) rfl
    · exact t4 m
  refine ⟨⟨⟨S.rel.g.trans e1, S.rel.h, fun a u e => ?_, fun a u e e' => ?_, S.rel.t⟩, F, s1.mono e1 (Ex.refl _), ?_, fun q m => ?_, fun q m => s4 q (List.mem_cons_of_mem _ m)⟩, e1⟩
  · by_cases c : a = p
    · subst c
      rw [upd_same] at e
      rw [← e]
      exact h
    · rw [upd_ne c] at e
      exact S.rel.s a u e
  · by_cases c : a = p
    · subst c
      rw [hw] at e
      cases e
    · rw [upd_ne c]
      exact S.rel.f a u e e'
  · rw [List.nodup_append]
    exact ⟨t1, t5, fun a ha b hb => t3 a ha b (List.mem_cons_of_mem _ hb)⟩
  · have m' : q ∈ F ++ p :: X := by
      rcases List.mem_append.mp m with m | m
      · exact List.mem_append_left _ m
      · exact List.mem_append_right _ (List.mem_cons_of_mem _ m)
    obtain ⟨q1, q2⟩ := s3 q m'
    have c : q ≠ p := fun z => np (by rw [← z]; exact m)
    rw [upd_ne c]
    exact ⟨q1, q2⟩
end
end Dg
namespace Dg
open PySem PySem.Spec PyProof.Rows L2
section
variable {K : PySem.W.Frag} {B : Bs} {G G' H H' : Hp} {σ : L2.St} {δ : List Sl} {X : List Addr}
theorem set_self {α : Type} : ∀ {l : List α} {i : Nat} {x : α}, l[i]? = some x → l.set i x = l
  | [], i, x, h => by simp at h
  | a :: l, 0, x, h => by simp at h; subst h; rfl
  | a :: l, i + 1, x, h => by
    have e := set_self (l := l) (i := i) (x := x) (by simpa using h)
    show a :: l.set i x = a :: l
    rw [e]
/-- a slot is given a new meaning, perhaps with a thing of one's own that is written or new -/
theorem SA.put {i : Nat} {v : V} {d : D} (S : SA K B G H σ δ X) (h : At K G v d) (hi : i < δ.length) : SA K B G H (σ.set i (some v)) (δ.set i (.sh d)) X := by
  obtain ⟨F, s1, s2, s3, s4⟩ := S.sl
  obtain ⟨o, F1, Fi, F2, e1, e2, x, k⟩ := s1.cut (i := i) (s := δ[i]) (by simp [hi])
  subst e1
  refine ⟨S.rel, F1 ++ ([] ++ F2), k H (some v) (.sh d) [] (fun a u e _ => e) (.sh h), ?_, fun p m => s3 p ?_, s4⟩
  · simp only [List.nil_append, List.append_assoc] at s2 ⊢
    refine s2.sublist ?_
    exact (List.Sublist.refl F1).append (List.sublist_append_right Fi (F2 ++ X))
  · simp only [List.nil_append, List.mem_append] at m ⊢
    rcases m with (m | m) | m
    · exact .inl (.inl m)
    · exact .inl (.inr (.inr m))
    · exact .inr m
theorem SA.forget {i : Nat} (S : SA K B G H σ δ X) : SA K B G H σ (δ.set i .un) X := by
  by_cases hi : i < δ.length
  · obtain ⟨F, s1, s2, s3, s4⟩ := S.sl
    obtain ⟨o, F1, Fi, F2, e1, e2, x, k⟩ := s1.cut (i := i) (s := δ[i]) (by simp [hi])
    subst e1
    have q := k H o .un [] (fun a u e _ => e) .un
    rw [set_self e2] at q
    refine ⟨S.rel, F1 ++ ([] ++ F2), q, ?_, fun p m => s3 p ?_, s4⟩
    · simp only [List.nil_append, List.append_assoc] at s2 ⊢
      refine s2.sublist ?_
      exact (List.Sublist.refl F1).append (List.sublist_append_right Fi (F2 ++ X))
    · simp only [List.nil_append, List.mem_append] at m ⊢
      rcases m with (m | m) | m
      · exact .inl (.inl m)
      · exact .inl (.inr (.inr m))
      · exact .inr m
  · rw [List.set_eq_of_length_le (by omega)]
    exact S
/-- a slot gets a new list -/
theorem SA.putOwn {i : Nat} {p : Addr} {vs : List V} {ds : List D} (S : SA K B G H σ δ (p :: X)) (h : H p = some (.lst vs)) (a : Ats K G vs ds) (hi : i < δ.length) : SA K B G H (σ.set i (some (.ref p))) (δ.set i (.own ds)) X := by
  obtain ⟨F, s1, s2, s3, s4⟩ := S.sl
  obtain ⟨o, F1, Fi, F2, e1, e2, x, k⟩ := s1.cut (i := i) (s := δ[i]) (by simp [hi])
  subst e1
  refine ⟨S.rel, F1 ++ ([p] ++ F2), k H (some (.ref p)) (.own ds) [p] (fun a u e _ => e) (.own (s4 p (by simp)) h a), ?_, fun q m => s3 q ?_, fun q m => s4 q (List.mem_cons_of_mem _ m)⟩
  · have e : (F1 ++ ([p] ++ F2) ++ X).Perm (F1 ++ (F2 ++ p :: X)) := by
      rw [List.append_assoc]
      refine List.Perm.append_left F1 ?_
      simpa using (List.perm_middle (a := p) (l₁ := F2) (l₂ := X)).symm
    rw [e.nodup_iff]
    simp only [List.append_assoc] at s2
    refine s2.sublist ?_
    exact (List.Sublist.refl F1).append (List.sublist_append_right Fi (F2 ++ p :: X))
  · simp only [List.singleton_append, List.mem_append, List.mem_cons] at m ⊢
    rcases m with (m | m | m) | m
    · exact .inl (.inl m)
    · exact .inr (.inl m)
    · exact .inl (.inr (.inr m))
    · exact .inr (.inr m)
/-- one's own list at a slot -/
theorem SA.own {i : Nat} {ds : List D} (S : SA K B G H σ δ X) (h : δ[i]? = some (.own ds)) : ∃ p vs, σ[i]? = some (some (.ref p)) ∧ H p = some (.lst vs) ∧ Ats K G vs ds ∧ G p = none ∧
    ∀ vs' ds', Ats K G vs' ds' → SA K B G (upd H p (.lst vs')) σ (δ.set i (.own ds')) X := by
  obtain ⟨F, s1, s2, s3, s4⟩ := S.sl
  obtain ⟨o, F1, Fi, F2, e1, e2, x, k⟩ := s1.cut h
  subst e1
  cases x with
  | own n a b =>
    rename_i p vs
    have nd : p ∉ F1 ++ F2 ∧ p ∉ X := by
      simp only [List.append_assoc, List.singleton_append, List.cons_append, List.nil_append] at s2
      have e : (F1 ++ p :: (F2 ++ X)).Perm (p :: (F1 ++ (F2 ++ X))) := List.perm_middle
      rw [e.nodup_iff] at s2
      have q := (List.nodup_cons.mp s2).1
      simp only [List.mem_append, not_or] at q ⊢
      exact ⟨⟨q.1, q.2.1⟩, q.2.2⟩
    have hp := s3 p (by simp)
    refine ⟨p, vs, e2, a, b, hp.1, fun vs' ds' b' => ?_⟩
    have q := k (upd H p (.lst vs')) (some (.ref p)) (.own ds') [p] (fun c u e m => by
      rw [upd_ne (fun z => nd.1 (by rw [← z]; exact m))]
      exact e) (.own n upd_same b')
    rw [set_self e2] at q
    refine ⟨⟨S.rel.g, fun c u e w => ?_, fun c u e => ?_, S.rel.f, fun c e => ?_⟩, _, q, s2, fun c m => ?_, s4⟩
    · rw [upd_ne (fun z => by rw [z, n] at e; cases e)]
      exact S.rel.h c u e w
    · rw [upd_ne (fun z => by rw [z, hp.1] at e; cases e)]
      exact S.rel.s c u e
    · by_cases z : c = p
      · rw [z, upd_same]
        simp
      · rw [upd_ne z]
        exact S.rel.t c e
    · obtain ⟨q1, q2⟩ := s3 c m
      refine ⟨q1, ?_⟩
      by_cases z : c = p
      · rw [z, upd_same]
        simp
      · rw [upd_ne z]
        exact q2
/-- one's own list becomes a datum -/
theorem SA.frz {i : Nat} {ds : List D} (S : SA K B G H σ δ X) (h : δ[i]? = some (.own ds)) : ∃ G', Ex G G' ∧ SA K B G' H σ (δ.set i (.sh (.lst ds))) X := by
  obtain ⟨F, s1, s2, s3, s4⟩ := S.sl
  obtain ⟨o, F1, Fi, F2, e1, e2, x, k⟩ := s1.cut h
  subst e1
  cases x with
  | own n a b =>
    rename_i p vs
    have q := k H (some (.ref p)) .un [] (fun a u e _ => e) .un
    rw [set_self e2] at q
    have S1 : SA K B G H σ (δ.set i .un) (p :: X) := by
      refine ⟨S.rel, _, q, ?_, fun c m => s3 c ?_, fun c m => ?_⟩
      · have e : (F1 ++ ([] ++ F2) ++ p :: X).Perm (F1 ++ ([p] ++ F2) ++ X) := by
          simp only [List.nil_append, List.append_assoc, List.singleton_append]
          exact List.Perm.append_left F1 List.perm_middle
        rw [e.nodup_iff]
        exact s2
      · simp only [List.nil_append, List.mem_append, List.mem_cons, List.singleton_append] at m ⊢
        rcases m with (m | m) | m | m
        · exact .inl (.inl m)
        · exact .inl (.inr (.inr m))
        · exact .inl (.inr (.inl m))
        · exact .inr m
      · rcases List.mem_cons.mp m with rfl | m
        · exact n
        · exact s4 c m
    obtain ⟨S2, e⟩ := S1.freeze a
    refine ⟨_, e, ?_⟩
    have hi : i < (δ.set i Sl.un).length := by
      rw [List.length_set]
      exact (List.getElem?_eq_some_iff.mp h).1
    have r := S2.put (i := i) (v := .ref p) (d := .lst ds) (.lst upd_same (b.mono e)) hi
    rw [set_self e2, List.set_set] at r
    exact r
theorem SA.len (S : SA K B G H σ δ X) : σ.length = δ.length := by
  obtain ⟨F, s1, _⟩ := S.sl
  exact s1.length
theorem SA.sh {i : Nat} {d : D} (S : SA K B G H σ δ X) (h : δ[i]? = some (.sh d)) : ∃ v, σ[i]? = some (some v) ∧ At K G v d := by
  obtain ⟨F, s1, _⟩ := S.sl
  obtain ⟨o, F1, Fi, F2, e1, e2, x, k⟩ := s1.cut h
  cases x with
  | sh a => exact ⟨_, e2, a⟩
end

/-! ### what evaluates to what -/
section
variable (K : PySem.W.Frag) (B : Bs) (δ : List Sl)
def ED (te : TE) (d : D) : Prop := ∀ G H σ X, SA K B G H σ δ X → ∀ Q : VK, (∀ v G' H', Ex G G' → Ex H H' → SA K B G' H' σ δ X → At K G' v d → Q v H') → te σ H Q
/-- a new list -/
def EN (te : TE) (ds : List D) : Prop := ∀ G H σ X, SA K B G H σ δ X → ∀ Q : VK, (∀ p vs G' H', Ex G G' → Ex H H' → SA K B G' H' σ δ (p :: X) → H' p = some (.lst vs) → Ats K G' vs ds → Q (.ref p) H') → te σ H Q
def EA (ta : TA) (ds : List D) : Prop := ∀ G H σ X, SA K B G H σ δ X → ∀ Q : List V → Hp → Prop, (∀ vs G' H', Ex G G' → Ex H H' → SA K B G' H' σ δ X → Ats K G' vs ds → Q vs H') → ta σ H Q
def ET (tt : TT) (b : Bool) : Prop := ∀ G H σ X, SA K B G H σ δ X → ∀ Q : Bool → Hp → Prop, (∀ G' H', Ex G G' → Ex H H' → SA K B G' H' σ δ X → Q b H') → tt σ H Q
def EO (to : TO) (o : Option Int) : Prop := ∀ G H σ X, SA K B G H σ δ X → ∀ Q : Option Int → Hp → Prop, (∀ G' H', Ex G G' → Ex H H' → SA K B G' H' σ δ X → Q o H') → to σ H Q
end
section
variable {K : PySem.W.Frag} {B : Bs} {δ : List Sl} {ta tb te tx : TE} {t u : TT} {d e : D}
theorem ed_var {i : Nat} (h : δ[i]? = some (.sh d)) : ED K B δ (tVar i) d := fun G H σ X S Q k => by
  obtain ⟨v, e1, e2⟩ := S.sh h
  exact ⟨v, e1, k v G H (Ex.refl _) (Ex.refl _) S e2⟩
theorem ed_int {i : Int} : ED K B δ (tC (.int i)) (.int i) := fun G H σ X S Q k => k _ G H (Ex.refl _) (Ex.refl _) S .int
theorem ed_bl {i : Bool} : ED K B δ (tC (.bl i)) (.bl i) := fun G H σ X S Q k => k _ G H (Ex.refl _) (Ex.refl _) S .bl
theorem ed_str {i : Str} : ED K B δ (tC (.str i)) (.str i) := fun G H σ X S Q k => k _ G H (Ex.refl _) (Ex.refl _) S .str
theorem ed_non : ED K B δ (tC .non) .non := fun G H σ X S Q k => k _ G H (Ex.refl _) (Ex.refl _) S .non
theorem ed_is (h : ED K B δ te d) (q : d = e) : ED K B δ te e := q ▸ h
theorem et_is {b c : Bool} (h : ET K B δ t b) (q : b = c) : ET K B δ t c := q ▸ h
theorem en_is {ds es : List D} (h : EN K B δ te ds) (q : ds = es) : EN K B δ te es := q ▸ h
theorem EN.ed {ds : List D} (h : EN K B δ te ds) : ED K B δ te (.lst ds) := fun G H σ X S Q k =>
  h G H σ X S Q fun p vs G' H' e1 e2 S' hp ha => by
    obtain ⟨S2, e3⟩ := S'.freeze hp
    exact k _ _ _ (e1.trans e3) e2 S2 (.lst upd_same (ha.mono e3))
theorem ea_nil : EA K B δ tNil [] := fun G H σ X S Q k => k [] G H (Ex.refl _) (Ex.refl _) S .nil
theorem ea_cons {tr : TA} {ds : List D} (h : ED K B δ ta d) (hr : EA K B δ tr ds) : EA K B δ (tCons ta tr) (d :: ds) := fun G H σ X S Q k =>
  h G H σ X S _ fun v G1 H1 e1 e2 S1 a => hr G1 H1 σ X S1 _ fun vs G2 H2 e3 e4 S2 b => k _ _ _ (e1.trans e3) (e2.trans e4) S2 (.cons (a.mono e3) b)
/-- an operation on values -/
theorem ed_op {r : R2} {f : D} (ha : ED K B δ ta d) (hb : ED K B δ tb e)
    (hr : ∀ G H σ X x y, SA K B G H σ δ X → At K G x d → At K G y e → ∀ Q : VK, (∀ v G' H', Ex G G' → Ex H H' → SA K B G' H' σ δ X → At K G' v f → Q v H') → r x y H Q) : ED K B δ (tOp r ta tb) f := fun G H σ X S Q k =>
  ha G H σ X S _ fun v G1 H1 e1 e2 S1 a => hb G1 H1 σ X S1 _ fun w G2 H2 e3 e4 S2 b =>
    hr G2 H2 σ X v w S2 (a.mono e3) b Q fun z G3 H3 e5 e6 S3 c => k _ _ _ ((e1.trans e3).trans e5) ((e2.trans e4).trans e6) S3 c
theorem en_op {r : R2} {fs : List D} (ha : ED K B δ ta d) (hb : ED K B δ tb e)
    (hr : ∀ G H σ X x y, SA K B G H σ δ X → At K G x d → At K G y e → ∀ Q : VK, (∀ p vs, H p = none → Ats K G vs fs → Q (.ref p) (upd H p (.lst vs))) → r x y H Q) : EN K B δ (tOp r ta tb) fs := fun G H σ X S Q k =>
  ha G H σ X S _ fun v G1 H1 e1 e2 S1 a => hb G1 H1 σ X S1 _ fun w G2 H2 e3 e4 S2 b =>
    hr G2 H2 σ X v w S2 (a.mono e3) b Q fun p vs hp c => k _ _ _ _ (e1.trans e3) ((e2.trans e4).trans (Ex.new hp)) (S2.mine hp) upd_same c
theorem ed_I0 {g : Int → Int → V} {g' : Int → Int → D} {i j : Int} (ha : ED K B δ ta (.int i)) (hb : ED K B δ tb (.int j)) (hg : ∀ G, At K G (g i j) (g' i j)) : ED K B δ (tOp (rI0 g) ta tb) (g' i j) :=
  ed_op ha hb fun G H σ X x y S a b Q k => ⟨i, j, a.int_eq, b.int_eq, k _ _ _ (Ex.refl _) (Ex.refl _) S (hg G)⟩
theorem ed_I {C : Int → Int → Prop} {g : Int → Int → V} {g' : Int → Int → D} {i j : Int} (ha : ED K B δ ta (.int i)) (hb : ED K B δ tb (.int j)) (hc : C i j) (hg : ∀ G, At K G (g i j) (g' i j)) : ED K B δ (tOp (rI C g) ta tb) (g' i j) :=
  ed_op ha hb fun G H σ X x y S a b Q k => ⟨i, j, a.int_eq, b.int_eq, hc, k _ _ _ (Ex.refl _) (Ex.refl _) S (hg G)⟩
section
variable {i j : Int}
theorem ed_add (ha : ED K B δ ta (.int i)) (hb : ED K B δ tb (.int j)) : ED K B δ (tOp (rI0 fun i j => .int (i + j)) ta tb) (.int (i + j)) := ed_I0 (g' := fun i j => .int (i + j)) ha hb fun _ => .int
theorem ed_sub (ha : ED K B δ ta (.int i)) (hb : ED K B δ tb (.int j)) : ED K B δ (tOp (rI0 fun i j => .int (i - j)) ta tb) (.int (i - j)) := ed_I0 (g' := fun i j => .int (i - j)) ha hb fun _ => .int
theorem ed_mul (ha : ED K B δ ta (.int i)) (hb : ED K B δ tb (.int j)) (hc : CMul i j) : ED K B δ (tOp (rI CMul fun i j => .int (i * j)) ta tb) (.int (i * j)) := ed_I (g' := fun i j => .int (i * j)) ha hb hc fun _ => .int
theorem ed_fdiv (ha : ED K B δ ta (.int i)) (hb : ED K B δ tb (.int j)) (hc : CDiv i j) : ED K B δ (tOp (rI CDiv fun i j => .int (i / j)) ta tb) (.int (i / j)) := ed_I (g' := fun i j => .int (i / j)) ha hb hc fun _ => .int
theorem ed_mod (ha : ED K B δ ta (.int i)) (hb : ED K B δ tb (.int j)) (hc : 0 < j) : ED K B δ (tOp (rI (fun _ j => 0 < j) fun i j => .int (i % j)) ta tb) (.int (i % j)) := ed_I (g' := fun i j => .int (i % j)) ha hb hc fun _ => .int
theorem ed_lt (ha : ED K B δ ta (.int i)) (hb : ED K B δ tb (.int j)) : ED K B δ (tOp (rI0 fun i j => .bl (decide (i < j))) ta tb) (.bl (decide (i < j))) := ed_I0 (g' := fun i j => .bl (decide (i < j))) ha hb fun _ => .bl
theorem ed_le (ha : ED K B δ ta (.int i)) (hb : ED K B δ tb (.int j)) : ED K B δ (tOp (rI0 fun i j => .bl (decide (i ≤ j))) ta tb) (.bl (decide (i ≤ j))) := ed_I0 (g' := fun i j => .bl (decide (i ≤ j))) ha hb fun _ => .bl
theorem ed_gt (ha : ED K B δ ta (.int i)) (hb : ED K B δ tb (.int j)) : ED K B δ (tOp (rI0 fun i j => .bl (decide (j < i))) ta tb) (.bl (decide (j < i))) := ed_I0 (g' := fun i j => .bl (decide (j < i))) ha hb fun _ => .bl
theorem ed_ge (ha : ED K B δ ta (.int i)) (hb : ED K B δ tb (.int j)) : ED K B δ (tOp (rI0 fun i j => .bl (decide (j ≤ i))) ta tb) (.bl (decide (j ≤ i))) := ed_I0 (g' := fun i j => .bl (decide (j ≤ i))) ha hb fun _ => .bl
theorem ed_eq (ha : ED K B δ ta (.int i)) (hb : ED K B δ tb (.int j)) : ED K B δ (tOp rEq ta tb) (.bl (decide (i = j))) :=
  ed_op ha hb fun G H σ X x y S a b Q k => by
    rw [a.int_eq, b.int_eq]
    refine ⟨rfl, ?_⟩
    have e : decide (V.int i = V.int j) = decide (i = j) := by rw [L2.dec_int]; exact Bool.beq_eq_decide_eq i j
    rw [e]
    exact k _ _ _ (Ex.refl _) (Ex.refl _) S .bl
theorem ed_ne (ha : ED K B δ ta (.int i)) (hb : ED K B δ tb (.int j)) : ED K B δ (tOp rNe ta tb) (.bl (!decide (i = j))) :=
  ed_op ha hb fun G H σ X x y S a b Q k => by
    rw [a.int_eq, b.int_eq]
    refine ⟨rfl, ?_⟩
    have e : decide (V.int i = V.int j) = decide (i = j) := by rw [L2.dec_int]; exact Bool.beq_eq_decide_eq i j
    rw [e]
    exact k _ _ _ (Ex.refl _) (Ex.refl _) S .bl
theorem ed_neg (ha : ED K B δ ta (.int i)) : ED K B δ (tUn (rU fun i => .int (-i)) ta) (.int (-i)) := fun G H σ X S Q k =>
  ha G H σ X S _ fun v G1 H1 e1 e2 S1 a => ⟨i, a.int_eq, k _ _ _ e1 e2 S1 .int⟩
end
/-! tests -/
theorem et_test {b : Bool} (h : ED K B δ te (.bl b)) : ET K B δ (tTest te) b := fun G H σ X S Q k =>
  h G H σ X S _ fun v G1 H1 e1 e2 S1 a => ⟨b, a.bl_eq, k _ _ e1 e2 S1⟩
theorem et_B {b : Bool} (h : ED K B δ te (.bl b)) : ET K B δ (tB te) b := fun G H σ X S Q k =>
  h G H σ X S _ fun v G1 H1 e1 e2 S1 a => ⟨b, a.bl_eq, k _ _ e1 e2 S1⟩
theorem et_and {a b : Bool} (h1 : ET K B δ t a) (h2 : a = true → ET K B δ u b) : ET K B δ (tAnd t u) (a && b) := fun G H σ X S Q k =>
  h1 G H σ X S _ fun G1 H1 e1 e2 S1 => by
    cases a with
    | true => exact h2 rfl G1 H1 σ X S1 Q fun G2 H2 e3 e4 S2 => k _ _ (e1.trans e3) (e2.trans e4) S2
    | false => exact k _ _ e1 e2 S1
theorem et_or {a b : Bool} (h1 : ET K B δ t a) (h2 : a = false → ET K B δ u b) : ET K B δ (tOr t u) (a || b) := fun G H σ X S Q k =>
  h1 G H σ X S _ fun G1 H1 e1 e2 S1 => by
    cases a with
    | true => exact k _ _ e1 e2 S1
    | false => exact h2 rfl G1 H1 σ X S1 Q fun G2 H2 e3 e4 S2 => k _ _ (e1.trans e3) (e2.trans e4) S2
theorem et_not {a : Bool} (h1 : ET K B δ t a) : ET K B δ (tNot t) (!a) := fun G H σ X S Q k => h1 G H σ X S _ fun G1 H1 e1 e2 S1 => k _ _ e1 e2 S1
theorem ed_andV {a b : Bool} (h1 : ED K B δ ta (.bl a)) (h2 : a = true → ED K B δ tb (.bl b)) : ED K B δ (tAndV ta tb) (.bl (a && b)) := fun G H σ X S Q k =>
  h1 G H σ X S _ fun v G1 H1 e1 e2 S1 x => ⟨a, x.bl_eq, by
    cases a with
    | true => exact h2 rfl G1 H1 σ X S1 Q fun v G2 H2 e3 e4 S2 y => k _ _ _ (e1.trans e3) (e2.trans e4) S2 y
    | false => exact k _ _ _ e1 e2 S1 .bl⟩
theorem ed_orV {a b : Bool} (h1 : ED K B δ ta (.bl a)) (h2 : a = false → ED K B δ tb (.bl b)) : ED K B δ (tOrV ta tb) (.bl (a || b)) := fun G H σ X S Q k =>
  h1 G H σ X S _ fun v G1 H1 e1 e2 S1 x => ⟨a, x.bl_eq, by
    cases a with
    | true => exact k _ _ _ e1 e2 S1 .bl
    | false => exact h2 rfl G1 H1 σ X S1 Q fun v G2 H2 e3 e4 S2 y => k _ _ _ (e1.trans e3) (e2.trans e4) S2 y⟩
theorem ed_notV {a : Bool} (h1 : ED K B δ ta (.bl a)) : ED K B δ (tNotV ta) (.bl (!a)) := fun G H σ X S Q k =>
  h1 G H σ X S _ fun v G1 H1 e1 e2 S1 x => ⟨a, x.bl_eq, k _ _ _ e1 e2 S1 .bl⟩
theorem ed_if {b : Bool} (h : ET K B δ t b) (h1 : b = true → ED K B δ ta d) (h2 : b = false → ED K B δ tb e) : ED K B δ (tIf t ta tb) (if b = true then d else e) := fun G H σ X S Q k =>
  h G H σ X S _ fun G1 H1 e1 e2 S1 => by
    cases b with
    | true => exact h1 rfl G1 H1 σ X S1 Q fun v G2 H2 e3 e4 S2 y => k _ _ _ (e1.trans e3) (e2.trans e4) S2 y
    | false => exact h2 rfl G1 H1 σ X S1 Q fun v G2 H2 e3 e4 S2 y => k _ _ _ (e1.trans e3) (e2.trans e4) S2 y
def isNon : D → Bool
  | .non => true
  | _ => false
theorem ed_isN (h : ED K B δ ta d) : ED K B δ (tIsN ta) (.bl (isNon d)) := fun G H σ X S Q k =>
  h G H σ X S _ fun v G1 H1 e1 e2 S1 x => by
    have e : decide (v = .non) = isNon d := by cases x <;> rfl
    rw [e]
    exact k _ _ _ e1 e2 S1 .bl
theorem ed_notN (h : ED K B δ ta d) : ED K B δ (tNotN ta) (.bl (!isNon d)) := fun G H σ X S Q k =>
  h G H σ X S _ fun v G1 H1 e1 e2 S1 x => by
    have e : decide (v = .non) = isNon d := by cases x <;> rfl
    rw [e]
    exact k _ _ _ e1 e2 S1 .bl
/-! lists and tuples -/
theorem sz_of {n : Nat} (h : n ≤ 16000000) : n ≤ sizeLine := Nat.le_trans h (by decide)
theorem sz_lt {n : Nat} (h : n < 16000000) : n < sizeLine := Nat.lt_of_lt_of_le h (by decide)
theorem en_lst {ta : TA} {ds : List D} (h : EA K B δ ta ds) (hz : ds.length ≤ 16000000) : EN K B δ (tLst ta) ds := fun G H σ X S Q k =>
  h G H σ X S _ fun vs G1 H1 e1 e2 S1 a => ⟨sz_of (by rw [a.length]; exact hz), fun p hp => k p vs _ _ e1 (e2.trans (Ex.new hp)) (S1.mine hp) upd_same a⟩
theorem ed_tup {ta : TA} {ds : List D} (h : EA K B δ ta ds) (hz : ds.length ≤ 16000000) : ED K B δ (tTup ta) (.tup ds) := fun G H σ X S Q k =>
  h G H σ X S _ fun vs G1 H1 e1 e2 S1 a => ⟨sz_of (by rw [a.length]; exact hz), fun p hp => k _ _ _ (e1.trans (Ex.new (S1.rel.s.none hp))) (e2.trans (Ex.new hp)) (S1.fresh hp) (.tup upd_same (a.mono (Ex.new (S1.rel.s.none hp))))⟩
theorem en_cat {ds es : List D} (ha : ED K B δ ta (.lst ds)) (hb : ED K B δ tb (.lst es)) (hz : ds.length + es.length ≤ 16000000) : EN K B δ (tOp rCat ta tb) (ds ++ es) :=
  en_op ha hb fun G H σ X x y S a b Q k => by
    obtain ⟨p, vs, rfl, h1, h2⟩ := a.lst_eq
    obtain ⟨q, ws, rfl, h3, h4⟩ := b.lst_eq
    exact ⟨p, q, vs, ws, rfl, rfl, S.rel.s _ _ h1, S.rel.s _ _ h3, sz_of (by rw [h2.length, h4.length]; exact hz), fun l hl => k l _ hl (h2.append h4)⟩
theorem flat_rep {α : Type} (x : α) : ∀ n : Nat, (List.replicate n [x]).flatten = List.replicate n x
  | 0 => rfl
  | n + 1 => by
    rw [List.replicate_succ, List.flatten_cons, flat_rep x n]
    rfl
theorem en_rep {n : Int} (ha : ED K B δ ta (.lst [d])) (hb : ED K B δ tb (.int n)) (hz : n ≤ 16000000) (hl : -16000000 ≤ n) : EN K B δ (tOp rRep ta tb) (List.replicate n.toNat d) :=
  en_op ha hb fun G H σ X x y S a b Q k => by
    obtain ⟨p, vs, rfl, h1, h2⟩ := a.lst_eq
    have e := b.int_eq
    subst e
    cases h2 with
    | cons g r =>
      cases r
      refine ⟨p, n, _, rfl, rfl, S.rel.s _ _ h1, by omega, by omega, sz_of (by simp; omega), fun l hl => ?_⟩
      rw [flat_rep]
      exact k l _ hl (Ats.rep g _)
theorem Ats.atI {G : Hp} {vs : List V} {ds : List D} {i : Int} (h : Ats K G vs ds) (e : L2.atI ds i = some d) : ∃ v, L2.atI vs i = some v ∧ At K G v d := by
  unfold L2.atI at e ⊢
  rw [h.length]
  cases q : ixN ds.length i with
  | none =>
    rw [q] at e
    cases e
  | some j =>
    rw [q] at e
    exact h.get e
theorem ed_ix {ds : List D} {i : Int} (ha : ED K B δ ta (.lst ds)) (hb : ED K B δ tb (.int i)) (h : atI ds i = some d) : ED K B δ (tOp (rIxL K) ta tb) d :=
  ed_op ha hb fun G H σ X x y S a b Q k => by
    obtain ⟨p, vs, rfl, h1, h2⟩ := a.lst_eq
    obtain ⟨v, e1, e2⟩ := h2.atI h
    exact ⟨p, vs, i, v, rfl, b.int_eq, .of (S.rel.s _ _ h1), e1, k _ _ _ (Ex.refl _) (Ex.refl _) S e2⟩
theorem ed_ixT {ds : List D} {i : Int} (ha : ED K B δ ta (.tup ds)) (hb : ED K B δ tb (.int i)) (h : atI ds i = some d) : ED K B δ (tOp (rIxT K) ta tb) d :=
  ed_op ha hb fun G H σ X x y S a b Q k => by
    obtain ⟨p, vs, rfl, h1, h2⟩ := a.tup_eq
    obtain ⟨v, e1, e2⟩ := h2.atI h
    exact ⟨p, vs, i, v, rfl, b.int_eq, .of (S.rel.s _ _ h1), e1, k _ _ _ (Ex.refl _) (Ex.refl _) S e2⟩
end
end Dg
namespace Dg
open PySem PySem.Spec PyProof.Rows L2
section
variable {K : PySem.W.Frag} {B : Bs} {δ : List Sl} {ta tb te tx : TE} {t u : TT} {d e : D}
/-! slices -/
theorem eo_none : EO K B δ tNoPart none := fun G H σ X S Q k => k _ _ (Ex.refl _) (Ex.refl _) S
theorem eo_some {i : Int} (h : ED K B δ te (.int i)) : EO K B δ (tPart te) (some i) := fun G H σ X S Q k =>
  h G H σ X S _ fun v G1 H1 e1 e2 S1 a => ⟨i, a.int_eq, k _ _ e1 e2 S1⟩
def cutD {α : Type} (xs : List α) (lo hi : Option Int) : List α := (xs.drop (HT.sIx xs.length 0 lo)).take (HT.sIx xs.length xs.length hi - HT.sIx xs.length 0 lo)
theorem cutD_map {α β : Type} (f : α → β) (xs : List α) (lo hi : Option Int) : cutD (xs.map f) lo hi = (cutD xs lo hi).map f := by
  unfold cutD
  rw [List.length_map, List.map_take, List.map_drop]
theorem Ats.cut {G : Hp} {vs : List V} {ds : List D} (h : Ats K G vs ds) (lo hi : Option Int) : Ats K G (cutV vs lo hi) (cutD ds lo hi) := by
  unfold cutV cutD
  rw [h.length]
  exact (h.drop _).take _
theorem sl_any {tl th : TO} {lo hi : Option Int} {r : V → Option Int → Option Int → Hp → VK → Prop} (ha : ED K B δ ta d) (hl : EO K B δ tl lo) (hh : EO K B δ th hi)
    {Z : V → Hp → Hp → Prop} (hr : ∀ G H σ X x, SA K B G H σ δ X → At K G x d → ∀ Q : VK, (∀ v G' H', Ex G G' → Ex H H' → SA K B G' H' σ δ X → At K G' v e → Q v H') → r x lo hi H Q) : ED K B δ (tSl r ta tl th) e := fun G H σ X S Q k =>
  ha G H σ X S _ fun v G1 H1 e1 e2 S1 a => hl G1 H1 σ X S1 _ fun G2 H2 e3 e4 S2 => hh G2 H2 σ X S2 _ fun G3 H3 e5 e6 S3 =>
    hr G3 H3 σ X v S3 ((a.mono e3).mono e5) Q fun w G4 H4 e7 e8 S4 c => k _ _ _ (((e1.trans e3).trans e5).trans e7) (((e2.trans e4).trans e6).trans e8) S4 c
theorem en_slice {tl th : TO} {lo hi : Option Int} {ds : List D} (ha : ED K B δ ta (.lst ds)) (hl : EO K B δ tl lo) (hh : EO K B δ th hi) : EN K B δ (tSl (rSlL K) ta tl th) (cutD ds lo hi) := fun G H σ X S Q k =>
  ha G H σ X S _ fun v G1 H1 e1 e2 S1 a => hl G1 H1 σ X S1 _ fun G2 H2 e3 e4 S2 => hh G2 H2 σ X S2 _ fun G3 H3 e5 e6 S3 => by
    obtain ⟨p, vs, rfl, h1, h2⟩ := ((a.mono e3).mono e5).lst_eq
    exact ⟨p, vs, rfl, .of (S3.rel.s _ _ h1), fun l hl => k l _ _ _ ((e1.trans e3).trans e5) (((e2.trans e4).trans e6).trans (Ex.new hl)) (S3.mine hl) upd_same (h2.cut lo hi)⟩
theorem en_sliceR {tl th : TO} {lo hi : Option Int} {ns : List Int} (ha : ED K B δ ta (.rq ns)) (hl : EO K B δ tl lo) (hh : EO K B δ th hi) : EN K B δ (tSl (rSlL K) ta tl th) (dI (cutD ns lo hi)) := fun G H σ X S Q k =>
  ha G H σ X S _ fun v G1 H1 e1 e2 S1 a => hl G1 H1 σ X S1 _ fun G2 H2 e3 e4 S2 => hh G2 H2 σ X S2 _ fun G3 H3 e5 e6 S3 => by
    obtain ⟨p, rfl, h1⟩ := ((a.mono e3).mono e5).rq_eq
    refine ⟨p, _, rfl, S3.rel.s.sqL h1, fun l hl => k l _ _ _ ((e1.trans e3).trans e5) (((e2.trans e4).trans e6).trans (Ex.new hl)) (S3.mine hl) upd_same ?_⟩
    have q : cutV (ns.map V.int) lo hi = (cutD ns lo hi).map V.int := cutD_map _ _ _ _
    rw [q]
    exact Ats.of_ints _
theorem ed_sliceT {tl th : TO} {lo hi : Option Int} {ds : List D} (ha : ED K B δ ta (.tup ds)) (hl : EO K B δ tl lo) (hh : EO K B δ th hi) (hne : ¬ (HT.sIx ds.length 0 lo = 0 ∧ HT.sIx ds.length ds.length hi = ds.length)) : ED K B δ (tSl (rSlT K) ta tl th) (.tup (cutD ds lo hi)) := fun G H σ X S Q k =>
  ha G H σ X S _ fun v G1 H1 e1 e2 S1 a => hl G1 H1 σ X S1 _ fun G2 H2 e3 e4 S2 => hh G2 H2 σ X S2 _ fun G3 H3 e5 e6 S3 => by
    obtain ⟨p, vs, rfl, h1, h2⟩ := ((a.mono e3).mono e5).tup_eq
    refine ⟨p, vs, rfl, .of (S3.rel.s _ _ h1), ?_, fun l hl => k _ _ _ (((e1.trans e3).trans e5).trans (Ex.new (S3.rel.s.none hl))) (((e2.trans e4).trans e6).trans (Ex.new hl)) (S3.fresh hl) (.tup upd_same ((h2.cut lo hi).mono (Ex.new (S3.rel.s.none hl))))⟩
    rw [h2.length]
    exact hne
/-! calls of built-ins -/
theorem ed_CB {ta : TA} {r : List V → Hp → VK → Prop} {ds : List D} (h : EA K B δ ta ds)
    (hr : ∀ G H σ X xs, SA K B G H σ δ X → Ats K G xs ds → ∀ Q : VK, (∀ v G' H', Ex G G' → Ex H H' → SA K B G' H' σ δ X → At K G' v e → Q v H') → r xs H Q) : ED K B δ (tCB r ta) e := fun G H σ X S Q k =>
  h G H σ X S _ fun vs G1 H1 e1 e2 S1 a => hr G1 H1 σ X vs S1 a Q fun v G2 H2 e3 e4 S2 c => k _ _ _ (e1.trans e3) (e2.trans e4) S2 c
theorem Ats.one {G : Hp} {xs : List V} (h : Ats K G xs [d]) : ∃ x, xs = [x] ∧ At K G x d := by
  cases h with
  | cons a b => cases b; exact ⟨_, rfl, a⟩
theorem Ats.two {G : Hp} {xs : List V} (h : Ats K G xs [d, e]) : ∃ x y, xs = [x, y] ∧ At K G x d ∧ At K G y e := by
  cases h with
  | cons a b =>
    cases b with
    | cons b c => cases c; exact ⟨_, _, rfl, a, b⟩
def rLenQ (K : PySem.W.Frag) : List V → Hp → VK → Prop := fun xs H Q => ∃ p ys, xs = [.ref p] ∧ (SqL K H p ys ∨ SqT K H p ys) ∧ Q (.int ys.length) H
theorem ed_lenL {ta : TE} {ds : List D} (h : ED K B δ ta (.lst ds)) : ED K B δ (tCB (rLenQ K) (tCons ta tNil)) (.int ds.length) :=
  ed_CB (ea_cons h ea_nil) fun G H σ X xs S a Q k => by
    obtain ⟨x, rfl, a1⟩ := a.one
    have a := a1
    obtain ⟨p, vs, rfl, h1, h2⟩ := a.lst_eq
    refine ⟨p, vs, rfl, .inl (.of (S.rel.s _ _ h1)), ?_⟩
    rw [h2.length]
    exact k _ _ _ (Ex.refl _) (Ex.refl _) S .int
theorem ed_lenT {ta : TE} {ds : List D} (h : ED K B δ ta (.tup ds)) : ED K B δ (tCB (rLenQ K) (tCons ta tNil)) (.int ds.length) :=
  ed_CB (ea_cons h ea_nil) fun G H σ X xs S a Q k => by
    obtain ⟨x, rfl, a1⟩ := a.one
    have a := a1
    obtain ⟨p, vs, rfl, h1, h2⟩ := a.tup_eq
    refine ⟨p, vs, rfl, .inr (.of (S.rel.s _ _ h1)), ?_⟩
    rw [h2.length]
    exact k _ _ _ (Ex.refl _) (Ex.refl _) S .int
theorem ed_lenR {ta : TE} {ns : List Int} (h : ED K B δ ta (.rq ns)) : ED K B δ (tCB (rLenQ K) (tCons ta tNil)) (.int ns.length) :=
  ed_CB (ea_cons h ea_nil) fun G H σ X xs S a Q k => by
    obtain ⟨x, rfl, a1⟩ := a.one
    have a := a1
    obtain ⟨p, rfl, h1⟩ := a.rq_eq
    refine ⟨p, _, rfl, .inl (S.rel.s.sqL h1), ?_⟩
    rw [List.length_map]
    exact k _ _ _ (Ex.refl _) (Ex.refl _) S .int
theorem ed_lenO {i : Nat} {ds : List D} (h : δ[i]? = some (.own ds)) : ED K B δ (tCB (rLenQ K) (tCons (tVar i) tNil)) (.int ds.length) := fun G H σ X S Q k => by
  obtain ⟨p, vs, e1, e2, e3, _, _⟩ := S.own h
  refine ⟨_, e1, p, vs, rfl, .inl (.of e2), ?_⟩
  rw [e3.length]
  exact k _ _ _ (Ex.refl _) (Ex.refl _) S .int
/-- an item of a list of one's own -/
theorem ed_ixO {i : Nat} {ds : List D} {j : Int} (h : δ[i]? = some (.own ds)) (hb : ED K B δ tb (.int j)) (hd : atI ds j = some d) : ED K B δ (tOp (rIxL K) (tVar i) tb) d := fun G H σ X S Q k => by
  obtain ⟨p, vs, e1, e2, e3, _, _⟩ := S.own h
  refine ⟨_, e1, hb G H σ X S _ fun v G1 H1 e4 e5 S1 a => ?_⟩
  obtain ⟨w, q1, q2⟩ := (e3.mono e4).atI hd
  exact ⟨p, vs, j, w, rfl, a.int_eq, .of (e5 _ _ e2), q1, k _ _ _ e4 e5 S1 q2⟩
theorem ed_ixR {ns : List Int} {j i : Int} (ha : ED K B δ ta (.rq ns)) (hb : ED K B δ tb (.int j)) (hd : atI ns j = some i) : ED K B δ (tOp (rIxL K) ta tb) (.int i) :=
  ed_op ha hb fun G H σ X x y S a b Q k => by
    obtain ⟨p, rfl, h1⟩ := a.rq_eq
    refine ⟨p, _, j, .int i, rfl, b.int_eq, S.rel.s.sqL h1, ?_, k _ _ _ (Ex.refl _) (Ex.refl _) S .int⟩
    unfold L2.atI at hd ⊢
    rw [List.length_map]
    cases q : ixN ns.length j with
    | none =>
      rw [q] at hd
      cases hd
    | some m =>
      rw [q] at hd
      have hd' : ns[m]? = some i := hd
      show (ns.map V.int)[m]? = _
      rw [List.getElem?_map, hd']
      rfl
/-- list or tuple -/
theorem ed_ixS {ds : List D} {i : Int} (ha : ED K B δ ta d) (hd : d = .lst ds ∨ d = .tup ds) (hb : ED K B δ tb (.int i)) (h : atI ds i = some e) : ED K B δ (tOp (rIx K) ta tb) e :=
  ed_op ha hb fun G H σ X x y S a b Q k => by
    rcases hd with rfl | rfl
    · obtain ⟨p, vs, rfl, h1, h2⟩ := a.lst_eq
      obtain ⟨v, e1, e2⟩ := h2.atI h
      exact .inl ⟨p, vs, i, v, rfl, b.int_eq, .of (S.rel.s _ _ h1), e1, k _ _ _ (Ex.refl _) (Ex.refl _) S e2⟩
    · obtain ⟨p, vs, rfl, h1, h2⟩ := a.tup_eq
      obtain ⟨v, e1, e2⟩ := h2.atI h
      exact .inr (.inl ⟨p, vs, i, v, rfl, b.int_eq, .of (S.rel.s _ _ h1), e1, k _ _ _ (Ex.refl _) (Ex.refl _) S e2⟩)
theorem ed_lenS {ta : TE} {ds : List D} (h : ED K B δ ta d) (hd : d = .lst ds ∨ d = .tup ds) : ED K B δ (tCB (rLenQ K) (tCons ta tNil)) (.int ds.length) := by
  rcases hd with rfl | rfl
  · exact ed_lenL h
  · exact ed_lenT h
def rListQ (K : PySem.W.Frag) : List V → Hp → VK → Prop := fun xs H Q => ∃ p ys, xs = [.ref p] ∧ (SqL K H p ys ∨ SqT K H p ys) ∧ ∀ l, H l = none → Q (.ref l) (upd H l (.lst ys))
theorem en_list {ta : TE} {ds : List D} (h : ED K B δ ta d) (hd : d = .lst ds ∨ d = .tup ds) : EN K B δ (tCB (rListQ K) (tCons ta tNil)) ds := fun G H σ X S Q k =>
  ea_cons h ea_nil G H σ X S _ fun vs G1 H1 e1 e2 S1 a => by
    obtain ⟨x, rfl, a1⟩ := a.one
    have a := a1
    rcases hd with rfl | rfl
    · obtain ⟨p, vs, rfl, h1, h2⟩ := a.lst_eq
      exact ⟨p, vs, rfl, .inl (.of (S1.rel.s _ _ h1)), fun l hl => k l _ _ _ e1 (e2.trans (Ex.new hl)) (S1.mine hl) upd_same h2⟩
    · obtain ⟨p, vs, rfl, h1, h2⟩ := a.tup_eq
      exact ⟨p, vs, rfl, .inr (.of (S1.rel.s _ _ h1)), fun l hl => k l _ _ _ e1 (e2.trans (Ex.new hl)) (S1.mine hl) upd_same h2⟩
def rTupleQ (K : PySem.W.Frag) : List V → Hp → VK → Prop := fun xs H Q => ∃ p ys, xs = [.ref p] ∧ ((SqL K H p ys ∧ ∀ l, H l = none → Q (.ref l) (upd H l (.tup ys))) ∨ (SqT K H p ys ∧ Q (.ref p) H))
theorem ed_tuple {ta : TE} {ds : List D} (h : ED K B δ ta (.lst ds)) : ED K B δ (tCB (rTupleQ K) (tCons ta tNil)) (.tup ds) := fun G H σ X S Q k =>
  ea_cons h ea_nil G H σ X S _ fun vs G1 H1 e1 e2 S1 a => by
    obtain ⟨x, rfl, a1⟩ := a.one
    have a := a1
    obtain ⟨p, vs, rfl, h1, h2⟩ := a.lst_eq
    exact ⟨p, vs, rfl, .inl ⟨.of (S1.rel.s _ _ h1), fun l hl => k _ _ _ (e1.trans (Ex.new (S1.rel.s.none hl))) (e2.trans (Ex.new hl)) (S1.fresh hl) (.tup upd_same (h2.mono (Ex.new (S1.rel.s.none hl))))⟩⟩
theorem ed_sum {ta : TE} {ns : List Int} (h : ED K B δ ta (.lst (dI ns))) : ED K B δ (tCB (rSum K) (tCons ta tNil)) (.int ns.sum) :=
  ed_CB (ea_cons h ea_nil) fun G H σ X xs S a Q k => by
    obtain ⟨x, rfl, a1⟩ := a.one
    have a := a1
    obtain ⟨p, vs, rfl, h1, h2⟩ := a.lst_eq
    refine ⟨p, ns, rfl, .of (S.rel.s _ _ ?_), k _ _ _ (Ex.refl _) (Ex.refl _) S .int⟩
    rw [← h2.ints_eq]
    exact h1
theorem ed_max {ta : TE} {ns : List Int} {m : Int} (h : ED K B δ ta (.lst (dI ns))) (hm : m ∈ ns) (hle : ∀ y ∈ ns, y ≤ m) : ED K B δ (tCB (rMax K) (tCons ta tNil)) (.int m) :=
  ed_CB (ea_cons h ea_nil) fun G H σ X xs S a Q k => by
    obtain ⟨x, rfl, a1⟩ := a.one
    have a := a1
    obtain ⟨p, vs, rfl, h1, h2⟩ := a.lst_eq
    refine ⟨p, ns, rfl, .of (S.rel.s _ _ ?_), List.length_pos_of_mem hm, fun z hz hq => ?_⟩
    · rw [← h2.ints_eq]
      exact h1
    · have e : z = m := Int.le_antisymm (hle z hz) (hq m hm)
      rw [e]
      exact k _ _ _ (Ex.refl _) (Ex.refl _) S .int
theorem ed_min {ta : TE} {ns : List Int} {m : Int} (h : ED K B δ ta (.lst (dI ns))) (hm : m ∈ ns) (hle : ∀ y ∈ ns, m ≤ y) : ED K B δ (tCB (rMin K) (tCons ta tNil)) (.int m) :=
  ed_CB (ea_cons h ea_nil) fun G H σ X xs S a Q k => by
    obtain ⟨x, rfl, a1⟩ := a.one
    have a := a1
    obtain ⟨p, vs, rfl, h1, h2⟩ := a.lst_eq
    refine ⟨p, ns, rfl, .of (S.rel.s _ _ ?_), List.length_pos_of_mem hm, fun z hz hq => ?_⟩
    · rw [← h2.ints_eq]
      exact h1
    · have e : z = m := Int.le_antisymm (hq m hm) (hle z hz)
      rw [e]
      exact k _ _ _ (Ex.refl _) (Ex.refl _) S .int
theorem ed_all {ta : TE} {bs : List Bool} (h : ED K B δ ta (.lst (bs.map D.bl))) : ED K B δ (tCB (rAll K) (tCons ta tNil)) (.bl (bs.all id)) :=
  ed_CB (ea_cons h ea_nil) fun G H σ X xs S a Q k => by
    obtain ⟨x, rfl, a1⟩ := a.one
    have a := a1
    obtain ⟨p, vs, rfl, h1, h2⟩ := a.lst_eq
    refine ⟨p, bs, rfl, .of (S.rel.s _ _ ?_), k _ _ _ (Ex.refl _) (Ex.refl _) S .bl⟩
    rw [← h2.bls_eq]
    exact h1
theorem ed_any {ta : TE} {bs : List Bool} (h : ED K B δ ta (.lst (bs.map D.bl))) : ED K B δ (tCB (rAny K) (tCons ta tNil)) (.bl (bs.any id)) :=
  ed_CB (ea_cons h ea_nil) fun G H σ X xs S a Q k => by
    obtain ⟨x, rfl, a1⟩ := a.one
    have a := a1
    obtain ⟨p, vs, rfl, h1, h2⟩ := a.lst_eq
    refine ⟨p, bs, rfl, .of (S.rel.s _ _ ?_), k _ _ _ (Ex.refl _) (Ex.refl _) S .bl⟩
    rw [← h2.bls_eq]
    exact h1
def rMax2Q : List V → Hp → VK → Prop := fun xs H Q => ∃ i j, xs = [.int i, .int j] ∧ Q (.int (if j > i then j else i)) H
def rMin2Q : List V → Hp → VK → Prop := fun xs H Q => ∃ i j, xs = [.int i, .int j] ∧ Q (.int (if j < i then j else i)) H
theorem ed_max2 {i j : Int} (ha : ED K B δ ta (.int i)) (hb : ED K B δ tb (.int j)) : ED K B δ (tCB rMax2Q (tCons ta (tCons tb tNil))) (.int (max i j)) :=
  ed_CB (ea_cons ha (ea_cons hb ea_nil)) fun G H σ X xs S a Q k => by
    obtain ⟨x, y, rfl, a1, b⟩ := a.two
    have a := a1
    refine ⟨i, j, by rw [a.int_eq, b.int_eq], ?_⟩
    have e : (if j > i then j else i) = max i j := by rw [Int.max_def]; split <;> split <;> omega
    rw [e]
    exact k _ _ _ (Ex.refl _) (Ex.refl _) S .int
theorem ed_min2 {i j : Int} (ha : ED K B δ ta (.int i)) (hb : ED K B δ tb (.int j)) : ED K B δ (tCB rMin2Q (tCons ta (tCons tb tNil))) (.int (min i j)) :=
  ed_CB (ea_cons ha (ea_cons hb ea_nil)) fun G H σ X xs S a Q k => by
    obtain ⟨x, y, rfl, a1, b⟩ := a.two
    have a := a1
    refine ⟨i, j, by rw [a.int_eq, b.int_eq], ?_⟩
    have e : (if j < i then j else i) = min i j := by rw [Int.min_def]; split <;> split <;> omega
    rw [e]
    exact k _ _ _ (Ex.refl _) (Ex.refl _) S .int
def rStrQ : List V → Hp → VK → Prop := fun xs H Q => ∃ i : Int, xs = [.int i] ∧ i.natAbs.log2 < 1920 ∧ Q (.str (toString i)) H
theorem ed_strI {i : Int} (ha : ED K B δ ta (.int i)) (hl : i.natAbs.log2 < 1920) : ED K B δ (tCB rStrQ (tCons ta tNil)) (.str (toString i)) :=
  ed_CB (ea_cons ha ea_nil) fun G H σ X xs S a Q k => by
    obtain ⟨x, rfl, a1⟩ := a.one
    have a := a1
    exact ⟨i, by rw [a.int_eq], hl, k _ _ _ (Ex.refl _) (Ex.refl _) S .str⟩
def rOrdQ : List V → Hp → VK → Prop := fun xs H Q => ∃ x, xs = [.str x] ∧ x.length = 1 ∧ Q (.int (x.cps.getD 0 0 : Nat)) H
theorem ed_ord {c : Nat} (ha : ED K B δ ta (.str ⟨#[c]⟩)) : ED K B δ (tCB rOrdQ (tCons ta tNil)) (.int c) :=
  ed_CB (ea_cons ha ea_nil) fun G H σ X xs S a Q k => by
    obtain ⟨x, rfl, a1⟩ := a.one
    have a := a1
    exact ⟨⟨#[c]⟩, by rw [a.str_eq], rfl, k _ _ _ (Ex.refl _) (Ex.refl _) S .int⟩
/-! fields -/
theorem ed_fld {c f : Str} {fs : List (Str × D)} (h : ED K B δ ta (.obj c fs)) (hc : Cls K (He.ga K c)) (hn : NoAttr K (He.ga K c) f) (hl : fs.lookup f = some d) : ED K B δ (tFld K ta f) d := fun G H σ X S Q k =>
  h G H σ X S _ fun v G1 H1 e1 e2 S1 a => by
    obtain ⟨p, dx, vs, rfl, h1, h2⟩ := a.obj_eq
    obtain ⟨w, q1, q2⟩ := h2.get hl
    exact ⟨p, _, dx, vs, w, rfl, S1.rel.s _ _ h1, hc, hn, q1, k _ _ _ e1 e2 S1 q2⟩
/-! x in t, t a written tuple of ints -/
theorem ed_inT {p : Addr} {ns : List Int} {i : Int} (ha : ED K B δ ta (.int i)) (hp : ∀ H, SqT K H p (ns.map V.int)) : ED K B δ (tOp (rIn K false) ta (tC (.ref p))) (.bl (decide (i ∈ ns))) := fun G H σ X S Q k =>
  ha G H σ X S _ fun v G1 H1 e1 e2 S1 a => by
    refine ⟨p, ns.map V.int, rfl, .inr (hp _), by rw [a.int_eq]; rfl, by simp [L2.flatV], ?_⟩
    have e : inV v (ns.map V.int) = decide (i ∈ ns) := by
      rw [a.int_eq]
      unfold inV
      rw [List.any_map]
      rw [Bool.eq_iff_iff]
      simp only [List.any_eq_true, Function.comp, decide_eq_true_eq]
      constructor
      · rintro ⟨x, hx, hq⟩
        have : x = i := by simpa [eqV] using hq
        exact this ▸ hx
      · intro h
        exact ⟨i, h, by simp [eqV]⟩
    show Q (.bl (if false = true then !inV v (ns.map V.int) else inV v (ns.map V.int))) H1
    rw [if_neg (by decide), e]
    exact k _ _ _ e1 e2 S1 .bl
/-! == of lists of ints -/
theorem dp_ints {H : Hp} : ∀ l : List Int, DpAll K H (l.map V.int) (l.map PyData.int)
  | [] => .nil
  | i :: l => .cons (.int i) (dp_ints l)
end
end Dg
namespace Dg
open PySem PySem.Spec PyProof.Rows L2
/-! ### what is walked -/
/-- the i-th thing that comes: it stands already, or in a new tuple -/
def Yd (K : PySem.W.Frag) (G : Hp) (f : Nat → D) : Nat → Hp → V → Hp → Prop := fun i H x H' => (H' = H ∧ At K G x (f i)) ∨ ∃ T vs ds, x = .ref T ∧ H T = none ∧ H' = upd H T (.tup vs) ∧ Ats K G vs ds ∧ f i = .tup ds
def DW (K : PySem.W.Frag) (B : Bs) (δ : List Sl) (wi : TI) (n : Nat) (f : Nat → D) : Prop := ∀ G H σ X, SA K B G H σ δ X → ∀ R : It → Hp → Prop, (∀ J G' H', Ex G G' → Ex H H' → SA K B G' H' σ δ X → L2.Walk J n (fun H1 => Ex G' H1) (Yd K G' f) → R J H') → wi σ H R
section
variable {K : PySem.W.Frag} {B : Bs} {δ : List Sl} {ta tb te tx : TE} {t u : TT} {d e : D}
def nth (ds : List D) (i : Nat) : D := ds.getD i .non
theorem nth_eq {ds : List D} {i : Nat} (h : ds[i]? = some d) : nth ds i = d := by
  unfold nth
  rw [List.getD_eq_getElem?_getD, h]
  rfl
theorem nth_lt {ds : List D} {i : Nat} (h : i < ds.length) : ds[i]? = some (nth ds i) := by
  unfold nth
  rw [List.getD_eq_getElem?_getD, List.getElem?_eq_getElem h]
  rfl
theorem dw_list {ds : List D} (h : ED K B δ ta (.lst ds)) : DW K B δ (iList K ta) ds.length (nth ds) := fun G H σ X S R k =>
  h G H σ X S _ fun v G1 H1 e1 e2 S1 a => by
    obtain ⟨p, vs, rfl, h1, h2⟩ := a.lst_eq
    refine ⟨p, rfl, ⟨vs, .of (S1.rel.s _ _ h1)⟩, k _ _ _ e1 e2 S1 ?_⟩
    rw [← h2.length]
    refine ⟨fun i H2 hi e3 => ⟨vs, vs[i], .of (e3 _ _ h1), by simp [hi]⟩, fun H2 e3 => ⟨vs, .of (e3 _ _ h1), Nat.le_refl _⟩, fun i H2 x H3 hi e3 y => .inl ⟨y.1, ?_⟩⟩
    obtain ⟨d, q1, q2⟩ := h2.getV (y.2 vs (.of (e3 _ _ h1)))
    rw [nth_eq q1]
    exact q2
theorem dw_tup {ds : List D} (h : ED K B δ ta (.tup ds)) : DW K B δ (iTup K ta) ds.length (nth ds) := fun G H σ X S R k =>
  h G H σ X S _ fun v G1 H1 e1 e2 S1 a => by
    obtain ⟨p, vs, rfl, h1, h2⟩ := a.tup_eq
    refine ⟨p, rfl, ⟨vs, .of (S1.rel.s _ _ h1)⟩, k _ _ _ e1 e2 S1 ?_⟩
    rw [← h2.length]
    refine ⟨fun i H2 hi e3 => ⟨vs, vs[i], .of (e3 _ _ h1), by simp [hi]⟩, fun H2 e3 => ⟨vs, .of (e3 _ _ h1), Nat.le_refl _⟩, fun i H2 x H3 hi e3 y => .inl ⟨y.1, ?_⟩⟩
    obtain ⟨d, q1, q2⟩ := h2.getV (y.2 vs (.of (e3 _ _ h1)))
    rw [nth_eq q1]
    exact q2
/-- a list or a tuple -/
def iSeq (K : PySem.W.Frag) (tl : TE) : TI := fun σ H R => iList K tl σ H R ∨ iTup K tl σ H R
theorem pi_seq {Xc : Cx} {tg iter : Expr} {tl : TE} (h1 : PI Xc tg iter (iList K tl)) (h2 : PI Xc tg iter (iTup K tl)) : PI Xc tg iter (iSeq K tl) :=
  ⟨fun pins s σ H R I h => h.elim (fun a => h1.run pins s σ H R I a) fun a => h2.run pins s σ H R I a⟩
theorem dw_seq {ds : List D} (h : ED K B δ ta d) (hd : d = .lst ds ∨ d = .tup ds) : DW K B δ (iSeq K ta) ds.length (nth ds) := fun G H σ X S R k => by
  rcases hd with rfl | rfl
  · exact .inl (dw_list h G H σ X S R k)
  · exact .inr (dw_tup h G H σ X S R k)
theorem walk_range {lo : Int} {n : Nat} {G : Hp} : L2.Walk (Itr lo n) n (fun H1 => Ex G H1) (Yd K G fun i => .int (lo + i)) :=
  ⟨fun _ _ hi _ => hi, fun _ _ => Nat.le_refl _, fun i H1 x H2 hi e y => .inl ⟨y.1, by rw [y.2]; exact .int⟩⟩
theorem dw_rng1 {j : Int} (h : ED K B δ ta (.int j)) (h2 : j < 2 ^ 62) (h3 : -(2 ^ 62) ≤ j) : DW K B δ (iRng1 (tCons ta tNil)) j.toNat (fun i => .int i) := fun G H σ X S R k =>
  ea_cons h ea_nil G H σ X S _ fun vs G1 H1 e1 e2 S1 a => by
    obtain ⟨x, rfl, a1⟩ := a.one
    refine ⟨j, by rw [a1.int_eq], h3, h2, k _ _ _ e1 e2 S1 ?_⟩
    have q := walk_range (K := K) (lo := 0) (n := j.toNat) (G := G1)
    have e : (fun i : Nat => D.int (0 + (i : Int))) = fun i : Nat => D.int i := by funext i; rw [Int.zero_add]
    rw [e] at q
    exact q
theorem dw_rng3 {i j c : Int} {n : Nat} (h1 : ED K B δ ta (.int i)) (h2 : ED K B δ tb (.int j)) (h3 : ED K B δ te (.int c)) (h : RgC i j c n) : DW K B δ (iRng3 (tCons ta (tCons tb (tCons te tNil)))) n (fun m => .int (i + m * c)) := fun G H σ X S R k =>
  ea_cons h1 (ea_cons h2 (ea_cons h3 ea_nil)) G H σ X S _ fun vs G1 H1 e1 e2 S1 a => by
    cases a with
    | cons a1 a =>
      cases a with
      | cons a2 a =>
        cases a with
        | cons a3 a =>
          cases a
          refine ⟨i, j, c, n, by rw [a1.int_eq, a2.int_eq, a3.int_eq], h, k _ _ _ e1 e2 S1 ?_⟩
          exact ⟨fun _ _ hi _ => hi, fun _ _ => Nat.le_refl _, fun i H1 x H2 hi e y => .inl ⟨y.1, by rw [y.2]; exact .int⟩⟩
theorem dw_str {z : Str} (h : ED K B δ ta (.str z)) : DW K B δ (iStr ta) z.cps.size (fun i => .str ⟨#[z.cps.getD i 0]⟩) := fun G H σ X S R k =>
  h G H σ X S _ fun v G1 H1 e1 e2 S1 a => by
    refine ⟨z, a.str_eq, k _ _ _ e1 e2 S1 ?_⟩
    refine ⟨fun _ _ hi _ => hi, fun _ _ => Nat.le_refl _, fun i H1 x H2 hi e y => .inl ⟨y.1, ?_⟩⟩
    obtain ⟨c, q1, q2⟩ := y.2
    rw [q2]
    have e : z.cps.getD i 0 = c := by simp [Array.getD_eq_getD_getElem?, q1]
    show At K G1 _ (.str ⟨#[z.cps.getD i 0]⟩)
    rw [e]
    exact .str
theorem dw_enum {ds : List D} (h : ED K B δ ta (.lst ds)) : DW K B δ (iEnum K (tCons ta tNil)) ds.length (fun i => .tup [.int i, nth ds i]) := fun G H σ X S R k =>
  ea_cons h ea_nil G H σ X S _ fun vs G1 H1 e1 e2 S1 a => by
    obtain ⟨x, rfl, a1⟩ := a.one
    obtain ⟨p, vs, rfl, h1, h2⟩ := a1.lst_eq
    refine ⟨p, vs, rfl, .of (S1.rel.s _ _ h1), k _ _ _ e1 e2 S1 ?_⟩
    rw [← h2.length]
    have w := walk_enum (K := K) (a := p) (xs := vs)
    refine w.mono (fun H2 e3 => .of (e3 _ _ h1)) fun i H2 x H3 hi e3 y => ?_
    obtain ⟨T, x1, y1, q1, q2, q3, q4, q5⟩ := y
    obtain ⟨d, r1, r2⟩ := h2.getV q5
    rw [Option.some.inj q4.symm] at q3
    exact .inr ⟨T, _, [.int i, d], q1, q2, q3, .cons .int (.cons r2 .nil), by dsimp only; rw [nth_eq r1]⟩
theorem dw_zip {ds es : List D} (h : ED K B δ ta (.lst ds)) (h' : ED K B δ tb (.lst es)) (hl : ds.length = es.length) : DW K B δ (iZip K (tCons ta (tCons tb tNil))) ds.length (fun i => .tup [nth ds i, nth es i]) := fun G H σ X S R k =>
  ea_cons h (ea_cons h' ea_nil) G H σ X S _ fun vs G1 H1 e1 e2 S1 a => by
    obtain ⟨x, y, rfl, a1, a2⟩ := a.two
    obtain ⟨p, vs, rfl, h1, h2⟩ := a1.lst_eq
    obtain ⟨q, ws, rfl, h3, h4⟩ := a2.lst_eq
    refine ⟨p, q, vs, ws, rfl, .of (S1.rel.s _ _ h1), .of (S1.rel.s _ _ h3), k _ _ _ e1 e2 S1 ?_⟩
    have w := walk_zip (K := K) (a := p) (b := q) (xs := vs) (ys := ws) (n := ds.length) (by rw [h2.length, h4.length]; omega)
    refine w.mono (fun H2 e3 => ⟨.of (e3 _ _ h1), .of (e3 _ _ h3)⟩) fun i H2 x H3 hi e3 y => ?_
    obtain ⟨T, x1, y1, q1, q2, q3, q4, q5⟩ := y
    obtain ⟨d, r1, r2⟩ := h2.getV q4
    obtain ⟨d', r3, r4⟩ := h4.getV q5
    exact .inr ⟨T, _, [d, d'], q1, q2, q3, .cons r2 (.cons r4 .nil), by dsimp only; rw [nth_eq r1, nth_eq r3]⟩
end

/-! ### statements -/
structure Po where
  n : List Sl → Prop
  r : D → List Sl → Prop
  b : List Sl → Prop := fun _ => False
  c : List Sl → Prop := fun _ => False
def SD (K : PySem.W.Frag) (B : Bs) (δ : List Sl) (ts : TS) (P : Po) : Prop := ∀ G H σ, SA K B G H σ δ [] → ∀ E : Ends,
  (∀ G' H' σ' δ', Ex G G' → SA K B G' H' σ' δ' [] → P.n δ' → E.nx σ' H') → (∀ v G' H' σ' δ' d, Ex G G' → SA K B G' H' σ' δ' [] → At K G' v d → P.r d δ' → E.rt v H') →
  (∀ G' H' σ' δ', Ex G G' → SA K B G' H' σ' δ' [] → P.b δ' → E.bk σ' H') → (∀ G' H' σ' δ', Ex G G' → SA K B G' H' σ' δ' [] → P.c δ' → E.ct σ' H') → ts E σ H
/-- a target -/
def GD (K : PySem.W.Frag) (B : Bs) (δ : List Sl) (g : TG) (d : D) (N : List Sl → Prop) : Prop := ∀ v G H σ, SA K B G H σ δ [] → At K G v d → ∀ Q : L2.St → Hp → Prop, (∀ G' H' σ' δ', Ex G G' → SA K B G' H' σ' δ' [] → N δ' → Q σ' H') → g v σ H Q
section
variable {K : PySem.W.Frag} {B : Bs} {δ : List Sl} {ta tb te tx : TE} {tt : TT} {d e : D} {t u : TS} {P : Po}
theorem SD.imp {P' : Po} (h : SD K B δ t P) (hn : ∀ δ', P.n δ' → P'.n δ') (hr : ∀ d δ', P.r d δ' → P'.r d δ') (hb : ∀ δ', P.b δ' → P'.b δ') (hc : ∀ δ', P.c δ' → P'.c δ') : SD K B δ t P' := fun G H σ S E k1 k2 k3 k4 =>
  h G H σ S E (fun G' H' σ' δ' a b c => k1 G' H' σ' δ' a b (hn _ c)) (fun v G' H' σ' δ' d a b c f => k2 v G' H' σ' δ' d a b c (hr _ _ f)) (fun G' H' σ' δ' a b c => k3 G' H' σ' δ' a b (hb _ c)) fun G' H' σ' δ' a b c => k4 G' H' σ' δ' a b (hc _ c)
theorem sd_seq (h : SD K B δ t { P with n := fun δ' => SD K B δ' u P }) : SD K B δ (tSeq t u) P := fun G H σ S E k1 k2 k3 k4 =>
  h G H σ S { E with nx := u E } (fun G' H' σ' δ' a b c => c G' H' σ' b E (fun G2 H2 σ2 δ2 a2 b2 c2 => k1 G2 H2 σ2 δ2 (a.trans a2) b2 c2) (fun v G2 H2 σ2 δ2 d a2 b2 c2 f => k2 v G2 H2 σ2 δ2 d (a.trans a2) b2 c2 f)
    (fun G2 H2 σ2 δ2 a2 b2 c2 => k3 G2 H2 σ2 δ2 (a.trans a2) b2 c2) fun G2 H2 σ2 δ2 a2 b2 c2 => k4 G2 H2 σ2 δ2 (a.trans a2) b2 c2) k2 k3 k4
theorem sd_next (h : P.n δ) : SD K B δ tNext P := fun G H σ S E k1 k2 k3 k4 => k1 _ _ _ _ (Ex.refl _) S h
theorem sd_break (h : P.b δ) : SD K B δ tBreak P := fun G H σ S E k1 k2 k3 k4 => k3 _ _ _ _ (Ex.refl _) S h
theorem sd_cont (h : P.c δ) : SD K B δ tCont P := fun G H σ S E k1 k2 k3 k4 => k4 _ _ _ _ (Ex.refl _) S h
theorem sd_never (h : False) : SD K B δ t P := h.elim
theorem sd_ret (h : ED K B δ te d) (q : P.r d δ) : SD K B δ (tRet te) P := fun G H σ S E k1 k2 k3 k4 =>
  h G H σ [] S _ fun v G' H' e1 e2 S' a => k2 v _ _ _ _ _ e1 S' a q
theorem sd_retN (q : P.r .non δ) : SD K B δ tRetN P := fun G H σ S E k1 k2 k3 k4 => k2 _ _ _ _ _ _ (Ex.refl _) S .non q
theorem SD.run (h : SD K B δ t P) {G G1 H1 : Hp} {σ : L2.St} {E : Ends} (e1 : Ex G G1) (S1 : SA K B G1 H1 σ δ [])
    (k1 : ∀ G' H' σ' δ', Ex G G' → SA K B G' H' σ' δ' [] → P.n δ' → E.nx σ' H') (k2 : ∀ v G' H' σ' δ' d, Ex G G' → SA K B G' H' σ' δ' [] → At K G' v d → P.r d δ' → E.rt v H')
    (k3 : ∀ G' H' σ' δ', Ex G G' → SA K B G' H' σ' δ' [] → P.b δ' → E.bk σ' H') (k4 : ∀ G' H' σ' δ', Ex G G' → SA K B G' H' σ' δ' [] → P.c δ' → E.ct σ' H') : t E σ H1 :=
  h G1 H1 σ S1 E (fun G2 H2 σ2 δ2 a2 b2 c2 => k1 G2 H2 σ2 δ2 (e1.trans a2) b2 c2) (fun v G2 H2 σ2 δ2 d a2 b2 c2 f => k2 v G2 H2 σ2 δ2 d (e1.trans a2) b2 c2 f)
    (fun G2 H2 σ2 δ2 a2 b2 c2 => k3 G2 H2 σ2 δ2 (e1.trans a2) b2 c2) (fun G2 H2 σ2 δ2 a2 b2 c2 => k4 G2 H2 σ2 δ2 (e1.trans a2) b2 c2)
theorem sd_if {b : Bool} (h : ET K B δ tt b) (h1 : b = true → SD K B δ t P) (h2 : b = false → SD K B δ u P) : SD K B δ (tIfS tt t u) P := fun G H σ S E k1 k2 k3 k4 => by
  refine h G H σ [] S _ fun G1 H1 e1 e2 S1 => ?_
  cases b with
  | true => exact (h1 rfl).run e1 S1 k1 k2 k3 k4
  | false => exact (h2 rfl).run e1 S1 k1 k2 k3 k4
theorem gd_name {j : Nat} {N : List Sl → Prop} (hj : j < δ.length) (h : N (δ.set j (.sh d))) : GD K B δ (gName j) d N := fun v G H σ S a Q k => k _ _ _ _ (Ex.refl _) (S.put a hj) h
theorem gd_tup2 {i j : Nat} {d1 d2 : D} {N : List Sl → Prop} (hi : i < δ.length) (hj : j < δ.length) (h : N ((δ.set i (.sh d1)).set j (.sh d2))) : GD K B δ (gTup K 2 (gCons (gName i) (gCons (gName j) gNil))) (.tup [d1, d2]) N := fun v G H σ S a Q k => by
  obtain ⟨p, vs, rfl, h1, h2⟩ := a.tup_eq
  obtain ⟨x, y, rfl, a1, a2⟩ := h2.two
  refine ⟨p, _, rfl, .of (S.rel.s _ _ h1), rfl, x, [y], rfl, y, [], rfl, rfl, ?_⟩
  exact k _ _ _ _ (Ex.refl _) ((S.put a1 hi).put a2 (by rw [List.length_set]; exact hj)) h
theorem sd_asg {i : Nat} (h : ED K B δ te d) (hi : i < δ.length) (q : P.n (δ.set i (.sh d))) : SD K B δ (tAsg te (gName i)) P := fun G H σ S E k1 k2 k3 k4 =>
  h G H σ [] S _ fun v G' H' e1 e2 S' a => k1 _ _ _ _ e1 (S'.put a hi) q
theorem sd_asgN {i : Nat} {ds : List D} (h : EN K B δ te ds) (hi : i < δ.length) (q : P.n (δ.set i (.own ds))) : SD K B δ (tAsg te (gName i)) P := fun G H σ S E k1 k2 k3 k4 =>
  h G H σ [] S _ fun p vs G' H' e1 e2 S' hp a => k1 _ _ _ _ e1 (S'.putOwn hp a hi) q
theorem sd_frz (i : Nat) {ds : List D} (hi : δ[i]? = some (.own ds)) (h : SD K B (δ.set i (.sh (.lst ds))) t P) : SD K B δ t P := fun G H σ S E k1 k2 k3 k4 => by
  obtain ⟨G', e, S'⟩ := S.frz hi
  exact h G' H σ S' E (fun G2 H2 σ2 δ2 a2 b2 c2 => k1 G2 H2 σ2 δ2 (e.trans a2) b2 c2) (fun v G2 H2 σ2 δ2 d a2 b2 c2 f => k2 v G2 H2 σ2 δ2 d (e.trans a2) b2 c2 f)
        (fun G2 H2 σ2 δ2 a2 b2 c2 => k3 G2 H2 σ2 δ2 (e.trans a2) b2 c2) fun G2 H2 σ2 δ2 a2 b2 c2 => k4 G2 H2 σ2 δ2 (e.trans a2) b2 c2
theorem sd_forget (i : Nat) (h : SD K B (δ.set i .un) t P) : SD K B δ t P := fun G H σ S E k1 k2 k3 k4 => h G H σ S.forget E k1 k2 k3 k4
/-- the methods of a list of one's own -/
theorem sd_append {i : Nat} {ds : List D} (hi : δ[i]? = some (.own ds)) (h : ED K B δ te d) (hz : ds.length < 16000000) (q : P.n (δ.set i (.own (ds ++ [d])))) : SD K B δ (tDrop (tBM K "list" rAppend (tVar i) (tCons te tNil))) P := fun G H σ S E k1 k2 k3 k4 => by
  obtain ⟨p, vs, e1, e2, e3, _, _⟩ := S.own hi
  refine ⟨_, e1, .inl ⟨rfl, _, .of e2⟩, ea_cons h ea_nil G H σ [] S _ fun xs G1 H1 f1 f2 S1 a => ?_⟩
  obtain ⟨x, rfl, a1⟩ := a.one
  obtain ⟨p', vs', g1, g2, g3, _, w⟩ := S1.own hi
  rw [e1] at g1
  cases g1
  exact ⟨p, vs', x, rfl, rfl, g2, sz_lt (by rw [g3.length]; exact hz), k1 _ _ _ _ f1 (w _ _ (g3.append (.cons a1 .nil))) q⟩
theorem sd_extend {i : Nat} {ds es : List D} (hi : δ[i]? = some (.own ds)) (h : ED K B δ te (.lst es)) (hz : ds.length + es.length ≤ 16000000) (q : P.n (δ.set i (.own (ds ++ es)))) : SD K B δ (tDrop (tBM K "list" rExtend (tVar i) (tCons te tNil))) P := fun G H σ S E k1 k2 k3 k4 => by
  obtain ⟨p, vs, e1, e2, e3, _, _⟩ := S.own hi
  refine ⟨_, e1, .inl ⟨rfl, _, .of e2⟩, ea_cons h ea_nil G H σ [] S _ fun xs G1 H1 f1 f2 S1 a => ?_⟩
  obtain ⟨x, rfl, a1⟩ := a.one
  obtain ⟨b, ws, rfl, b1, b2⟩ := a1.lst_eq
  obtain ⟨p', vs', g1, g2, g3, _, w⟩ := S1.own hi
  rw [e1] at g1
  cases g1
  exact ⟨p, b, vs', ws, rfl, rfl, g2, S1.rel.s _ _ b1, sz_of (by rw [g3.length, b2.length]; exact hz), k1 _ _ _ _ f1 (w _ _ (g3.append b2)) q⟩
theorem sd_setitem {i : Nat} {ds : List D} {k : Int} {j : Nat} (hi : δ[i]? = some (.own ds)) (h : ED K B δ te d) (hk : ED K B δ tb (.int k)) (hj : ixN ds.length k = some j) (q : P.n (δ.set i (.own (ds.set j d)))) : SD K B δ (tAsg te (gSub (tVar i) tb rSetL)) P := fun G H σ S E k1 k2 k3 k4 =>
  h G H σ [] S _ fun v G1 H1 f1 f2 S1 a => by
    obtain ⟨p, vs, e1, e2, e3, _, _⟩ := S1.own hi
    refine ⟨_, e1, hk G1 H1 σ [] S1 _ fun z G2 H2 f3 f4 S2 b => ?_⟩
    obtain ⟨p', vs', g1, g2, g3, _, w⟩ := S2.own hi
    rw [e1] at g1
    cases g1
    exact ⟨p, vs', k, j, rfl, b.int_eq, g2, by rw [g3.length]; exact hj, k1 _ _ _ _ (f1.trans f3) (w _ _ (g3.set (a.mono f3) j)) q⟩
/-- for -/
theorem sd_for {wi : TI} {g : TG} {tb : TS} {n : Nat} {f : Nat → D} (w : DW K B δ wi n f) (I : Nat → List Sl → Prop) (h0 : I 0 δ)
    (hs : ∀ i δ', i < n → I i δ' → GD K B δ' g (f i) fun δ2 => SD K B δ2 tb { n := I (i + 1), r := P.r, b := P.n, c := I (i + 1) }) (hd : ∀ δ', I n δ' → P.n δ') : SD K B δ (tFor wi g tb) P := fun G H σ S E k1 k2 k3 k4 =>
  w G H σ [] S _ fun J G1 H1 e1 e2 S1 wk => by
    refine for_it wk (fun i σ' H' => ∃ G' δ', Ex G1 G' ∧ SA K B G' H' σ' δ' [] ∧ I i δ') ⟨G1, δ, Ex.refl _, S1, h0⟩ (fun i σ' H' _ ⟨G', δ', a, b, _⟩ => a.trans b.rel.s) ?_ ?_
    · rintro i x σ' H' H2 hi ⟨G', δ', a, b, c⟩ y
      have fin : ∀ G2, Ex G' G2 → SA K B G2 H2 σ' δ' [] → At K G2 x (f i) → g x σ' H2 fun σ2 H3 => tb { E with nx := fun σ' H' => ∃ G' δ', Ex G1 G' ∧ SA K B G' H' σ' δ' [] ∧ I (i + 1) δ', ct := fun σ' H' => ∃ G' δ', Ex G1 G' ∧ SA K B G' H' σ' δ' [] ∧ I (i + 1) δ', bk := E.nx } σ2 H3 := fun G2 ex2 S2 at2 => by
        refine hs i δ' hi c x G2 H2 σ' S2 at2 _ fun G3 H3 σ3 δ3 ex3 S3 sd => ?_
        refine sd G3 H3 σ3 S3 _ (fun G4 H4 σ4 δ4 ex4 S4 q4 => ⟨G4, δ4, ((a.trans ex2).trans ex3).trans ex4, S4, q4⟩) (fun v G4 H4 σ4 δ4 d ex4 S4 a4 q4 => k2 v G4 H4 σ4 δ4 d ((((e1.trans a).trans ex2).trans ex3).trans ex4) S4 a4 q4)
          (fun G4 H4 σ4 δ4 ex4 S4 q4 => k1 G4 H4 σ4 δ4 ((((e1.trans a).trans ex2).trans ex3).trans ex4) S4 q4) (fun G4 H4 σ4 δ4 ex4 S4 q4 => ⟨G4, δ4, ((a.trans ex2).trans ex3).trans ex4, S4, q4⟩)
      rcases y with ⟨rfl, y⟩ | ⟨T, vs, ds, rfl, hT, rfl, y, ef⟩
      · exact fin G' (Ex.refl _) b (y.mono a)
      · have hG := b.rel.s.none hT
        refine fin _ (Ex.new hG) (b.fresh hT) ?_
        rw [ef]
        exact .tup upd_same ((y.mono a).mono (Ex.new hG))
    · rintro σ' H' ⟨G', δ', a, b, c⟩
      exact k1 G' H' σ' δ' (e1.trans a) b (hd δ' c)
/-- while -/
theorem sd_while {tb : TS} (I : Nat → List Sl → Prop) (m0 : Nat) (h0 : I m0 δ)
    (hs : ∀ m δ', I m δ' → ∃ b, ET K B δ' tt b ∧ (b = true → SD K B δ' tb { n := fun δ2 => ∃ m', m' < m ∧ I m' δ2, r := P.r, b := P.n, c := fun δ2 => ∃ m', m' < m ∧ I m' δ2 }) ∧ (b = false → P.n δ')) : SD K B δ (tWhile tt tb) P := fun G H σ S E k1 k2 k3 k4 => by
  refine ⟨fun m σ' H' => ∃ G' δ', Ex G G' ∧ SA K B G' H' σ' δ' [] ∧ I m δ', ⟨m0, G, δ, Ex.refl _, S, h0⟩, ?_⟩
  rintro m σ' H' ⟨G', δ', a, b, c⟩
  obtain ⟨z, q1, q2, q3⟩ := hs m δ' c
  refine q1 G' H' σ' [] b _ fun G1 H1 e1 e2 S1 => ?_
  cases z with
  | true =>
    rw [if_pos rfl]
    refine ⟨fun σ2 H2 => ∃ m', m' < m ∧ ∃ G' δ', Ex G G' ∧ SA K B G' H2 σ2 δ' [] ∧ I m' δ', fun σ2 H2 h => h, ?_⟩
    refine q2 rfl G1 H1 σ' S1 _ (fun G4 H4 σ4 δ4 ex4 S4 ⟨m', l, q4⟩ => ⟨m', l, G4, δ4, (a.trans e1).trans ex4, S4, q4⟩) (fun v G4 H4 σ4 δ4 d ex4 S4 a4 q4 => k2 v G4 H4 σ4 δ4 d ((a.trans e1).trans ex4) S4 a4 q4)
      (fun G4 H4 σ4 δ4 ex4 S4 q4 => k1 G4 H4 σ4 δ4 ((a.trans e1).trans ex4) S4 q4) (fun G4 H4 σ4 δ4 ex4 S4 ⟨m', l, q4⟩ => ⟨m', l, G4, δ4, (a.trans e1).trans ex4, S4, q4⟩)
  | false =>
    rw [if_neg Bool.false_ne_true]
    exact k1 G1 H1 σ' δ' (a.trans e1) S1 (q3 rfl)
end
/-! ### comprehensions -/
section
variable {K : PySem.W.Frag} {B : Bs} {δ : List Sl} {ta tb te tx : TE} {tt : TT} {d e : D} {t u : TS} {P : Po}
theorem refs_inj : ∀ {xs ys : List Addr}, xs.map V.ref = ys.map V.ref → xs = ys
  | [], [], _ => rfl
  | [], _ :: _, h => by cases h
  | _ :: _, [], h => by cases h
  | x :: xs, y :: ys, h => by
    have h1 := List.cons.inj h
    rw [V.ref.inj h1.1, refs_inj h1.2]
def Sl.flat : Sl → Bool
  | .un => true
  | .sh _ => true
  | _ => false
theorem SA.wipe {G H : Hp} {σ : L2.St} {X : List Addr} {j : Nat} {v : V} (S : SA K B G H σ δ X) (hj : j < δ.length) (a : At K G v d) : SA K B G H ((L2.wipe σ [j]).set j (some v)) (δ.set j (.sh d)) X := by
  have e : (L2.wipe σ [j]).set j (some v) = σ.set j (some v) := by
    show ((L2.wipe σ []).set j none).set j (some v) = σ.set j (some v)
    rw [List.set_set]
    rfl
  rw [e]
  exact S.put a hj
theorem SA.unwipe {G G' H H' : Hp} {σ : L2.St} {X : List Addr} {j : Nat} {v : V} {s : Sl} (S0 : SA K B G H σ δ X) (hj : δ[j]? = some s) (hf : s.flat = true) (S : SA K B G' H' ((L2.wipe σ [j]).set j (some v)) (δ.set j (.sh d)) X) (e1 : Ex G G') (e2 : Ex H H') : SA K B G' H' σ δ X := by
  obtain ⟨F0, t1, t2, t3, t4⟩ := S0.sl
  obtain ⟨o, F1, Fi, F2, f1, f2, x, k⟩ := t1.cut hj
  have hn : Fi = [] := by
    cases x with
    | un => rfl
    | sh a => rfl
    | own => cases hf
    | ow2 => cases hf
    | st => cases hf
    | al => cases hf
    | oi => cases hf
  subst hn f1
  refine ⟨S.rel, _, t1.mono e1 e2, t2, ?_, t4⟩
  -- the footprint is the same
  have q0 := k H (some v) .un [] (fun a u e _ => e) .un
  intro p hp
  obtain ⟨F, s1, s2, s3, s4⟩ := S.sl
  refine ⟨?_, fun z => ?_⟩
  · -- G' p = none: the slots' own lists are the same addresses
    have key : ∀ {σ : L2.St} {δ δ' : List Sl} {F F' : List Addr} {G G' H H' : Hp} {σ' : L2.St} {j : Nat} {d : D} {s : Sl} {v : V}, SlsA K B G H σ δ F → δ[j]? = some s → s.flat = true → Ex H H' → SlsA K B G' H' (σ.set j (some v)) (δ.set j (.sh d)) F' → ∀ p ∈ F, p ∈ F' := by
      intro σ δ δ' F F' G G' H H' σ' j d s v a hj hf hH b
      induction a generalizing j F' with
      | nil => simp at hj
      | @cons o s0 σ δ F1 F2 x y ih =>
        cases j with
        | zero =>
          have e : s0 = s := by simpa using hj
          subst e
          have b' : SlsA K B G' H' (some v :: σ) (.sh d :: δ) F' := b
          cases b' with
          | cons x' y' =>
            have hx : F1 = [] := by
              cases x with
              | un => rfl
              | sh a => rfl
              | own => cases hf
              | ow2 => cases hf
              | st => cases hf
              | al => cases hf
              | oi => cases hf
            subst hx
            cases x'
            have same : ∀ {σ : L2.St} {δ : List Sl} {F F' : List Addr}, SlsA K B G H σ δ F → SlsA K B G' H' σ δ F' → F = F' := by
              intro σ δ F F' a
              induction a generalizing F' with
              | nil => intro b; cases b; rfl
              | cons x y ih =>
                intro b
                cases b with
                | cons x' y' =>
                  rw [ih y']
                  congr 1
                  cases x with
                  | un => cases x'; rfl
                  | sh a => cases x'; rfl
                  | own n a b => cases x'; rfl
                  | ow2 n a b =>
                    cases x' with
                    | ow2 n' a' b' =>
                      have q := hH _ _ a
                      rw [a'] at q
                      have q1 : List.map V.ref _ = List.map V.ref _ := HO.lst.inj (Option.some.inj q)
                      have q2 := refs_inj q1
                      rw [q2]
                  | st n a b => cases x'; rfl
                  | al => cases x'; rfl
                  | oi n a => cases x'; rfl
            intro p hp
            rw [← same y y']
            exact hp
        | succ j =>
          have b' : SlsA K B G' H' (o :: σ.set j (some v)) (s0 :: δ.set j (.sh d)) F' := b
          cases b' with
          | @cons _ _ _ _ F3 F4 x' y' =>
            intro p hp
            rcases List.mem_append.mp hp with hp | hp
            · have e : F1 = F3 := by
                cases x with
                | un => cases x'; rfl
                | sh a => cases x'; rfl
                | own n a b => cases x'; rfl
                | ow2 n a b =>
                  cases x' with
                  | ow2 n' a' b' =>
                    have q := hH _ _ a
                    rw [a'] at q
                    have q1 : List.map V.ref _ = List.map V.ref _ := HO.lst.inj (Option.some.inj q)
                    have q2 := refs_inj q1
                    rw [q2]
                | st n a b => cases x'; rfl
                | al => cases x'; rfl
                | oi n a => cases x'; rfl
              rw [← e]
              exact List.mem_append_left _ hp
            · exact List.mem_append_right _ (ih (by simpa using hj) y' p hp)
    have e : (L2.wipe σ [j]).set j (some v) = σ.set j (some v) := by
      show ((L2.wipe σ []).set j none).set j (some v) = σ.set j (some v)
      rw [List.set_set]
      rfl
    rw [e] at s1
    rcases List.mem_append.mp hp with hp | hp
    · exact (s3 p (List.mem_append_left _ (key (δ' := δ) (σ' := σ) t1 hj hf e2 s1 p hp))).1
    · exact (s3 p (List.mem_append_right _ hp)).1
  · cases q : H p with
    | none => exact (t3 p hp).2 q
    | some u =>
      rw [e2 p u q] at z
      cases z
/-- [e for x in ..] -/
theorem en_lc {wi : TI} {n : Nat} {f g : Nat → D} {j : Nat} {s : Sl} (w : DW K B δ wi n f) (hj : δ[j]? = some s) (hf : s.flat = true) (he : ∀ i, i < n → ED K B (δ.set j (.sh (f i))) te (g i)) (hz : n ≤ 16000000) :
    EN K B δ (tLc wi (gName j) tYes te [j]) ((List.range n).map g) := fun G H σ X S Q k => by
  have hlt : j < δ.length := (List.getElem?_eq_some_iff.mp hj).1
  refine w G H σ X S _ fun J G1 H1 e1 e2 S1 wk D hD => ?_
  refine lc_it wk (fun i H' => ∃ G' acc, Ex G1 G' ∧ Ex H1 H' ∧ SA K B G' H' σ δ (D :: X) ∧ H' D = some (.lst acc) ∧ Ats K G' acc ((List.range i).map g)) ⟨G1, [], Ex.refl _, Ex.new hD, S1.mine hD, upd_same, .nil⟩
    (fun i H' _ ⟨G', acc, a, _, b, _⟩ => a.trans b.rel.s) ?_ ?_
  · rintro i x H2 H3 hi ⟨G', acc, a, aH, b, c, l⟩ y
    have fin : ∀ G2, Ex G' G2 → Ex H2 H3 → SA K B G2 H3 σ δ (D :: X) → At K G2 x (f i) → gName j x (L2.wipe σ [j]) H3 fun σ2 H4 => L2.wipe σ2 [j] = L2.wipe σ [j] ∧ tYes σ2 H4 fun b H5 =>
        if b = true then te σ2 H5 fun y H6 => ∃ acc, H6 D = some (.lst acc) ∧ acc.length < sizeLine ∧ ∃ G' acc', Ex G1 G' ∧ Ex H1 (upd H6 D (.lst (acc ++ [y]))) ∧ SA K B G' (upd H6 D (.lst (acc ++ [y]))) σ δ (D :: X) ∧ (upd H6 D (.lst (acc ++ [y]))) D = some (.lst acc') ∧ Ats K G' acc' ((List.range (i + 1)).map g)
        else ∃ G' acc, Ex G1 G' ∧ Ex H1 H5 ∧ SA K B G' H5 σ δ (D :: X) ∧ H5 D = some (.lst acc) ∧ Ats K G' acc ((List.range (i + 1)).map g) := fun G2 ex2 exH S2 at2 => by
      refine ⟨?_, ?_⟩
      · show ((((L2.wipe σ []).set j none).set j (some x)).set j none) = (L2.wipe σ []).set j none
        rw [List.set_set, List.set_set]
      · show te _ H3 _
        refine he i hi G2 H3 _ (D :: X) (S2.wipe hlt at2) _ fun v G4 H4 e5 e6 S4 av => ?_
        have S5 := S2.unwipe hj hf S4 e5 e6
        have hD4 : H4 D = some (.lst acc) := e6 _ _ (exH _ _ c)
        have hG4 : G4 D = none := by
          obtain ⟨F, _, _, s3, _⟩ := S5.sl
          exact (s3 D (by simp)).1
        refine ⟨acc, hD4, sz_lt (by rw [l.length, List.length_map, List.length_range]; omega), G4, acc ++ [v], ((a.trans ex2).trans e5), fun q o hq => ?_, ?_, upd_same, ?_⟩
        · rw [upd_ne (fun z => by rw [z, hD] at hq; cases hq)]
          exact e6 _ _ (exH _ _ (aH _ _ hq))
        · obtain ⟨F, s1, s2, s3, s4⟩ := S5.sl
          have nd : D ∉ F := fun m => by
            rw [List.nodup_append] at s2
            exact s2.2.2 D m D (by simp) rfl
          refine ⟨⟨S5.rel.g, fun q o hq hw => ?_, fun q o hq => ?_, S5.rel.f, fun q hq => ?_⟩, F, s1.at_ (fun q o hq m => ?_), s2, fun q m => ⟨(s3 q m).1, ?_⟩, s4⟩
          · rw [upd_ne (fun z => by rw [z, s4 D (by simp)] at hq; cases hq)]
            exact S5.rel.h q o hq hw
          · rw [upd_ne (fun z => by rw [z, hG4] at hq; cases hq)]
            exact S5.rel.s q o hq
          · by_cases z : q = D
            · rw [z, upd_same]
              simp
            · rw [upd_ne z]
              exact S5.rel.t q hq
          · rw [upd_ne (fun z => nd (by rw [← z]; exact m))]
            exact hq
          · by_cases z : q = D
            · rw [z, upd_same]
              simp
            · rw [upd_ne z]
              exact (s3 q m).2
        · rw [List.range_succ, List.map_append]
          exact (l.mono (ex2.trans e5)).append (.cons av .nil)
    rcases y with ⟨rfl, y⟩ | ⟨T, vs, ds, rfl, hT, rfl, y, ef⟩
    · exact fin G' (Ex.refl _) (Ex.refl _) b (y.mono a)
    · have hG := b.rel.s.none hT
      refine fin _ (Ex.new hG) (Ex.new hT) (b.fresh hT) ?_
      rw [ef]
      exact .tup upd_same ((y.mono a).mono (Ex.new hG))
  · rintro H' ⟨G', acc, a, aH, b, c, l⟩
    exact k D acc G' H' (e1.trans a) (e2.trans aH) b c l
end
end Dg
namespace Dg
open PySem PySem.Spec PyProof.Rows L2
/-! ### defs -/
/-- called with data of which R tells the answer, it answers so and changes nothing -/
def spR (K : PySem.W.Frag) (R : List D → D → Prop) : Sp := fun vs H Q _ => ∃ G ds d, Ex G H ∧ Ats K G vs ds ∧ R ds d ∧
  ∀ v G' H', Ex G G' → Ex H H' → Ex G' H' → (∀ a o, H a = some o → G a = none → G' a = none) → At K G' v d → Q v H'
section
variable {K : PySem.W.Frag} {B : Bs} {δ : List Sl} {ta tb te tx : TE} {tt : TT} {d e : D} {t u : TS} {P : Po}
theorem SA.after {G H G' H' : Hp} {σ : L2.St} {X : List Addr} (S : SA K B G H σ δ X) (e1 : Ex G G') (e2 : Ex H H') (e3 : Ex G' H') (e4 : ∀ a o, H a = some o → G a = none → G' a = none) : SA K B G' H' σ δ X := by
  obtain ⟨F, s1, s2, s3, s4⟩ := S.sl
  have gt : ∀ a, H a ≠ none → H' a ≠ none := fun a h z => by
    cases q : H a with
    | none => exact h q
    | some u =>
      rw [e2 a u q] at z
      cases z
  have gn : ∀ a, H a ≠ none → G a = none → G' a = none := fun a h n => by
    cases q : H a with
    | none => exact absurd q h
    | some u => exact e4 a u q n
  refine ⟨⟨S.rel.g.trans e1, fun a o h w => e2 _ _ (S.rel.h a o h w), e3, fun a o h n => ?_, fun a h => gt a (S.rel.t a h)⟩, F, s1.mono e1 e2, s2, fun p m => ?_, s4⟩
  · exact gn a (S.rel.t a (by rw [h]; simp)) (S.rel.f a o h n)
  · exact ⟨gn p (s3 p m).2 (s3 p m).1, gt p (s3 p m).2⟩
theorem ed_call {ta : TA} {R : List D → D → Prop} {E : XK} {ds : List D} (h : EA K B δ ta ds) (hR : R ds d) : ED K B δ (tCall (spR K R) [] E ta) d := fun G H σ X S Q k =>
  h G H σ X S _ fun vs G1 H1 e1 e2 S1 a => by
    rw [List.append_nil]
    exact ⟨G1, ds, d, S1.rel.s, a, hR, fun v G' H' f1 f2 f3 f4 av => k v G' H' (e1.trans f1) (e2.trans f2) (S1.after f1 f2 f3 f4) av⟩
/-- a class's __init__ that stores its parameters -/
def spI (K : PySem.W.Frag) (c : Str) (n : Nat) (fv : List V → List (Str × V)) : Sp := fun vs H Q _ => ∃ x dx ws, vs = .ref x :: ws ∧ ws.length = n ∧ H x = some (.ins (He.ga K c) dx []) ∧ Q .non (upd H x (.ins (He.ga K c) dx (fv ws)))
theorem ed_make {ta : TA} {c : Str} {n : Nat} {fv : List V → List (Str × V)} {E : XK} {ds : List D} {fs : List (Str × D)} (h : EA K B δ ta ds) (hn : ds.length = n) (hf : ∀ G vs, Ats K G vs ds → Afs K G (fv vs) fs) :
    ED K B δ (tMake (He.ga K c) (spI K c n fv) [] E ta) (.obj c fs) := fun G H σ X S Q k =>
  h G H σ X S _ fun vs G1 H1 e1 e2 S1 a x dx hx hdx hne => by
    rw [List.append_nil]
    refine ⟨x, dx, vs, rfl, by rw [a.length]; exact hn, upd_same, rfl, ?_⟩
    rw [upd_upd]
    have S2 := S1.fresh (o := .own x) hdx
    have hx2 : (upd H1 dx (.own x)) x = none := by rw [upd_ne (Ne.symm hne)]; exact hx
    have S3 := S2.fresh (o := .ins (He.ga K c) dx (fv vs)) hx2
    have g1 : Ex G1 (upd G1 dx (.own x)) := Ex.new (S1.rel.s.none hdx)
    have g2 : Ex (upd G1 dx (.own x)) (upd (upd G1 dx (.own x)) x (.ins (He.ga K c) dx (fv vs))) := Ex.new (S2.rel.s.none hx2)
    exact k _ _ _ (e1.trans (g1.trans g2)) (e2.trans ((Ex.new hdx).trans (Ex.new hx2))) S3 (.obj upd_same ((hf _ _ a).mono (g1.trans g2)))
/-- the slots at a def's entry -/
def entry (N : List Str) (ds : List D) : List Sl := ds.map Sl.sh ++ List.replicate (N.length - ds.length) .un
theorem slsA_un {G H : Hp} : ∀ n : Nat, SlsA K B G H (List.replicate n none) (List.replicate n .un) []
  | 0 => .nil
  | n + 1 => SlsA.cons (F := []) (F' := []) .un (slsA_un n)
theorem slsA_entry {G H : Hp} {m : Nat} : ∀ {vs : List V} {ds : List D}, Ats K G vs ds → SlsA K B G H (vs.map some ++ List.replicate m none) (ds.map Sl.sh ++ List.replicate m .un) []
  | _, _, .nil => slsA_un m
  | _, _, .cons a b => SlsA.cons (F := []) (F' := []) (.sh a) (slsA_entry b)
theorem sa_entry {G H : Hp} {N : List Str} {vs : List V} {ds : List D} (e : Ex G H) (a : Ats K G vs ds) : SA K ⟨G, H, fun _ => False⟩ G H (L2.start N vs) (entry N ds) [] := by
  refine ⟨⟨Ex.refl _, fun _ _ h _ => h, e, fun _ _ _ h => h, fun _ h => h⟩, [], ?_, by simp, fun p m => by simp at m, fun p m => by simp at m⟩
  unfold L2.start entry
  rw [a.length]
  exact slsA_entry a
/-- the rule for a def that changes nothing -/
theorem fn_pure {Pr : Program} {w : World} {mg : Str → Option Value} {base : Heap} {x qual : Str} {params : Arguments} {body : List Stmt} {scope : Scope} {dvs : List V} {kws : List (Str × V)} {f : Addr} {fd : FuncData} {N ps : List Str} {k : Nat} {R : List D → D → Prop}
    (F : FunD K x qual params body scope dvs kws f fd) (S : FnScope N ps scope) (len : ∀ ds d, R ds d → ds.length = ps.length)
    (hbody : ∀ (cdv : Value) (A : Around) (outer : List Env) (s : Shared) (H : Hp) (E : XK), Room k (A.deeper (envOfC qual scope s.heap.objs.size f cdv)) →
      ∃ t, PSs (cxOf CX0 Pr w K mg base N qual scope f cdv A outer s H E).nox body t ∧ ∀ B ds d, R ds d → SD K B (entry N ds) t { n := fun _ => d = .non, r := fun d' _ => d' = d }) : FnOk Pr w K mg base CX0 (k + 1) f fd ps (spR K R) := by
  refine F.ok S (fun vs H Q E h => ?_) (fun cdv A outer s H vs Q E hr h => ?_)
  · obtain ⟨G, ds, d, _, a, r, _⟩ := h
    rw [a.length]
    exact len ds d r
  · obtain ⟨t, ht, hs⟩ := hbody cdv A outer s H E hr
    refine ⟨t, PSs.nox ht, ?_⟩
    obtain ⟨G, ds, d, e, a, r, q⟩ := h
    refine hs ⟨G, H, fun _ => False⟩ ds d r G H _ (sa_entry e a) _ (fun G' H' σ' δ' e1 S' hn => ?_) (fun v G' H' σ' δ' d' e1 S' av hd => ?_) (fun _ _ _ _ _ _ z => z.elim) (fun _ _ _ _ _ _ z => z.elim)
    · subst hn
      exact q .non G' H' e1 (fun b o hb => S'.rel.h b o hb (fun z => z)) S'.rel.s (fun b o hb hg => S'.rel.f b o hb hg) .non
    · subst hd
      exact q v G' H' e1 (fun b o hb => S'.rel.h b o hb (fun z => z)) S'.rel.s (fun b o hb hg => S'.rel.f b o hb hg) av
end
/-! ### defs by their names -/
structure Ok (Pr : Program) (w : World) (K : PySem.W.Frag) (mg : Str → Option Value) (base : Heap) (k : Nat) (x : Str) (ps : List Str) (sp : Sp) : Prop where
  ex : ∃ fd, FnOk Pr w K mg base CX0 k (He.ga K x) fd ps sp ∧ Binds K fd ps []
  kp : PySem.W.keepIn K (.ref (He.ga K x)) = true
  mg : mg x = some (.ref (He.ga K x))
theorem pe_callO {X : Cx} {k : Nat} {sp : Sp} {x : Str} {ps : List Str} {p pos : Pos} {e : Expr} {es : List Expr} {t : TA} (O : Ok X.prog X.w X.K X.mg X.base k x ps sp) (hr : Room k X.A) (hg : Gl X x)
    (ha : PA X (e :: es) t) (hdb : (x == ("__debug__" : Str)) = false := by decide) (he : starEach (e :: es) X.env = (false, eval e X.env) :: starEach es X.env := by rfl) (hpl : (backTo pos (starEach es X.env)).any (·.1) = false := by rfl) :
    PE X (.Call (.Name x p) (e :: es) [] pos) (tCall sp [] E0 t) := by
  obtain ⟨fd, F, b⟩ := O.ex
  exact pe_call F hr hg O.mg O.kp b .nil pass0 ha hdb he hpl
structure OkI (Pr : Program) (w : World) (K : PySem.W.Frag) (mg : Str → Option Value) (base : Heap) (k : Nat) (x : Str) (ps : List Str) (sp : Sp) : Prop where
  ex : ∃ f fd, Mk K (He.ga K x) f ∧ FnOk Pr w K mg base CX0 k f fd ps sp ∧ Binds K fd ps []
  mg : mg x = some (.ref (He.ga K x))
theorem pe_makeO {X : Cx} {k : Nat} {sp : Sp} {x : Str} {ps : List Str} {p pos : Pos} {e : Expr} {es : List Expr} {t : TA} (O : OkI X.prog X.w X.K X.mg X.base k x ps sp) (hr : Room (k + 1) X.A) (hg : Gl X x)
    (ha : PA X (e :: es) t) (hdb : (x == ("__debug__" : Str)) = false := by decide) (he : starEach (e :: es) X.env = (false, eval e X.env) :: starEach es X.env := by rfl) (hpl : (backTo pos (starEach es X.env)).any (·.1) = false := by rfl) :
    PE X (.Call (.Name x p) (e :: es) [] pos) (tMake (He.ga X.K x) sp [] E0 t) := by
  obtain ⟨f, fd, M, F, b⟩ := O.ex
  exact pe_make M F hr hg O.mg b .nil pass0 ha hdb he hpl
end Dg
namespace Dg
open PySem PySem.Spec PyProof.Rows L2
/-! ### written dicts of ints -/
def intE (e : DictEntry) : Option (Int × Int) := match e.key, e.val with
  | .int k _, .int v _ => if e.hash = hashInt k then some (k, v) else none
  | _, _ => none
theorem intE_some {e : DictEntry} {k v : Int} (h : intE e = some (k, v)) : (∃ t, e.key = .int k t) ∧ (∃ t, e.val = .int v t) ∧ e.hash = hashInt k := by
  unfold intE at h
  split at h
  · rename_i k' t v' t' h1 h2
    split at h
    · rename_i hh
      have q := Prod.mk.inj (Option.some.inj h)
      obtain ⟨q1, q2⟩ := q
      subst q1 q2
      exact ⟨⟨_, h1⟩, ⟨_, h2⟩, hh⟩
    · cases h
  · cases h
def intDic (K : PySem.W.Frag) (a : Addr) : Option (List (Option (Int × Int))) := match K.lookup a with
  | some ⟨.type c, none, .dict es _, sl⟩ => if c = "dict" ∧ sl.size = 0 ∧ (a == sysModules) = false then some (es.toList.map intE) else none
  | _ => none
def IDic (K : PySem.W.Frag) (d : Addr) (kvs : List (Int × Int)) : Prop := ∃ es n, K.lookup d = some ⟨.type "dict", none, .dict es n, #[]⟩ ∧ es.toList.map intE = kvs.map some ∧ (d == sysModules) = false
theorem idic_of {K : PySem.W.Frag} {a : Addr} {kvs : List (Int × Int)} (h : intDic K a = some (kvs.map some)) : IDic K a kvs := by
  unfold intDic at h
  split at h
  · rename_i c es n sl e
    split at h
    · rename_i q
      obtain ⟨q1, q2, q3⟩ := q
      subst q1
      have q4 : sl = #[] := Array.size_eq_zero_iff.mp q2
      subst q4
      exact ⟨es, n, e, Option.some.inj h, q3⟩
    · cases h
  · cases h
theorem find_ints : ∀ {l : List DictEntry} {kvs : List (Int × Int)} (i : Int), l.map intE = kvs.map some → RelO ((kvs.lookup i).map V.int) ((l.find? fun e => Value.isInt i e.key).map (·.val))
  | [], [], i, _ => trivial
  | [], _ :: _, i, h => by cases h
  | _ :: _, [], i, h => by cases h
  | e :: l, (k, v) :: kvs, i, h => by
    obtain ⟨h1, h2⟩ := List.cons.inj h
    obtain ⟨⟨t, a⟩, ⟨t', b⟩, c⟩ := intE_some h1
    have ih := find_ints (l := l) (kvs := kvs) i h2
    by_cases q : i = k
    · subst q
      have e1 : Value.isInt i e.key = true := by rw [a]; simp [Value.isInt]
      rw [List.find?_cons, e1, List.lookup_cons_self]
      show RelV (.int v) e.val
      rw [b]
      exact ⟨t', rfl⟩
    · have e1 : Value.isInt i e.key = false := by
        rw [a]
        simp [Value.isInt]
        intro z
        exact q z.symm
      have e2 : (i == k) = false := beq_eq_false_iff_ne.mpr q
      rw [List.find?_cons, e1, List.lookup_cons, e2]
      exact ih
section
variable {K : PySem.W.Frag} {d : Addr} {kvs : List (Int × Int)}
theorem IDic.map {prog : Program} {w : World} {h : Heap} (D : IDic K d kvs) (X : K.In h) : ∃ f : Int → Option Value, h.MapOf (PySem.intKind prog w) d f ∧ ∀ i, RelO ((kvs.lookup i).map V.int) (f i) := by
  obtain ⟨es, n, l, e, q⟩ := D
  refine ⟨fun k => findBy Value.isInt es k, ⟨_, es, n, X _ _ l, ⟨rfl, rfl, rfl⟩, rfl, fun en hen => ?_, fun _ => rfl⟩, fun i => ?_⟩
  · have hm : en ∈ es.toList := Array.mem_toList_iff.mpr hen
    have : intE en ∈ es.toList.map intE := List.mem_map_of_mem hm
    rw [e] at this
    obtain ⟨⟨k, v⟩, _, h3⟩ := List.mem_map.mp this
    obtain ⟨⟨t, a⟩, _, c⟩ := intE_some h3.symm
    exact ⟨k, by rw [a]; simp [PySem.intKind, Value.isInt], c⟩
  · have q := find_ints (l := es.toList) (kvs := kvs) i e
    show RelO _ (findBy Value.isInt es i)
    unfold findBy
    obtain ⟨ls⟩ := es
    rw [List.find?_toArray]
    exact q
theorem relO_some {o : Option Int} {u : Option Value} (h : RelO (o.map V.int) u) : u.isSome = o.isSome := by
  cases o <;> cases u <;> first | rfl | exact h.elim
variable {X : Cx}
def rInI (d : Addr) (kvs : List (Int × Int)) (neg : Bool) : R2 := fun x y H Q => ∃ i, x = .int i ∧ y = .ref d ∧ Q (.bl (if neg then !(kvs.lookup i).isSome else (kvs.lookup i).isSome)) H
theorem op_inI (D : IDic X.K d kvs) : OpR X (compareOp .In) (rInI d kvs false) := by
  intro pins s σ H x y v u Q I rx ry h
  obtain ⟨i, rfl, rfl, q⟩ := h
  obtain ⟨t, rfl⟩ := rx
  cases ry
  obtain ⟨f, m, r⟩ := D.map (prog := X.prog) (w := X.w) I.kIn
  refine wpAny_in_of (k := i) (knd := PySem.intKind X.prog X.w) (by simp [PySem.intKind, Value.isInt]) D.choose_spec.choose_spec.2.2 m ?_
  rw [relO_some (r i)]
  exact ⟨.bl _, H, I.tok _, rfl, q⟩
theorem op_notInI (D : IDic X.K d kvs) : OpR X (compareOp .NotIn) (rInI d kvs true) := by
  intro pins s σ H x y v u Q I rx ry h
  obtain ⟨i, rfl, rfl, q⟩ := h
  obtain ⟨t, rfl⟩ := rx
  cases ry
  obtain ⟨f, m, r⟩ := D.map (prog := X.prog) (w := X.w) I.kIn
  refine wpAny_notIn_of (k := i) (knd := PySem.intKind X.prog X.w) (by simp [PySem.intKind, Value.isInt]) D.choose_spec.choose_spec.2.2 m ?_
  rw [relO_some (r i)]
  exact ⟨.bl _, H, I.tok _, rfl, q⟩
def rIxI (d : Addr) (kvs : List (Int × Int)) : R2 := fun x y H Q => ∃ i v, x = .ref d ∧ y = .int i ∧ kvs.lookup i = some v ∧ Q (.int v) H
theorem ix_I (D : IDic X.K d kvs) : IxR X (rIxI d kvs) := by
  intro a b pins s σ H x y v u Q I rx ry h hs
  obtain ⟨i, z, rfl, rfl, e, q⟩ := h
  cases rx
  obtain ⟨t, rfl⟩ := ry
  obtain ⟨f, m, r⟩ := D.map (prog := X.prog) (w := X.w) I.kIn
  have ri := r i
  rw [e] at ri
  obtain ⟨u, hu, ⟨t', rfl⟩⟩ := RelO.some_of ri
  exact tail_any m.typeIs slot_dict_getitem.lookup (wpAny_getItem_of (k := i) (knd := PySem.intKind X.prog X.w) (by simp [PySem.intKind, Value.isInt]) m hu ⟨.int z, H, I.tok _, ⟨_, rfl⟩, q⟩) hs
end
def tGetI (d : Addr) (kvs : List (Int × Int)) (td ty tx : TE) : TE := fun σ H Q => td σ H fun x H1 => x = .ref d ∧ ty σ H1 fun y H2 => tx σ H2 fun z H3 => ∃ i, y = .int i ∧ Q (((kvs.lookup i).map V.int).getD z) H3
section
variable {d : Addr} {kvs : List (Int × Int)} {X : Cx} {o e f : Expr} {apos cpos : Pos} {td ty tx : TE}
theorem pe_getI (D : IDic X.K d kvs) (ho : PE X o td) (he : PE X e ty) (hf : PE X f tx) (m : M2 X o "get" apos e f cpos) : PE X (.Call (.Attribute o "get" apos) [e, f] [] cpos) (tGetI d kvs td ty tx) := by
  refine ⟨fun pins s σ H Q I h => ?_⟩
  refine wpAny_Call_method m.base m.few m.line PySem.F.plainAttrs_dict PySem.F.slot_dict_get PySem.F.type_dict_get (thn (ho.run pins s σ H _ I h) fun u s1 ⟨x, H1, I1, rx, ex, q1⟩ => ?_)
  subst ex
  obtain rfl : u = Value.ref d := rx
  obtain ⟨g, mo, r⟩ := D.map (prog := X.prog) (w := X.w) I1.kIn
  refine ⟨mo.typeIs, fun b q => ?_, ?_⟩
  · cases q
    obtain ⟨ob, _, _, h1, h2, _⟩ := mo
    exact ⟨ob, h1, h2.2.1⟩
  rw [m.trees]
  refine Calls.callWith_builtin rfl (Calls.evalArgs_plain (Calls.spliced_cons (thn (he.run pins s1 σ H1 _ I1 q1) fun iv s2 ⟨y, H2, I2, ry, q2⟩ => Calls.spliced_cons (thn (hf.run pins s2 σ H2 _ I2 q2) fun dv s3 ⟨z, H3, I3, rz, i, ey, q3⟩ => Calls.spliced_nil ?_))))
  subst ey
  obtain ⟨t, rfl⟩ := ry
  obtain ⟨g3, mo3, r3⟩ := D.map (prog := X.prog) (w := X.w) I3.kIn
  refine call_meetsIn PySem.F.slot_dict_get mo3.typeIs PySem.F.entry_dict_get (PySem.F.args_dict_get_3 _ _ _) (meets_dict_get_default (PySem.intKind X.prog X.w) d (k := i) (by simp [PySem.intKind, Value.isInt]) D.choose_spec.choose_spec.2.2 dv) ⟨_, mo3, ?_⟩
  refine ⟨_, H3, I3.tok _, ?_, q3⟩
  have ri := r3 i
  cases hq : kvs.lookup i with
  | none =>
    rw [hq] at ri
    rw [RelO.none_of ri]
    exact rz
  | some v =>
    rw [hq] at ri
    obtain ⟨u, hu, ru⟩ := RelO.some_of ri
    rw [hu]
    exact ru
end
/-! ### names of the module -/
section
variable {X : Cx} {x : Str} {pos : Pos}
theorem pe_gint {n : Int} (hg : Gl X x) (hm : ∃ t, X.mg x = some (.int n t)) (hd : (x == ("__debug__" : Str)) = false := by decide) : PE X (.Name x pos) (tC (.int n)) := by
  obtain ⟨t, h⟩ := hm
  exact pe_glob hg h ⟨t, rfl⟩ hd
theorem pe_gref {a : Addr} (hg : Gl X x) (hm : X.mg x = some (.ref a)) (hd : (x == ("__debug__" : Str)) = false := by decide) : PE X (.Name x pos) (tC (.ref a)) := pe_glob hg hm rfl hd
end
section
variable {K : PySem.W.Frag} {B : Bs} {δ : List Sl} {ta tb te tx : TE} {tt : TT} {e : D} {t u : TS} {P : Po} {d : Addr} {kvs : List (Int × Int)}
theorem ed_inI {i : Int} {neg : Bool} (h : ED K B δ ta (.int i)) : ED K B δ (tOp (rInI d kvs neg) ta (tC (.ref d))) (.bl (if neg then !(kvs.lookup i).isSome else (kvs.lookup i).isSome)) := fun G H σ X S Q k =>
  h G H σ X S _ fun v G1 H1 e1 e2 S1 a => ⟨i, a.int_eq, rfl, k _ _ _ e1 e2 S1 .bl⟩
theorem ed_ixI {i v : Int} (h : ED K B δ tb (.int i)) (hv : kvs.lookup i = some v) : ED K B δ (tOp (rIxI d kvs) (tC (.ref d)) tb) (.int v) := fun G H σ X S Q k =>
  h G H σ X S _ fun z G1 H1 e1 e2 S1 a => ⟨i, v, rfl, a.int_eq, hv, k _ _ _ e1 e2 S1 .int⟩
theorem ed_getI {i j : Int} (h : ED K B δ ta (.int i)) (h2 : ED K B δ tb (.int j)) : ED K B δ (tGetI d kvs (tC (.ref d)) ta tb) (.int ((kvs.lookup i).getD j)) := fun G H σ X S Q k =>
  ⟨rfl, h G H σ X S _ fun z G1 H1 e1 e2 S1 a => h2 G1 H1 σ X S1 _ fun z2 G2 H2 e3 e4 S2 a2 => ⟨i, a.int_eq, by
    have e : ((kvs.lookup i).map V.int).getD z2 = .int ((kvs.lookup i).getD j) := by
      rw [a2.int_eq]
      cases kvs.lookup i <;> rfl
    rw [e]
    exact k _ _ _ (e1.trans e3) (e2.trans e4) S2 .int⟩⟩
/-! ### either a list or a tuple; fields by K -/
def rSlS (K : PySem.W.Frag) : V → Option Int → Option Int → Hp → VK → Prop := fun x lo hi H Q => rSlL K x lo hi H Q ∨ rSlT K x lo hi H Q
theorem sl_seq {X : Cx} : SlR X (rSlS X.K) := sl_list.or sl_tup
theorem pe_fldK {X : Cx} {e : Expr} {f : Str} {pos : Pos} {K : PySem.W.Frag} {ta : TE} (he : PE X e ta) (hK : X.K = K) (hb : attributeBase e f X.env (eval e X.env) = eval e X.env) : PE X (.Attribute e f pos) (tFld K ta f) := by
  subst hK
  exact pe_fld he hb
/-! ### isinstance -/
structure TyK (K : PySem.W.Frag) (c : Str) : Prop where
  cl : Cls K (He.ga K c)
  ha : PySem.W.findIn K (.ref (He.ga K c)) "__class__" = some (some (.builtin "object.__class__"))
  hn : PySem.W.specialIn K (.builtin "object.__class__") "__get__" = some (some (.builtin "getset_descriptor.__get__"))
  htk : PySem.W.takesIn K (.builtin "object.__class__") = some true
  hm : PySem.W.mroIn K (He.ga K c) (.type "object") = some true
theorem ed_isi {c c2 : Str} {fs : List (Str × D)} {b : Bool} (h : ED K B δ ta (.obj c fs)) (T : TyK K c) (hk : PySem.W.kitOne K (.ref (He.ga K c)) (.ref (He.ga K c2)) = some b) :
    ED K B δ (tCB (rIsi K) (tCons ta (tCons (tC (.ref (He.ga K c2))) tNil))) (.bl b) := fun G H σ X S Q k =>
  h G H σ X S _ fun v G1 H1 e1 e2 S1 a => by
    obtain ⟨p, dx, vs, rfl, h1, h2⟩ := a.obj_eq
    exact ⟨.ref p, _, _, _, b, rfl, .own _, .base (.ins (S1.rel.s _ _ h1) T.cl T.ha T.hn T.htk T.hm), hk, k _ _ _ e1 e2 S1 .bl⟩
/-! ### == of lists of ints -/
theorem eqv_ints : ∀ l m : List Int, PyData.eqvAll (l.map PyData.int) (m.map PyData.int) = decide (l = m)
  | [], [] => rfl
  | [], _ :: _ => rfl
  | _ :: _, [] => rfl
  | i :: l, j :: m => by
    show ((i == j) && PyData.eqvAll (l.map PyData.int) (m.map PyData.int)) = _
    rw [eqv_ints l m, Bool.eq_iff_iff]
    simp
theorem canLay_ints : ∀ l : List Int, PyData.canLayAll0 (l.map PyData.int) = true
  | [] => rfl
  | i :: l => by
    show (true && PyData.canLayAll0 (l.map PyData.int)) = true
    rw [canLay_ints l] <;> rfl
theorem depth_ints : ∀ l : List Int, PyData.depthAll (l.map PyData.int) = 0
  | [] => rfl
  | i :: l => by
    show max 0 (PyData.depthAll (l.map PyData.int)) = 0
    rw [depth_ints l] <;> rfl
theorem shaped_ints (l : List Int) : SeqAt.shaped (.list (l.map PyData.int)) = true := by
  have e1 : (PyData.list (l.map PyData.int)).canLay0 = true := canLay_ints l
  have e2 : (PyData.list (l.map PyData.int)).depth = 1 := by
    show PyData.depthAll (l.map PyData.int) + 1 = 1
    rw [depth_ints]
  unfold SeqAt.shaped
  rw [e1, e2]
  rfl
theorem ed_neL {l m : List Int} (ha : ED K B δ ta (.lst (dI l))) (hb : ED K B δ tb (.lst (dI m))) : ED K B δ (tOp (rNeD K) ta tb) (.bl (!decide (l = m))) :=
  ed_op ha hb fun G H σ X x y S a b Q k => by
    obtain ⟨p, vs, rfl, h1, h2⟩ := a.lst_eq
    obtain ⟨q, ws, rfl, h3, h4⟩ := b.lst_eq
    rw [h2.ints_eq] at h1
    rw [h4.ints_eq] at h3
    refine ⟨_, _, .lst (.of (S.rel.s _ _ h1)) (dp_ints l), .lst (.of (S.rel.s _ _ h3)) (dp_ints m), shaped_ints l, shaped_ints m, ?_⟩
    have e : PyData.eqv (.list (l.map PyData.int)) (.list (m.map PyData.int)) = decide (l = m) := eqv_ints l m
    rw [e]
    exact k _ _ _ (Ex.refl _) (Ex.refl _) S .bl
end
end Dg
namespace Dg
open PySem PySem.Spec PyProof.Rows L2
theorem hle {a b : Nat} (h : Nat.ble a b = true) : a ≤ b := Nat.le_of_ble_eq_true h
theorem hlt {a b : Nat} (h : Nat.ble (a + 1) b = true) : a < b := Nat.le_of_ble_eq_true h
section
variable {K : PySem.W.Frag} {B : Bs} {δ : List Sl} {ta tb te tx : TE} {tt : TT} {d e : D} {t u : TS} {P : Po}
theorem en_catI {l m : List Int} (ha : ED K B δ ta (.lst (dI l))) (hb : ED K B δ tb (.lst (dI m))) (hz : l.length + m.length ≤ 16000000) : EN K B δ (tOp rCat ta tb) (dI (l ++ m)) :=
  en_is (en_cat ha hb (by rw [List.length_map, List.length_map]; exact hz)) List.map_append.symm
theorem en_repI {i n : Int} (ha : ED K B δ ta (.lst (dI [i]))) (hb : ED K B δ tb (.int n)) (hz : n ≤ 16000000) (hl : -16000000 ≤ n) : EN K B δ (tOp rRep ta tb) (dI (List.replicate n.toNat i)) :=
  en_is (en_rep (d := .int i) ha hb hz hl) (by rw [dI, List.map_replicate])
theorem en_sliceI {tl th : TO} {lo hi : Option Int} {l : List Int} (ha : ED K B δ ta (.lst (dI l))) (hl : EO K B δ tl lo) (hh : EO K B δ th hi) : EN K B δ (tSl (rSlL K) ta tl th) (dI (cutD l lo hi)) :=
  en_is (en_slice ha hl hh) (cutD_map _ _ _ _)
theorem en_lst1I {i : Int} (h : ED K B δ te (.int i)) : EN K B δ (tLst (tCons te tNil)) (dI [i]) := en_lst (ea_cons h ea_nil) (hle rfl)
theorem en_lst2I {i j : Int} (h : ED K B δ te (.int i)) (h' : ED K B δ tx (.int j)) : EN K B δ (tLst (tCons te (tCons tx tNil))) (dI [i, j]) := en_lst (ea_cons h (ea_cons h' ea_nil)) (hle rfl)
theorem en_lst0I : EN K B δ (tLst tNil) (dI []) := en_lst ea_nil (hle rfl)
theorem ed_mulW {i j : Int} (ha : ED K B δ ta (.int i)) (hb : ED K B δ tb (.int j)) (hc : CMulW i j) : ED K B δ (tOp (rI CMulW fun i j => .int (i * j)) ta tb) (.int (i * j)) := ed_I (g' := fun i j => .int (i * j)) ha hb hc fun _ => .int
theorem ed_fdivW {i j : Int} (ha : ED K B δ ta (.int i)) (hb : ED K B δ tb (.int j)) (hc : CDivW i j) : ED K B δ (tOp (rI CDivW fun i j => .int (i / j)) ta tb) (.int (i / j)) := ed_I (g' := fun i j => .int (i / j)) ha hb hc fun _ => .int
theorem ed_sliceS {tl th : TO} {lo hi : Option Int} {ds : List D} (ha : ED K B δ ta d) (hl : EO K B δ tl lo) (hh : EO K B δ th hi) (hne : ¬ (HT.sIx ds.length 0 lo = 0 ∧ HT.sIx ds.length ds.length hi = ds.length))
    (hd : (d = .lst ds ∧ e = .lst (cutD ds lo hi)) ∨ (d = .tup ds ∧ e = .tup (cutD ds lo hi))) : ED K B δ (tSl (rSlS K) ta tl th) e := fun G H σ X S Q k => by
  rcases hd with ⟨rfl, rfl⟩ | ⟨rfl, rfl⟩
  · have q := (en_slice ha hl hh).ed G H σ X S Q k
    exact ha G H σ X S _ fun v G1 H1 e1 e2 S1 a => hl G1 H1 σ X S1 _ fun G2 H2 e3 e4 S2 => hh G2 H2 σ X S2 _ fun G3 H3 e5 e6 S3 => .inl (by
      obtain ⟨p, vs, rfl, h1, h2⟩ := ((a.mono e3).mono e5).lst_eq
      refine ⟨p, vs, rfl, .of (S3.rel.s _ _ h1), fun l hl => ?_⟩
      exact k _ _ _ (((e1.trans e3).trans e5).trans (Ex.new (S3.rel.s.none hl))) (((e2.trans e4).trans e6).trans (Ex.new hl)) (S3.fresh hl) (.lst upd_same ((h2.cut lo hi).mono (Ex.new (S3.rel.s.none hl)))))
  · exact ha G H σ X S _ fun v G1 H1 e1 e2 S1 a => hl G1 H1 σ X S1 _ fun G2 H2 e3 e4 S2 => hh G2 H2 σ X S2 _ fun G3 H3 e5 e6 S3 => .inr (by
      obtain ⟨p, vs, rfl, h1, h2⟩ := ((a.mono e3).mono e5).tup_eq
      refine ⟨p, vs, rfl, .of (S3.rel.s _ _ h1), ?_, fun l hl => ?_⟩
      · rw [h2.length]
        exact hne
      · exact k _ _ _ (((e1.trans e3).trans e5).trans (Ex.new (S3.rel.s.none hl))) (((e2.trans e4).trans e6).trans (Ex.new hl)) (S3.fresh hl) (.tup upd_same ((h2.cut lo hi).mono (Ex.new (S3.rel.s.none hl)))))
end
/-! ### some sums about slices -/
theorem cutD_from {α : Type} (l : List α) {a : Int} (h : 0 ≤ a) : cutD l (some a) none = l.drop a.toNat := by
  obtain ⟨n, rfl⟩ := Int.eq_ofNat_of_zero_le h
  unfold cutD
  rw [HT.sIx_nat, HT.sIx_none, Int.toNat_natCast]
  rw [List.take_of_length_le (by rw [List.length_drop]; omega)]
  by_cases q : n ≤ l.length
  · rw [Nat.min_eq_left q]
  · rw [Nat.min_eq_right (by omega), List.drop_eq_nil_of_le (by omega), List.drop_eq_nil_of_le (by omega)]
theorem cutD_to {α : Type} (l : List α) {b : Int} (h : 0 ≤ b) : cutD l none (some b) = l.take b.toNat := by
  obtain ⟨n, rfl⟩ := Int.eq_ofNat_of_zero_le h
  unfold cutD
  rw [HT.sIx_nat, HT.sIx_none, Int.toNat_natCast, List.drop_zero, Nat.sub_zero]
  by_cases q : n ≤ l.length
  · rw [Nat.min_eq_left q]
  · rw [Nat.min_eq_right (by omega), List.take_of_length_le (by omega), List.take_of_length_le (by omega)]
theorem cutD_mid {α : Type} (l : List α) {a b : Int} (h : 0 ≤ a) (h2 : a ≤ b) : cutD l (some a) (some b) = (l.drop a.toNat).take (b.toNat - a.toNat) := by
  obtain ⟨n, rfl⟩ := Int.eq_ofNat_of_zero_le h
  obtain ⟨m, rfl⟩ := Int.eq_ofNat_of_zero_le (Int.le_trans h h2)
  unfold cutD
  rw [HT.sIx_nat, HT.sIx_nat, Int.toNat_natCast, Int.toNat_natCast]
  have h3 : n ≤ m := by omega
  by_cases q : m ≤ l.length
  · rw [Nat.min_eq_left q, Nat.min_eq_left (by omega)]
  · by_cases q2 : n ≤ l.length
    · rw [Nat.min_eq_right (by omega), Nat.min_eq_left q2, List.take_of_length_le (by rw [List.length_drop]; omega), List.take_of_length_le (by rw [List.length_drop]; omega)]
    · rw [Nat.min_eq_right (by omega), Nat.min_eq_right (by omega), List.drop_eq_nil_of_le (by omega), List.drop_eq_nil_of_le (by omega)]
      simp
theorem sIx_neg1 (n d : Nat) : HT.sIx n d (some (-1)) = n - 1 := by
  show (if (-1 : Int) < 0 then ((-1 : Int) + n).toNat else min (-1 : Int).toNat n) = n - 1
  rw [if_pos (by decide)]
  omega
/-- all but the last -/
theorem cutD_init {α : Type} (l : List α) {a : Nat} : cutD l (some (a : Int)) (some (-1)) = (l.drop a).take (l.length - 1 - a) := by
  unfold cutD
  rw [sIx_neg1, HT.sIx_nat]
  by_cases q : a ≤ l.length
  · rw [Nat.min_eq_left q]
  · rw [Nat.min_eq_right (by omega), List.drop_eq_nil_of_le (by omega), List.drop_eq_nil_of_le (by omega)]
    simp
theorem cutD_dropLast {α : Type} (l : List α) : cutD l none (some (-1)) = l.dropLast := by
  unfold cutD
  rw [sIx_neg1, HT.sIx_none, List.drop_zero, Nat.sub_zero, List.dropLast_eq_take]
theorem atI_lt {α : Type} {l : List α} {i : Int} {x : α} (h0 : 0 ≤ i) (h : l[i.toNat]? = some x) : atI l i = some x := by
  obtain ⟨n, rfl⟩ := Int.eq_ofNat_of_zero_le h0
  exact atI_nat h
theorem atI_map {α β : Type} (f : α → β) {l : List α} {i : Int} {x : α} (h : atI l i = some x) : atI (l.map f) i = some (f x) := by
  unfold L2.atI at h ⊢
  rw [List.length_map]
  cases q : ixN l.length i with
  | none =>
    rw [q] at h
    cases h
  | some j =>
    rw [q] at h
    have h' : l[j]? = some x := h
    show (l.map f)[j]? = _
    rw [List.getElem?_map, h']
    rfl
theorem atI_zero {α : Type} (a : α) (r : List α) : atI (a :: r) 0 = some a := atI_nat (j := 0) rfl
theorem nth_map {α : Type} (f : α → D) {l : List α} {i : Nat} (h : i < l.length) : nth (l.map f) i = f l[i] := nth_eq (by rw [List.getElem?_map, List.getElem?_eq_getElem h]; rfl)
theorem range_map {α β : Type} (l : List α) (f : Nat → β) (g : α → β) (h : ∀ i (hi : i < l.length), f i = g l[i]) : (List.range l.length).map f = l.map g := by
  apply List.ext_getElem
  · simp
  · intro i h1 h2
    simp at h1 h2 ⊢
    exact h i h1
section
variable {K : PySem.W.Frag} {B : Bs} {δ : List Sl} {ta tb te tx : TE} {tt : TT} {d e : D} {t u : TS} {P : Po} {α : Type} {l : List α} {f : α → D}
theorem dw_listL (h : ED K B δ ta (.lst (l.map f))) : DW K B δ (iList K ta) l.length (nth (l.map f)) := by
  have q := dw_list h
  rw [List.length_map] at q
  exact q
theorem dw_tupL (h : ED K B δ ta (.tup (l.map f))) : DW K B δ (iTup K ta) l.length (nth (l.map f)) := by
  have q := dw_tup h
  rw [List.length_map] at q
  exact q
theorem dw_seqL (h : ED K B δ ta d) (hd : d = .lst (l.map f) ∨ d = .tup (l.map f)) : DW K B δ (iSeq K ta) l.length (nth (l.map f)) := by
  have q := dw_seq h hd
  rw [List.length_map] at q
  exact q
theorem dw_enumL (h : ED K B δ ta (.lst (l.map f))) : DW K B δ (iEnum K (tCons ta tNil)) l.length (fun i => .tup [.int i, nth (l.map f) i]) := by
  have q := dw_enum h
  rw [List.length_map] at q
  exact q
theorem nth_mapD [Inhabited α] {i : Nat} (h : i < l.length) : nth (l.map f) i = f (l.getD i default) := by
  rw [nth_map f h, List.getD_eq_getElem?_getD, List.getElem?_eq_getElem h]
  rfl
/-- [g(x) for x in l] -/
theorem en_lcL {wi : TI} {j : Nat} {s : Sl} {g : α → D} (w : DW K B δ wi l.length (nth (l.map f))) (hj : δ[j]? = some s) (hf : s.flat = true) (he : ∀ x ∈ l, ED K B (δ.set j (.sh (f x))) te (g x)) (hz : l.length ≤ 16000000) :
    EN K B δ (tLc wi (gName j) tYes te [j]) (l.map g) := by
  have q := en_lc (g := nth (l.map g)) w hj hf (fun i hi => by
    rw [nth_map f hi, nth_map g hi]
    exact he _ (List.getElem_mem hi)) hz
  rw [range_map l _ g (fun i hi => nth_map g hi)] at q
  exact q
/-- for x in l -/
theorem sd_forL {wi : TI} {g : TG} {tb : TS} (w : DW K B δ wi l.length (nth (l.map f))) (I : List α → List Sl → Prop) (h0 : I [] δ)
    (hs : ∀ pre x post δ', l = pre ++ x :: post → I pre δ' → GD K B δ' g (f x) fun δ2 => SD K B δ2 tb { n := I (pre ++ [x]), r := P.r, b := P.n, c := I (pre ++ [x]) }) (hd : ∀ δ', I l δ' → P.n δ') : SD K B δ (tFor wi g tb) P := by
  refine sd_for w (fun i => I (l.take i)) (by simpa using h0) (fun i δ' hi h => ?_) (fun δ' h => hd δ' (by simpa using h))
  have e : l = l.take i ++ l[i] :: l.drop (i + 1) := by simp
  have q := hs (l.take i) l[i] (l.drop (i + 1)) δ' e h
  rw [nth_map f hi]
  have e2 : l.take (i + 1) = l.take i ++ [l[i]] := by simp
  rw [← e2] at q
  exact q
end
section
variable {K : PySem.W.Frag} {B : Bs} {δ : List Sl} {ta tb te tx : TE} {tt : TT} {d e : D} {t u : TS} {P : Po}
/-! items of lists of ints -/
theorem ed_ixN {l : List Int} {i x : Int} (ha : ED K B δ ta (.lst (dI l))) (hb : ED K B δ tb (.int i)) (h : atI l i = some x) : ED K B δ (tOp (rIxL K) ta tb) (.int x) := ed_ix ha hb (atI_map D.int h)
theorem ed_ixTN {l : List Int} {i x : Int} (ha : ED K B δ ta (.tup (dI l))) (hb : ED K B δ tb (.int i)) (h : atI l i = some x) : ED K B δ (tOp (rIxT K) ta tb) (.int x) := ed_ixT ha hb (atI_map D.int h)
theorem ed_lenN {ta : TE} {l : List Int} (h : ED K B δ ta (.lst (dI l))) : ED K B δ (tCB (rLenQ K) (tCons ta tNil)) (.int l.length) := ed_is (ed_lenL h) (by rw [List.length_map])
theorem ed_lenTN {ta : TE} {l : List Int} (h : ED K B δ ta (.tup (dI l))) : ED K B δ (tCB (rLenQ K) (tCons ta tNil)) (.int l.length) := ed_is (ed_lenT h) (by rw [List.length_map])
theorem ed_lenM {α : Type} {ta : TE} {l : List α} {f : α → D} (h : ED K B δ ta (.lst (l.map f))) : ED K B δ (tCB (rLenQ K) (tCons ta tNil)) (.int l.length) := ed_is (ed_lenL h) (by rw [List.length_map])
/-- a list or a tuple -/
def seqD (b : Bool) (ds : List D) : D := match b with
  | true => .tup ds
  | false => .lst ds
theorem sq (b : Bool) (ds : List D) : seqD b ds = .lst ds ∨ seqD b ds = .tup ds := by cases b <;> simp [seqD]
theorem ed_ixSN {b : Bool} {l : List Int} {i x : Int} (ha : ED K B δ ta (seqD b (dI l))) (hb : ED K B δ tb (.int i)) (h : atI l i = some x) : ED K B δ (tOp (rIx K) ta tb) (.int x) := ed_ixS ha (sq b _) hb (atI_map D.int h)
theorem ed_lenSN {b : Bool} {ta : TE} {l : List Int} (h : ED K B δ ta (seqD b (dI l))) : ED K B δ (tCB (rLenQ K) (tCons ta tNil)) (.int l.length) := ed_is (ed_lenS h (sq b _)) (by rw [List.length_map])
theorem ed_sliceSN {b : Bool} {tl th : TO} {lo hi : Option Int} {l : List Int} (ha : ED K B δ ta (seqD b (dI l))) (hl : EO K B δ tl lo) (hh : EO K B δ th hi) (hne : ¬ (HT.sIx l.length 0 lo = 0 ∧ HT.sIx l.length l.length hi = l.length)) :
    ED K B δ (tSl (rSlS K) ta tl th) (seqD b (dI (cutD l lo hi))) := by
  refine ed_sliceS (ds := dI l) ha hl hh (by rw [List.length_map]; exact hne) ?_
  rw [cutD_map]
  cases b
  · exact .inl ⟨rfl, rfl⟩
  · exact .inr ⟨rfl, rfl⟩
/-- an argument list written otherwise -/
theorem ed_callQ {ta : TA} {R : List D → D → Prop} {E : XK} {ds es : List D} (h : EA K B δ ta ds) (q : ds = es) (hR : R es d) : ED K B δ (tCall (spR K R) [] E ta) d := ed_call (q ▸ h) hR
end
end Dg
namespace Dg
open PySem PySem.Spec PyProof.Rows L2
/-! ### lists of lists of one's own -/
section
variable {K : PySem.W.Frag} {B : Bs} {G G' H H' : Hp} {σ : L2.St} {δ : List Sl} {X : List Addr} {ta tb te tx : TE} {tt : TT} {d e : D} {t u : TS} {P : Po}
theorem paired_at {α β : Type} {R : α → β → Prop} : ∀ {l : List α} {m : List β} {k : Nat} {b : β}, Paired R l m → m[k]? = some b → ∃ a, l[k]? = some a ∧ R a b
  | _, _, _, _, .nil, e => by simp at e
  | _, _, 0, _, .cons r _, e => by simp at e; subst e; exact ⟨_, rfl, r⟩
  | _, _, k + 1, b, .cons _ t, e => by
    obtain ⟨a, h1, h2⟩ := paired_at (k := k) (b := b) t (by simpa using e)
    exact ⟨a, by simpa using h1, h2⟩
theorem paired_set {R R' : Addr → List D → Prop} {q : Addr} {y : List D} : ∀ {l : List Addr} {m : List (List D)} {k : Nat}, Paired R l m → l.Nodup → l[k]? = some q → (∀ a b, a ≠ q → R a b → R' a b) → R' q y → Paired R' l (m.set k y)
  | _, _, _, .nil, _, e, _, _ => by simp at e
  | _, _, 0, .cons r t, nd, e, h, hy => by
    simp at e
    subst e
    have n1 := (List.nodup_cons.mp nd).1
    exact .cons hy (Paired.mapM t fun a ma b p => h a b (fun z => n1 (by rw [← z]; exact ma)) p)
  | _, _, k + 1, .cons (a := a) r t, nd, e, h, hy => by
    have e' : _ := (List.getElem?_cons_succ ▸ e)
    have n1 := (List.nodup_cons.mp nd)
    refine .cons (h _ _ (fun z => n1.1 ?_) r) (paired_set t n1.2 (by simpa using e) h hy)
    rw [z]
    exact List.mem_of_getElem? (by simpa using e)
theorem paired_snoc {α β : Type} {R : α → β → Prop} {a : α} {b : β} : ∀ {l : List α} {m : List β}, Paired R l m → R a b → Paired R (l ++ [a]) (m ++ [b])
  | _, _, .nil, h => .cons h .nil
  | _, _, .cons r t, h => .cons r (paired_snoc t h)
theorem paired_len {α β : Type} {R : α → β → Prop} : ∀ {l : List α} {m : List β}, Paired R l m → l.length = m.length
  | _, _, .nil => rfl
  | _, _, .cons _ t => congrArg (· + 1) (paired_len t)
/-- writing to an address of a slot's own -/
theorem SA.write1 {i : Nat} {s s' : Sl} {o : Option V} {F1 Fi F2 : List Addr} {q : Addr} {vs' : List V} {new : List Addr} (S : SA K B G H σ δ (new ++ X)) (hF : SlsA K B G H σ δ (F1 ++ (Fi ++ F2))) (nd : (F1 ++ (Fi ++ F2) ++ (new ++ X)).Nodup)
    (hp : ∀ p ∈ F1 ++ (Fi ++ F2) ++ (new ++ X), G p = none ∧ H p ≠ none) (hX : ∀ p ∈ new ++ X, B.H0 p = none) (hq : q ∈ Fi) (hq0 : B.H0 q = none)
    (k : ∀ (H' : Hp) o' s' Fi', (∀ a u, H a = some u → a ∈ F1 ++ F2 → H' a = some u) → SlA K B G H' o' s' Fi' → SlsA K B G H' (σ.set i o') (δ.set i s') (F1 ++ (Fi' ++ F2)))
    (hs : SlA K B G (upd H q (.lst vs')) o s' (Fi ++ new)) : SA K B G (upd H q (.lst vs')) (σ.set i o) (δ.set i s') X := by
  have nq : q ∉ F1 ++ F2 := fun m => by
    simp only [List.append_assoc] at nd
    rw [List.nodup_append] at nd
    obtain ⟨n1, n2, n3⟩ := nd
    rcases List.mem_append.mp m with m | m
    · exact n3 q m q (List.mem_append_left _ hq) rfl
    · rw [List.nodup_append] at n2
      exact n2.2.2 q hq q (List.mem_append_left _ m) rfl
  have z := k (upd H q (.lst vs')) o s' (Fi ++ new) (fun a u e m => by
    rw [upd_ne (fun z => nq (by rw [← z]; exact m))]
    exact e) hs
  have hg := (hp q (by simp [hq])).1
  refine ⟨⟨S.rel.g, fun c u e w => ?_, fun c u e => ?_, S.rel.f, fun c e => ?_⟩, _, z, ?_, fun c m => ?_, fun c m => hX c (List.mem_append_right _ m)⟩
  · rw [upd_ne (fun z => by rw [z, hq0] at e; cases e)]
    exact S.rel.h c u e w
  · rw [upd_ne (fun z => by rw [z, hg] at e; cases e)]
    exact S.rel.s c u e
  · by_cases z : c = q
    · rw [z, upd_same]
      simp
    · rw [upd_ne z]
      exact S.rel.t c e
  · have e : (F1 ++ (Fi ++ new ++ F2) ++ X).Perm (F1 ++ (Fi ++ F2) ++ (new ++ X)) := by
      simp only [List.append_assoc]
      refine List.Perm.append_left F1 (List.Perm.append_left Fi ?_)
      rw [← List.append_assoc, ← List.append_assoc]
      exact List.Perm.append_right X List.perm_append_comm
    rw [e.nodup_iff]
    exact nd
  · have m' : c ∈ F1 ++ (Fi ++ F2) ++ (new ++ X) := by
      simp only [List.mem_append] at m ⊢
      rcases m with (m | (m | m) | m) | m
      · exact .inl (.inl m)
      · exact .inl (.inr (.inl m))
      · exact .inr (.inl m)
      · exact .inl (.inr (.inr m))
      · exact .inr (.inr m)
    obtain ⟨q1, q2⟩ := hp c m'
    refine ⟨q1, ?_⟩
    by_cases z : c = q
    · rw [z, upd_same]
      simp
    · rw [upd_ne z]
      exact q2
/-- the k-th list of a slot's own lists -/
theorem SA.ow2 {i k : Nat} {dss : List (List D)} {ds : List D} (S : SA K B G H σ δ X) (h : δ[i]? = some (.ow2 dss)) (hk : dss[k]? = some ds) : ∃ (p : Addr) (qs : List Addr) (q : Addr) (vs : List V), σ[i]? = some (some (.ref p)) ∧ H p = some (.lst (qs.map V.ref)) ∧ qs.length = dss.length ∧ qs[k]? = some q ∧ H q = some (.lst vs) ∧ Ats K G vs ds ∧
    ∀ vs' ds', Ats K G vs' ds' → SA K B G (upd H q (.lst vs')) σ (δ.set i (.ow2 (dss.set k ds'))) X := by
  obtain ⟨F, s1, s2, s3, s4⟩ := S.sl
  obtain ⟨o, F1, Fi, F2, e1, e2, x, kk⟩ := s1.cut h
  subst e1
  cases x with
  | ow2 n a b =>
    rename_i p qs
    obtain ⟨q, hq, vs, hv, av⟩ := paired_at b hk
    refine ⟨p, qs, q, vs, e2, a, paired_len b, hq, hv, av, fun vs' ds' av' => ?_⟩
    have mq : q ∈ qs := List.mem_of_getElem? hq
    have ndq : (p :: qs).Nodup := by
      have := s2
      rw [List.append_assoc, List.nodup_append] at this
      have := this.2.1
      rw [List.append_assoc, List.nodup_append] at this
      exact this.1
    have npq : p ≠ q := fun z => (List.nodup_cons.mp ndq).1 (by rw [z]; exact mq)
    have r := SA.write1 (new := []) (i := i) (s := .un) (q := q) (vs' := vs') (s' := .ow2 (dss.set k ds')) (o := some (.ref p)) (X := X) S s1 s2 s3 s4 (List.mem_cons_of_mem _ mq) (n q (List.mem_cons_of_mem _ mq)) kk ?_
    · rw [set_self e2] at r
      exact r
    · rw [List.append_nil]
      refine .ow2 n (by rw [upd_ne npq]; exact a) (paired_set b (List.nodup_cons.mp ndq).2 hq (fun a' b' ne ⟨ws, w1, w2⟩ => ⟨ws, by rw [upd_ne ne]; exact w1, w2⟩) ⟨vs', upd_same, av'⟩)
/-- one list more -/
theorem SA.ow2push {i : Nat} {dss : List (List D)} {ds : List D} {q : Addr} {vs : List V} (S : SA K B G H σ δ (q :: X)) (h : δ[i]? = some (.ow2 dss)) (hv : H q = some (.lst vs)) (av : Ats K G vs ds) : ∃ (p : Addr) (qs : List Addr), σ[i]? = some (some (.ref p)) ∧ H p = some (.lst (qs.map V.ref)) ∧ qs.length = dss.length ∧
    SA K B G (upd H p (.lst (qs.map V.ref ++ [.ref q]))) σ (δ.set i (.ow2 (dss ++ [ds]))) X := by
  obtain ⟨F, s1, s2, s3, s4⟩ := S.sl
  obtain ⟨o, F1, Fi, F2, e1, e2, x, kk⟩ := s1.cut h
  subst e1
  cases x with
  | ow2 n a b =>
    rename_i p qs
    refine ⟨p, qs, e2, a, paired_len b, ?_⟩
    have nd3 : ∀ c ∈ (p :: qs), c ≠ q := fun c mc z => by
      rw [List.nodup_append] at s2
      exact s2.2.2 c (by simp only [List.mem_append]; exact .inr (.inl mc)) q (by simp) z
    have ndq : (p :: qs).Nodup := by
      have := s2
      rw [List.append_assoc, List.nodup_append] at this
      have := this.2.1
      rw [List.append_assoc, List.nodup_append] at this
      exact this.1
    have r := SA.write1 (new := [q]) (i := i) (s := .un) (q := p) (vs' := qs.map V.ref ++ [.ref q]) (s' := .ow2 (dss ++ [ds])) (o := some (.ref p)) (X := X) S s1 s2 s3 s4 (by simp) (n p (by simp)) kk ?_
    · rw [set_self e2] at r
      exact r
    · show SlA K B G _ _ _ (p :: (qs ++ [q]))
      refine .ow2 (fun c mc => ?_) (by rw [upd_same, List.map_append]; rfl) (paired_snoc (Paired.mapM b fun c mc b' ⟨ws, w1, w2⟩ => ⟨ws, ?_, w2⟩) ⟨vs, ?_, av⟩)
      · rcases List.mem_cons.mp mc with rfl | mc
        · exact n c (by simp)
        · rcases List.mem_append.mp mc with mc | mc
          · exact n c (List.mem_cons_of_mem _ mc)
          · have : c = q := by simpa using mc
            rw [this]
            exact s4 q (by simp)
      · rw [upd_ne (fun z => (List.nodup_cons.mp ndq).1 (by rw [← z]; exact mc))]
        exact w1
      · rw [upd_ne (Ne.symm (nd3 p (by simp)))]
        exact hv
/-- frozen -/
theorem SA.frz2 {i : Nat} {dss : List (List D)} (S : SA K B G H σ δ X) (h : δ[i]? = some (.ow2 dss)) : ∃ G', Ex G G' ∧ SA K B G' H σ (δ.set i (.sh (.lst (dss.map .lst)))) X := by
  obtain ⟨F, s1, s2, s3, s4⟩ := S.sl
  obtain ⟨o, F1, Fi, F2, e1, e2, x, k⟩ := s1.cut h
  subst e1
  cases x with
  | ow2 n a b =>
    rename_i p qs
    have q := k H (some (.ref p)) .un [] (fun a u e _ => e) .un
    rw [set_self e2] at q
    have S1 : SA K B G H σ (δ.set i .un) (p :: (qs ++ X)) := by
      refine ⟨S.rel, _, q, ?_, fun c m => s3 c ?_, fun c m => ?_⟩
      · have e : (F1 ++ ([] ++ F2) ++ p :: (qs ++ X)).Perm (F1 ++ ((p :: qs) ++ F2) ++ X) := by
          simp only [List.nil_append, List.append_assoc]
          refine List.Perm.append_left F1 ?_
          have e1 : p :: (qs ++ X) = (p :: qs) ++ X := rfl
          rw [e1, ← List.append_assoc, ← List.append_assoc]
          exact List.Perm.append_right X List.perm_append_comm
        rw [e.nodup_iff]
        exact s2
      · simp only [List.nil_append, List.mem_append, List.mem_cons] at m ⊢
        rcases m with (m | m) | m | m | m
        · exact .inl (.inl m)
        · exact .inl (.inr (.inr m))
        · exact .inl (.inr (.inl (.inl m)))
        · exact .inl (.inr (.inl (.inr m)))
        · exact .inr m
      · rcases List.mem_cons.mp m with rfl | m
        · exact n c (by simp)
        · rcases List.mem_append.mp m with m | m
          · exact n c (List.mem_cons_of_mem _ m)
          · exact s4 c m
    -- the inner ones first
    have step : ∀ (qs : List Addr) (dss : List (List D)) (Y : List Addr) (G1 : Hp), Ex G G1 → SA K B G1 H σ (δ.set i .un) (p :: (qs ++ Y)) → Paired (fun q ds => ∃ vs, H q = some (.lst vs) ∧ Ats K G vs ds) qs dss →
        ∃ G2, Ex G1 G2 ∧ SA K B G2 H σ (δ.set i .un) (p :: Y) ∧ Ats K G2 (qs.map V.ref) (dss.map D.lst) := by
      intro qs
      induction qs with
      | nil =>
        intro dss Y G1 e1 S1 b
        cases b
        exact ⟨G1, Ex.refl _, S1, .nil⟩
      | cons q0 qs ih =>
        intro dss Y G1 e1 S1 b
        cases b with
        | cons r t =>
          rename_i ds0 dss0
          obtain ⟨vs, hv, av⟩ := r
          have S1' : SA K B G1 H σ (δ.set i .un) (q0 :: (p :: (qs ++ Y))) := by
            obtain ⟨F, t1, t2, t3, t4⟩ := S1.sl
            have pe : (F ++ q0 :: p :: (qs ++ Y)).Perm (F ++ p :: q0 :: (qs ++ Y)) := List.Perm.append_left F (List.Perm.swap _ _ _)
            exact ⟨S1.rel, F, t1, pe.nodup_iff.mpr t2, fun c m => t3 c (pe.mem_iff.mp m), fun c m => t4 c ((List.Perm.swap _ _ _ : (q0 :: p :: (qs ++ Y)).Perm (p :: q0 :: (qs ++ Y))).mem_iff.mp m)⟩
          obtain ⟨S2, e2⟩ := S1'.freeze hv
          obtain ⟨G2, e3, S3, a3⟩ := ih dss0 Y _ (e1.trans e2) S2 t
          exact ⟨G2, e2.trans e3, S3, .cons (.lst (e3 _ _ upd_same) (av.mono ((e1.trans e2).trans e3))) a3⟩
    obtain ⟨G2, e3, S3, a3⟩ := step qs dss X G (Ex.refl _) S1 b
    obtain ⟨S4, e4⟩ := S3.freeze a
    refine ⟨_, e3.trans e4, ?_⟩
    have hi : i < (δ.set i Sl.un).length := by
      rw [List.length_set]
      exact (List.getElem?_eq_some_iff.mp h).1
    have r := S4.put (i := i) (v := .ref p) (d := .lst (dss.map .lst)) (.lst upd_same (a3.mono e4)) hi
    rw [set_self e2, List.set_set] at r
    exact r
theorem sd_frz2 (i : Nat) {dss : List (List D)} (hi : δ[i]? = some (.ow2 dss)) (h : SD K B (δ.set i (.sh (.lst (dss.map .lst)))) t P) : SD K B δ t P := fun G H σ S E k1 k2 k3 k4 => by
  obtain ⟨G', e, S'⟩ := S.frz2 hi
  exact h.run e S' k1 k2 k3 k4
/-- x = [[..]], one list within -/
theorem sd_asg2 {i : Nat} {ds : List D} (h : EN K B δ te ds) (hi : i < δ.length) (q : P.n (δ.set i (.ow2 [ds]))) : SD K B δ (tAsg (tLst (tCons te tNil)) (gName i)) P := fun G H σ S E k1 k2 k3 k4 =>
  h G H σ [] S _ fun q0 vs G' H' e1 e2 S' hq av => ⟨by show 1 ≤ sizeLine; decide, fun p hp => by
    refine k1 G' _ _ _ e1 ?_ q
    have S2 := S'.mine (o := .lst [.ref q0]) hp
    obtain ⟨F, s1, s2, s3, s4⟩ := S2.sl
    obtain ⟨o, F1, Fi, F2, f1, f2, x, k⟩ := s1.cut (i := i) (s := δ[i]) (by simp [hi])
    subst f1
    have nq : q0 ≠ p := fun z => by rw [z, hp] at hq; cases hq
    refine ⟨S2.rel, F1 ++ ([p, q0] ++ F2), k _ (some (.ref p)) (.ow2 [ds]) [p, q0] (fun a u e _ => e) (.ow2 (qs := [q0]) (fun c m => s4 c (by simpa using m)) upd_same (.cons ⟨vs, by rw [upd_ne nq]; exact hq, av⟩ .nil)), ?_, fun c m => s3 c ?_, fun c m => by simp at m⟩
    · have e : (F1 ++ ([p, q0] ++ F2) ++ []).Perm (F1 ++ (F2 ++ [p, q0])) := by
        rw [List.append_nil]
        exact List.Perm.append_left F1 List.perm_append_comm
      rw [e.nodup_iff]
      simp only [List.append_assoc] at s2
      refine s2.sublist ?_
      exact (List.Sublist.refl F1).append (List.sublist_append_right Fi (F2 ++ [p, q0]))
    · simp only [List.mem_append, List.mem_cons, List.append_nil] at m ⊢
      rcases m with m | (m | m | m) | m
      · exact .inl (.inl m)
      · exact .inr (.inl m)
      · exact .inr (.inr (.inl m))
      · simp at m
      · exact .inl (.inr (.inr m))⟩
/-- xs.append(a new list) -/
theorem sd_append2 {i : Nat} {dss : List (List D)} {ds : List D} (hi : δ[i]? = some (.ow2 dss)) (h : EN K B δ te ds) (hz : dss.length < 16000000) (q : P.n (δ.set i (.ow2 (dss ++ [ds])))) : SD K B δ (tDrop (tBM K "list" rAppend (tVar i) (tCons te tNil))) P := fun G H σ S E k1 k2 k3 k4 => by
  obtain ⟨F, s1, _⟩ := S.sl
  obtain ⟨o, F1, Fi, F2, e1, e2, x, kk⟩ := s1.cut hi
  cases x with
  | ow2 n a b =>
    rename_i p qs
    refine ⟨_, e2, .inl ⟨rfl, _, .of a⟩, h G H σ [] S _ fun q0 vs G1 H1 f1 f2 S1 hq av => ?_⟩
    obtain ⟨p', qs', g1, g2, g3, w⟩ := S1.ow2push hi hq av
    rw [e2] at g1
    cases g1
    exact ⟨p, qs'.map V.ref, _, rfl, rfl, g2, sz_lt (by rw [List.length_map, g3]; exact hz), k1 _ _ _ _ f1 w q⟩
/-- xs[k].append(e) -/
theorem sd_app_in {i k : Nat} {dss : List (List D)} {ds : List D} {z : Int} (hi : δ[i]? = some (.ow2 dss)) (hz : ED K B δ tb (.int z)) (hk : ixN dss.length z = some k) (hd : dss[k]? = some ds) (h : ED K B δ te d) (hl : ds.length < 16000000) (q : P.n (δ.set i (.ow2 (dss.set k (ds ++ [d]))))) :
    SD K B δ (tDrop (tBM K "list" rAppend (tOp (rIxL K) (tVar i) tb) (tCons te tNil))) P := fun G H σ S E k1 k2 k3 k4 => by
  obtain ⟨p, qs, q0, vs, e1, e2, e3, e4, e5, e6, _⟩ := S.ow2 hi hd
  refine ⟨_, e1, hz G H σ [] S _ fun v G1 H1 f1 f2 S1 a => ?_⟩
  refine ⟨p, _, z, .ref q0, rfl, a.int_eq, .of (f2 _ _ e2), ?_, .inl ⟨rfl, _, .of (f2 _ _ e5)⟩, h G1 H1 σ [] S1 _ fun w G2 H2 f3 f4 S2 aw => ?_⟩
  · unfold L2.atI
    rw [List.length_map, e3, hk]
    show (qs.map V.ref)[k]? = _
    rw [List.getElem?_map, e4]
    rfl
  · obtain ⟨p', qs', q', vs', g1, g2, g3, g4, g5, g6, w'⟩ := S2.ow2 hi hd
    rw [e1] at g1
    cases g1
    have eqs : qs' = qs := refs_inj (HO.lst.inj (Option.some.inj ((g2.symm.trans (f4 _ _ (f2 _ _ e2))))))
    subst eqs
    rw [e4] at g4
    cases g4
    exact ⟨q0, vs', w, rfl, rfl, g5, sz_lt (by rw [g6.length]; exact hl), k1 _ _ _ _ (f1.trans f3) (w' _ _ (g6.append (.cons aw .nil))) q⟩
end
section
variable {K : PySem.W.Frag} {B : Bs} {δ : List Sl} {ta tb te tx : TE} {tt : TT} {d e : D} {t u : TS} {P : Po}
/-- what follows is read once, from the slots f -/
theorem sd_cut (f : List Sl) (h : SD K B δ t { n := fun δ' => δ' = f, r := P.r, b := P.b, c := P.c }) (h2 : SD K B f u P) : SD K B δ (tSeq t u) P :=
  sd_seq (h.imp (fun δ' e => by subst e; exact h2) (fun _ _ q => q) (fun _ q => q) fun _ q => q)
theorem sd_appendI {i : Nat} {l : List Int} {x : Int} (hi : δ[i]? = some (.own (dI l))) (h : ED K B δ te (.int x)) (hz : l.length < 16000000) (q : P.n (δ.set i (.own (dI (l ++ [x]))))) : SD K B δ (tDrop (tBM K "list" rAppend (tVar i) (tCons te tNil))) P :=
  sd_append hi h (by rw [List.length_map]; exact hz) (by
    have e : dI (l ++ [x]) = dI l ++ [D.int x] := List.map_append
    rw [e] at q
    exact q)
theorem sd_extendI {i : Nat} {l m : List Int} (hi : δ[i]? = some (.own (dI l))) (h : ED K B δ te (.lst (dI m))) (hz : l.length + m.length ≤ 16000000) (q : P.n (δ.set i (.own (dI (l ++ m))))) : SD K B δ (tDrop (tBM K "list" rExtend (tVar i) (tCons te tNil))) P :=
  sd_extend hi h (by rw [List.length_map, List.length_map]; exact hz) (by
    have e : dI (l ++ m) = dI l ++ dI m := List.map_append
    rw [e] at q
    exact q)
theorem sd_appendM {α : Type} {f : α → D} {i : Nat} {l : List α} {x : α} (hi : δ[i]? = some (.own (l.map f))) (h : ED K B δ te (f x)) (hz : l.length < 16000000) (q : P.n (δ.set i (.own ((l ++ [x]).map f)))) : SD K B δ (tDrop (tBM K "list" rAppend (tVar i) (tCons te tNil))) P :=
  sd_append hi h (by rw [List.length_map]; exact hz) (by
    have e : (l ++ [x]).map f = l.map f ++ [f x] := List.map_append
    rw [e] at q
    exact q)
theorem sd_extendM {α : Type} {f : α → D} {i : Nat} {l m : List α} (hi : δ[i]? = some (.own (l.map f))) (h : ED K B δ te (.lst (m.map f))) (hz : l.length + m.length ≤ 16000000) (q : P.n (δ.set i (.own ((l ++ m).map f)))) : SD K B δ (tDrop (tBM K "list" rExtend (tVar i) (tCons te tNil))) P :=
  sd_extend hi h (by rw [List.length_map, List.length_map]; exact hz) (by
    have e : (l ++ m).map f = l.map f ++ m.map f := List.map_append
    rw [e] at q
    exact q)
end
end Dg
namespace Rl
open PySem PySem.Spec PyProof.Rows L2 Dg
abbrev R : PySem.W.OpenSpec := PySem.Challenge.rw_reportlayout_s01_answers
def top (i : Nat) : Stmt := PySem.Challenge.pw_reportlayout_s01_answers.main.body.getD i (.Pass ⟨0, 0, 0, 0⟩)

def fn : List He.DefD := [
  ⟨("is_within", none), "is_within", "is_within", defArgs (top 1), defBody (top 1), defScope (top 1), [], []⟩,
  ⟨("is_text_byte", none), "is_text_byte", "is_text_byte", defArgs (top 17), defBody (top 17), defScope (top 17), [], []⟩,
  ⟨("is_text", none), "is_text", "is_text", defArgs (top 18), defBody (top 18), defScope (top 18), [], []⟩,
  ⟨("is_number_cell", none), "is_number_cell", "is_number_cell", defArgs (top 22), defBody (top 22), defScope (top 22), [], []⟩,
  ⟨("is_text_cell", none), "is_text_cell", "is_text_cell", defArgs (top 23), defBody (top 23), defScope (top 23), [], []⟩,
  ⟨("encoded_length", none), "encoded_length", "encoded_length", defArgs (top 24), defBody (top 24), defScope (top 24), [], []⟩,
  ⟨("decode_text_cell", none), "decode_text_cell", "decode_text_cell", defArgs (top 25), defBody (top 25), defScope (top 25), [], []⟩,
  ⟨("decode_cell", none), "decode_cell", "decode_cell", defArgs (top 26), defBody (top 26), defScope (top 26), [], []⟩,
  ⟨("decode_cells", none), "decode_cells", "decode_cells", defArgs (top 27), defBody (top 27), defScope (top 27), [], []⟩,
  ⟨("encode_cell", none), "encode_cell", "encode_cell", defArgs (top 28), defBody (top 28), defScope (top 28), [], []⟩,
  ⟨("has_item", none), "has_item", "has_item", defArgs (top 54), defBody (top 54), defScope (top 54), [], []⟩,
  ⟨("bytes_of", none), "bytes_of", "bytes_of", defArgs (top 56), defBody (top 56), defScope (top 56), [], []⟩,
  ⟨("decimal_notation", none), "decimal_notation", "decimal_notation", defArgs (top 57), defBody (top 57), defScope (top 57), [], []⟩,
  ⟨("truncate", none), "truncate", "truncate", defArgs (top 58), defBody (top 58), defScope (top 58), [], []⟩,
  ⟨("single_line", none), "single_line", "single_line", defArgs (top 59), defBody (top 59), defScope (top 59), [], []⟩,
  ⟨("fill_before", none), "fill_before", "fill_before", defArgs (top 60), defBody (top 60), defScope (top 60), [], []⟩,
  ⟨("fill_behind", none), "fill_behind", "fill_behind", defArgs (top 61), defBody (top 61), defScope (top 61), [], []⟩,
  ⟨("split_at", none), "split_at", "split_at", defArgs (top 62), defBody (top 62), defScope (top 62), [], []⟩,
  ⟨("cut_into_pieces", none), "cut_into_pieces", "cut_into_pieces", defArgs (top 63), defBody (top 63), defScope (top 63), [], []⟩,
  ⟨("digits_of", none), "digits_of", "digits_of", defArgs (top 68), defBody (top 68), defScope (top 68), [], []⟩,
  ⟨("is_decimal_notation", none), "is_decimal_notation", "is_decimal_notation", defArgs (top 69), defBody (top 69), defScope (top 69), [], []⟩,
  ⟨("is_plain", none), "is_plain", "is_plain", defArgs (top 70), defBody (top 70), defScope (top 70), [], []⟩,
  ⟨("printed_text", none), "printed_text", "printed_text", defArgs (top 71), defBody (top 71), defScope (top 71), [], []⟩,
  ⟨("printed_cell", none), "printed_cell", "printed_cell", defArgs (top 72), defBody (top 72), defScope (top 72), [], []⟩,
  ⟨("read_number", none), "read_number", "read_number", defArgs (top 73), defBody (top 73), defScope (top 73), [], []⟩,
  ⟨("unescape", none), "unescape", "unescape", defArgs (top 74), defBody (top 74), defScope (top 74), [], []⟩,
  ⟨("read_text", none), "read_text", "read_text", defArgs (top 75), defBody (top 75), defScope (top 75), [], []⟩,
  ⟨("read_cell", none), "read_cell", "read_cell", defArgs (top 76), defBody (top 76), defScope (top 76), [], []⟩,
  ⟨("visible_count", none), "visible_count", "visible_count", defArgs (top 79), defBody (top 79), defScope (top 79), [], []⟩,
  ⟨("printed_row", none), "printed_row", "printed_row", defArgs (top 80), defBody (top 80), defScope (top 80), [], []⟩,
  ⟨("printed_rows", none), "printed_rows", "printed_rows", defArgs (top 81), defBody (top 81), defScope (top 81), [], []⟩,
  ⟨("natural_width", none), "natural_width", "natural_width", defArgs (top 82), defBody (top 82), defScope (top 82), [], []⟩,
  ⟨("natural_widths", none), "natural_widths", "natural_widths", defArgs (top 83), defBody (top 83), defScope (top 83), [], []⟩,
  ⟨("narrow", none), "narrow", "narrow", defArgs (top 84), defBody (top 84), defScope (top 84), [], []⟩,
  ⟨("visible_widths", none), "visible_widths", "visible_widths", defArgs (top 85), defBody (top 85), defScope (top 85), [], []⟩,
  ⟨("ruler_line", none), "ruler_line", "ruler_line", defArgs (top 86), defBody (top 86), defScope (top 86), [], []⟩,
  ⟨("aligned_form", none), "aligned_form", "aligned_form", defArgs (top 87), defBody (top 87), defScope (top 87), [], []⟩,
  ⟨("row_line", none), "row_line", "row_line", defArgs (top 88), defBody (top 88), defScope (top 88), [], []⟩,
  ⟨("framed_lines", none), "framed_lines", "framed_lines", defArgs (top 89), defBody (top 89), defScope (top 89), [], []⟩,
  ⟨("table_lines", none), "table_lines", "table_lines", defArgs (top 90), defBody (top 90), defScope (top 90), [], []⟩,
  ⟨("full_text", none), "full_text", "full_text", defArgs (top 91), defBody (top 91), defScope (top 91), [], []⟩,
  ⟨("strip_spaces", none), "strip_spaces", "strip_spaces", defArgs (top 94), defBody (top 94), defScope (top 94), [], []⟩,
  ⟨("read_row", none), "read_row", "read_row", defArgs (top 95), defBody (top 95), defScope (top 95), [], []⟩,
  ⟨("read_rows", none), "read_rows", "read_rows", defArgs (top 96), defBody (top 96), defScope (top 96), [], []⟩,
  ⟨("read_full_text", none), "read_full_text", "read_full_text", defArgs (top 97), defBody (top 97), defScope (top 97), [], []⟩,
  ⟨("is_full", none), "is_full", "is_full", defArgs (top 103), defBody (top 103), defScope (top 103), [], []⟩,
  ⟨("append_item", none), "append_item", "append_item", defArgs (top 104), defBody (top 104), defScope (top 104), [], []⟩,
  ⟨("add_heading", none), "add_heading", "add_heading", defArgs (top 105), defBody (top 105), defScope (top 105), [], []⟩,
  ⟨("add_paragraph", none), "add_paragraph", "add_paragraph", defArgs (top 106), defBody (top 106), defScope (top 106), [], []⟩,
  ⟨("is_table_size", none), "is_table_size", "is_table_size", defArgs (top 107), defBody (top 107), defScope (top 107), [], []⟩,
  ⟨("add_table", none), "add_table", "add_table", defArgs (top 108), defBody (top 108), defScope (top 108), [], []⟩,
  ⟨("is_coordinate", none), "is_coordinate", "is_coordinate", defArgs (top 109), defBody (top 109), defScope (top 109), [], []⟩,
  ⟨("split_into_points", none), "split_into_points", "split_into_points", defArgs (top 110), defBody (top 110), defScope (top 110), [], []⟩,
  ⟨("add_plot", none), "add_plot", "add_plot", defArgs (top 111), defBody (top 111), defScope (top 111), [], []⟩,
  ⟨("add_check", none), "add_check", "add_check", defArgs (top 112), defBody (top 112), defScope (top 112), [], []⟩,
  ⟨("is_text_and_number", none), "is_text_and_number", "is_text_and_number", defArgs (top 113), defBody (top 113), defScope (top 113), [], []⟩,
  ⟨("add_bars", none), "add_bars", "add_bars", defArgs (top 114), defBody (top 114), defScope (top 114), [], []⟩,
  ⟨("read_table", none), "read_table", "read_table", defArgs (top 115), defBody (top 115), defScope (top 115), [], []⟩,
  ⟨("remove_item", none), "remove_item", "remove_item", defArgs (top 117), defBody (top 117), defScope (top 117), [], []⟩,
  ⟨("move_item", none), "move_item", "move_item", defArgs (top 118), defBody (top 118), defScope (top 118), [], []⟩,
  ⟨("order_rows", none), "order_rows", "order_rows", defArgs (top 119), defBody (top 119), defScope (top 119), [], []⟩,
  ⟨("has_column", none), "has_column", "has_column", defArgs (top 120), defBody (top 120), defScope (top 120), [], []⟩,
  ⟨("sort_rows", none), "sort_rows", "sort_rows", defArgs (top 121), defBody (top 121), defScope (top 121), [], []⟩,
  ⟨("cells_in_columns", none), "cells_in_columns", "cells_in_columns", defArgs (top 122), defBody (top 122), defScope (top 122), [], []⟩,
  ⟨("select_columns", none), "select_columns", "select_columns", defArgs (top 123), defBody (top 123), defScope (top 123), [], []⟩,
  ⟨("split_into_calls", none), "split_into_calls", "split_into_calls", defArgs (top 128), defBody (top 128), defScope (top 128), [], []⟩,
  ⟨("label_width_of", none), "label_width_of", "label_width_of", defArgs (top 131), defBody (top 131), defScope (top 131), [], []⟩,
  ⟨("bar_length", none), "bar_length", "bar_length", defArgs (top 132), defBody (top 132), defScope (top 132), [], []⟩,
  ⟨("bar_chart_lines", none), "bar_chart_lines", "bar_chart_lines", defArgs (top 133), defBody (top 133), defScope (top 133), [], []⟩,
  ⟨("scale", none), "scale", "scale", defArgs (top 136), defBody (top 136), defScope (top 136), [], []⟩,
  ⟨("count_points", none), "count_points", "count_points", defArgs (top 137), defBody (top 137), defScope (top 137), [], []⟩,
  ⟨("point_sign", none), "point_sign", "point_sign", defArgs (top 138), defBody (top 138), defScope (top 138), [], []⟩,
  ⟨("grid_line", none), "grid_line", "grid_line", defArgs (top 139), defBody (top 139), defScope (top 139), [], []⟩,
  ⟨("grid_lines", none), "grid_lines", "grid_lines", defArgs (top 140), defBody (top 140), defScope (top 140), [], []⟩,
  ⟨("scale_lines", none), "scale_lines", "scale_lines", defArgs (top 141), defBody (top 141), defScope (top 141), [], []⟩,
  ⟨("plot_lines", none), "plot_lines", "plot_lines", defArgs (top 142), defBody (top 142), defScope (top 142), [], []⟩,
  ⟨("heading_lines", none), "heading_lines", "heading_lines", defArgs (top 144), defBody (top 144), defScope (top 144), [], []⟩,
  ⟨("check_lines", none), "check_lines", "check_lines", defArgs (top 145), defBody (top 145), defScope (top 145), [], []⟩,
  ⟨("words_of_part", none), "words_of_part", "words_of_part", defArgs (top 146), defBody (top 146), defScope (top 146), [], []⟩,
  ⟨("part_lines", none), "part_lines", "part_lines", defArgs (top 147), defBody (top 147), defScope (top 147), [], []⟩,
  ⟨("paragraph_lines", none), "paragraph_lines", "paragraph_lines", defArgs (top 148), defBody (top 148), defScope (top 148), [], []⟩,
  ⟨("lay_out_item", none), "lay_out_item", "lay_out_item", defArgs (top 151), defBody (top 151), defScope (top 151), [], []⟩,
  ⟨("lines_behind", none), "lines_behind", "lines_behind", defArgs (top 152), defBody (top 152), defScope (top 152), [], []⟩,
  ⟨("lay_out_document", none), "lay_out_document", "lay_out_document", defArgs (top 153), defBody (top 153), defScope (top 153), [], []⟩,
  ⟨("divide_item", none), "divide_item", "divide_item", defArgs (top 154), defBody (top 154), defScope (top 154), [], []⟩,
  ⟨("lay_out_pages", none), "lay_out_pages", "lay_out_pages", defArgs (top 155), defBody (top 155), defScope (top 155), [], []⟩,
  ⟨("is_width", none), "is_width", "is_width", defArgs (top 157), defBody (top 157), defScope (top 157), [], []⟩,
  ⟨("encode_lines", none), "encode_lines", "encode_lines", defArgs (top 158), defBody (top 158), defScope (top 158), [], []⟩,
  ⟨("item_lines", none), "item_lines", "item_lines", defArgs (top 159), defBody (top 159), defScope (top 159), [], []⟩,
  ⟨("document_lines", none), "document_lines", "document_lines", defArgs (top 160), defBody (top 160), defScope (top 160), [], []⟩,
  ⟨("pages", none), "pages", "pages", defArgs (top 161), defBody (top 161), defScope (top 161), [], []⟩,
  ⟨("column_widths", none), "column_widths", "column_widths", defArgs (top 162), defBody (top 162), defScope (top 162), [], []⟩,
  ⟨("item_kinds", none), "item_kinds", "item_kinds", defArgs (top 163), defBody (top 163), defScope (top 163), [], []⟩,
  ⟨("table_cells", none), "table_cells", "table_cells", defArgs (top 164), defBody (top 164), defScope (top 164), [], []⟩,
  ⟨("perform_adding", none), "perform_adding", "perform_adding", defArgs (top 166), defBody (top 166), defScope (top 166), [], []⟩,
  ⟨("perform_changing", none), "perform_changing", "perform_changing", defArgs (top 167), defBody (top 167), defScope (top 167), [], []⟩,
  ⟨("perform_showing", none), "perform_showing", "perform_showing", defArgs (top 168), defBody (top 168), defScope (top 168), [], []⟩,
  ⟨("perform_call", none), "perform_call", "perform_call", defArgs (top 169), defBody (top 169), defScope (top 169), [], []⟩,
  ⟨("answers", none), "answers", "answers", defArgs (top 170), defBody (top 170), defScope (top 170), [], []⟩,
  ⟨("Heading", some "__init__"), "__init__", "Heading.__init__", defArgs (inClass (top 48) 0), defBody (inClass (top 48) 0), defScope (inClass (top 48) 0), [], []⟩,
  ⟨("Paragraph", some "__init__"), "__init__", "Paragraph.__init__", defArgs (inClass (top 49) 0), defBody (inClass (top 49) 0), defScope (inClass (top 49) 0), [], []⟩,
  ⟨("Table", some "__init__"), "__init__", "Table.__init__", defArgs (inClass (top 50) 0), defBody (inClass (top 50) 0), defScope (inClass (top 50) 0), [], []⟩,
  ⟨("Plot", some "__init__"), "__init__", "Plot.__init__", defArgs (inClass (top 51) 0), defBody (inClass (top 51) 0), defScope (inClass (top 51) 0), [], []⟩,
  ⟨("Check", some "__init__"), "__init__", "Check.__init__", defArgs (inClass (top 52) 0), defBody (inClass (top 52) 0), defScope (inClass (top 52) 0), [], []⟩,
  ⟨("BarChart", some "__init__"), "__init__", "BarChart.__init__", defArgs (inClass (top 53) 0), defBody (inClass (top 53) 0), defScope (inClass (top 53) 0), [], []⟩,
  ⟨("Call", some "__init__"), "__init__", "Call.__init__", defArgs (inClass (top 127) 0), defBody (inClass (top 127) 0), defScope (inClass (top 127) 0), [], []⟩]
def fa : List He.Fa := [
  .glo "is_within",
  .glo "is_text_byte",
  .glo "is_text",
  .glo "is_number_cell",
  .glo "is_text_cell",
  .glo "encoded_length",
  .glo "decode_text_cell",
  .glo "decode_cell",
  .glo "decode_cells",
  .glo "encode_cell",
  .glo "has_item",
  .glo "bytes_of",
  .glo "decimal_notation",
  .glo "truncate",
  .glo "single_line",
  .glo "fill_before",
  .glo "fill_behind",
  .glo "split_at",
  .glo "cut_into_pieces",
  .glo "digits_of",
  .glo "is_decimal_notation",
  .glo "is_plain",
  .glo "printed_text",
  .glo "printed_cell",
  .glo "read_number",
  .glo "unescape",
  .glo "read_text",
  .glo "read_cell",
  .glo "visible_count",
  .glo "printed_row",
  .glo "printed_rows",
  .glo "natural_width",
  .glo "natural_widths",
  .glo "narrow",
  .glo "visible_widths",
  .glo "ruler_line",
  .glo "aligned_form",
  .glo "row_line",
  .glo "framed_lines",
  .glo "table_lines",
  .glo "full_text",
  .glo "strip_spaces",
  .glo "read_row",
  .glo "read_rows",
  .glo "read_full_text",
  .glo "is_full",
  .glo "append_item",
  .glo "add_heading",
  .glo "add_paragraph",
  .glo "is_table_size",
  .glo "add_table",
  .glo "is_coordinate",
  .glo "split_into_points",
  .glo "add_plot",
  .glo "add_check",
  .glo "is_text_and_number",
  .glo "add_bars",
  .glo "read_table",
  .glo "remove_item",
  .glo "move_item",
  .glo "order_rows",
  .glo "has_column",
  .glo "sort_rows",
  .glo "cells_in_columns",
  .glo "select_columns",
  .glo "split_into_calls",
  .glo "label_width_of",
  .glo "bar_length",
  .glo "bar_chart_lines",
  .glo "scale",
  .glo "count_points",
  .glo "point_sign",
  .glo "grid_line",
  .glo "grid_lines",
  .glo "scale_lines",
  .glo "plot_lines",
  .glo "heading_lines",
  .glo "check_lines",
  .glo "words_of_part",
  .glo "part_lines",
  .glo "paragraph_lines",
  .glo "lay_out_item",
  .glo "lines_behind",
  .glo "lay_out_document",
  .glo "divide_item",
  .glo "lay_out_pages",
  .glo "is_width",
  .glo "encode_lines",
  .glo "item_lines",
  .glo "document_lines",
  .glo "pages",
  .glo "column_widths",
  .glo "item_kinds",
  .glo "table_cells",
  .glo "perform_adding",
  .glo "perform_changing",
  .glo "perform_showing",
  .glo "perform_call",
  .glo "answers",
  .glo "Heading",
  .glo "Paragraph",
  .glo "Table",
  .glo "Plot",
  .glo "Check",
  .glo "BarChart",
  .glo "Call",
  .glo "ESCAPES",
  .glo "ESCAPED",
  .glo "INTEGER_COUNTS",
  .glo "LIST_CALLS",
  .int "LINE_FEED" (10),
  .int "SPACE" (32),
  .int "QUOTE" (34),
  .int "NUMBER_SIGN" (35),
  .int "STAR" (42),
  .int "PLUS" (43),
  .int "MINUS" (45),
  .int "ZERO" (48),
  .int "NINE" (57),
  .int "EQUALS_SIGN" (61),
  .int "BACKSLASH" (92),
  .int "BAR" (124),
  .int "TILDE" (126),
  .int "MOST_BYTES_OF_TEXT" (200),
  .int "NUMBER" (0),
  .int "TEXT" (1),
  .int "TOO_MANY_ITEMS" (-1),
  .int "BAD_LEVEL" (-2),
  .int "NOT_A_TEXT" (-3),
  .int "BAD_COLUMN_COUNT" (-4),
  .int "BAD_CELLS" (-5),
  .int "BAD_CELL_COUNT" (-6),
  .int "BAD_PLOT_HEIGHT" (-7),
  .int "BAD_COORDINATE_COUNT" (-8),
  .int "OUT_OF_RANGE" (-9),
  .int "NOT_ZERO_OR_ONE" (-10),
  .int "NO_SUCH_ITEM" (-11),
  .int "NOT_A_TABLE" (-12),
  .int "NO_SUCH_COLUMN" (-13),
  .int "BAD_WIDTH" (-14),
  .int "BAD_PAGE_HEIGHT" (-15),
  .int "NOT_A_FULL_TEXT" (-16),
  .int "MOST_COLUMNS" (8),
  .int "MOST_ROWS_WITH_HEADERS" (25),
  .int "MOST_DIGITS" (30),
  .int "LEAST_ROOM_OF_COLUMN" (6),
  .int "RULERS" (3),
  .int "MOST_ITEMS" (12),
  .int "MOST_COORDINATES" (120),
  .int "MOST_CELLS_OF_BARS" (40),
  .int "GREATEST_NUMBER" (999999999999999999),
  .int "MOST_BYTES_OF_LABEL" (12),
  .int "LEAST_GRID_WIDTH" (8),
  .int "LINES_OF_TABLE_HEAD" (3),
  .free "len",
  .free "any",
  .free "all",
  .free "range",
  .free "enumerate",
  .free "zip",
  .free "max",
  .free "min",
  .free "sum",
  .free "list",
  .free "tuple",
  .free "str",
  .free "ord",
  .free "isinstance",
  .free "sorted",
  .cls "Heading",
  .mkr "Heading",
  .noat "Heading" "kind",
  .noat "Heading" "level",
  .noat "Heading" "text",
  .cls "Paragraph",
  .mkr "Paragraph",
  .noat "Paragraph" "kind",
  .noat "Paragraph" "text",
  .cls "Table",
  .mkr "Table",
  .noat "Table" "kind",
  .noat "Table" "headers",
  .noat "Table" "rows",
  .cls "Plot",
  .mkr "Plot",
  .noat "Plot" "kind",
  .noat "Plot" "height",
  .noat "Plot" "points",
  .cls "Check",
  .mkr "Check",
  .noat "Check" "kind",
  .noat "Check" "passed",
  .noat "Check" "text",
  .cls "BarChart",
  .mkr "BarChart",
  .noat "BarChart" "kind",
  .noat "BarChart" "bars",
  .cls "Call",
  .mkr "Call",
  .noat "Call" "number",
  .noat "Call" "integers",
  .noat "Call" "listed"]
/-- what else is looked at: isinstance, written tables -/
def isT (K : PySem.W.Frag) (c : Str) : Bool := decide (PySem.W.findIn K (.ref (He.ga K c)) "__class__" = some (some (.builtin "object.__class__"))) && (decide (PySem.W.mroIn K (He.ga K c) (.type "object") = some true))
def isB (K : PySem.W.Frag) : Bool := decide (PySem.W.specialIn K (.builtin "object.__class__") "__get__" = some (some (.builtin "getset_descriptor.__get__"))) && decide (PySem.W.takesIn K (.builtin "object.__class__") = some true)
def items : List Str := ["Heading", "Paragraph", "Table", "Plot", "Check", "BarChart"]
def tested : List Str := ["Heading", "Paragraph", "Table", "Plot", "BarChart"]
def kitC (K : PySem.W.Frag) : Bool := items.all fun c => tested.all fun c2 => decide (PySem.W.kitOne K (.ref (He.ga K c)) (.ref (He.ga K c2)) = some (decide (c = c2)))
def dESCAPES : List (Int × Int) := [(34, 34), (92, 92), (10, 110), (124, 112), (126, 116)]
def dESCAPED : List (Int × Int) := [(34, 34), (92, 92), (110, 10), (112, 124), (116, 126)]
def dCOUNTS : List (Int × Int) := [(0, 1), (1, 0), (2, 1), (3, 1), (4, 1), (5, 0), (6, 1), (7, 2), (8, 3), (9, 1), (10, 2), (11, 1), (12, 2), (13, 2), (14, 0), (15, 0), (16, 1)]
def listCalls : List Int := [0, 1, 2, 3, 4, 5, 9, 14]
def ext (K : PySem.W.Frag) : Bool := isB K && (items.all (isT K)) && kitC K && (decide (intDic K (He.ga K "ESCAPES") = some (dESCAPES.map some)) && (decide (intDic K (He.ga K "ESCAPED") = some (dESCAPED.map some)) && (decide (intDic K (He.ga K "INTEGER_COUNTS") = some (dCOUNTS.map some)) && He.tupB K "LIST_CALLS" (listCalls.map He.Dv.int))))
def hasAll (fa : List He.Fa) (fn : List He.DefD) (K : PySem.W.Frag) : Bool × List He.FnW := ((ext K && (fa.all fun f => f.ok K)) && fn.all fun d => d.ok K, fn.map fun d => He.fnW K d.at_)
def hkX (n : Nat) (fa : List He.Fa) (fn : List He.DefD) : PySem.W.Hook where
  α := Bool × List He.FnW
  obs := fun s => hasAll fa fn (He.frG s.heap.get? (He.asD s.heap.get? n))
  val := fun _ => He.valD fn
  says := fun _ h => ∃ K : PySem.W.Frag, K.In h ∧ hasAll fa fn K = He.valD fn
  of := fun _ _ e => ⟨_, He.frG_in, e⟩
  keeps := fun _ _ _ ⟨K, hK, c⟩ k => ⟨K, PySem.W.Frag.In.keeps hK k, c⟩
theorem says_d {K : PySem.W.Frag} (c : hasAll fa fn K = He.valD fn) : He.SaysD fa fn K ∧ ext K = true := by
  have c1 : ((ext K && (fa.all fun f => f.ok K)) && fn.all fun d => d.ok K) = true := congrArg (fun z : Bool × List He.FnW => z.1) c
  have c2 : fn.map (fun d => He.fnW K d.at_) = fn.map He.DefD.val := congrArg (fun z : Bool × List He.FnW => z.2) c
  obtain ⟨a, b⟩ := He.ba c1
  obtain ⟨a1, a2⟩ := He.ba a
  refine ⟨?_, a1⟩
  have e : ((fa.all fun f => f.ok K) && fn.all fun d => d.ok K) = true := by rw [a2, b] <;> rfl
  show He.obsD fa fn K = He.valD fn
  unfold He.obsD He.valD
  rw [e, c2]
/-- all that the top has left -/
structure Tx (K : PySem.W.Frag) (mg : Str → Option Value) : Prop where
  c : He.SaysD fa fn K
  x : ext K = true
  m : ∃ h : Heap, K.In h ∧ h.Ns mainGlobals mg
section
variable {K : PySem.W.Frag} {mg : Str → Option Value}
theorem Tx.glo (T : Tx K mg) (i : Nat) {x : Str} (h : fa[i]? = some (.glo x) := by rfl) : mg x = some (.ref (He.ga K x)) := let ⟨_, X, G⟩ := T.m; He.glo_ok X G (T.c.fact i h)
theorem Tx.free (T : Tx K mg) (i : Nat) {x : Str} (h : fa[i]? = some (.free x) := by rfl) : mg x = none := let ⟨_, X, G⟩ := T.m; He.free_ok X G (T.c.fact i h)
theorem Tx.int (T : Tx K mg) (i : Nat) {x : Str} {n : Int} (h : fa[i]? = some (.int x n) := by rfl) : ∃ t, mg x = some (.int n t) := let ⟨_, X, G⟩ := T.m; He.int_ok X G (T.c.fact i h)
theorem Tx.cls (T : Tx K mg) (i : Nat) {x : Str} (h : fa[i]? = some (.cls x) := by rfl) : Cls K (He.ga K x) := He.cls_ok (T.c.fact i h)
theorem Tx.mkr (T : Tx K mg) (i : Nat) {x : Str} (h : fa[i]? = some (.mkr x) := by rfl) : Mk K (He.ga K x) (He.ma K (He.ga K x) "__init__") := He.mkr_ok (T.c.fact i h)
theorem Tx.noat (T : Tx K mg) (i : Nat) {x f : Str} (h : fa[i]? = some (.noat x f) := by rfl) : NoAttr K (He.ga K x) f := He.noat_ok (T.c.fact i h)
theorem Tx.fn (T : Tx K mg) (i : Nat) {d : He.DefD} (h : Rl.fn[i]? = some d := by rfl) : ∃ fd, FunD K d.name d.qual d.params d.body d.scope (d.dvs K) (d.kws K) (He.fAd K d.at_) fd := T.c.def_ i h
theorem Tx.ty (T : Tx K mg) (c : Str) (h : c ∈ items) (hc : Cls K (He.ga K c)) : TyK K c := by
  have x := T.x
  unfold ext at x
  obtain ⟨x1, x2⟩ := He.ba x
  obtain ⟨x3, x4⟩ := He.ba x1
  obtain ⟨x5, x6⟩ := He.ba x3
  obtain ⟨x7, x8⟩ := He.ba x5
  have q := List.all_eq_true.mp x6 c h
  obtain ⟨q1, q2⟩ := He.ba q
  exact ⟨hc, of_decide_eq_true q1, of_decide_eq_true x7, of_decide_eq_true x8, of_decide_eq_true q2⟩
theorem Tx.kit (T : Tx K mg) (c c2 : Str) (h : c ∈ items) (h2 : c2 ∈ tested) : PySem.W.kitOne K (.ref (He.ga K c)) (.ref (He.ga K c2)) = some (decide (c = c2)) := by
  have x := T.x
  unfold ext at x
  obtain ⟨x1, x2⟩ := He.ba x
  obtain ⟨x3, x4⟩ := He.ba x1
  exact of_decide_eq_true (List.all_eq_true.mp (List.all_eq_true.mp x4 c h) c2 h2)
theorem Tx.esc (T : Tx K mg) : IDic K (He.ga K "ESCAPES") dESCAPES := by
  have x := T.x
  unfold ext at x
  exact idic_of (of_decide_eq_true (He.ba (He.ba x).2).1)
theorem Tx.esd (T : Tx K mg) : IDic K (He.ga K "ESCAPED") dESCAPED := by
  have x := T.x
  unfold ext at x
  exact idic_of (of_decide_eq_true (He.ba (He.ba (He.ba x).2).2).1)
theorem Tx.cnt (T : Tx K mg) : IDic K (He.ga K "INTEGER_COUNTS") dCOUNTS := by
  have x := T.x
  unfold ext at x
  exact idic_of (of_decide_eq_true (He.ba (He.ba (He.ba (He.ba x).2).2).2).1)
theorem Tx.lcs (T : Tx K mg) (H : Hp) : SqT K H (He.ga K "LIST_CALLS") (listCalls.map V.int) := by
  have x := T.x
  unfold ext at x
  have q := He.tupB_ok (He.ba (He.ba (He.ba (He.ba x).2).2).2).2 H
  exact q

theorem Tx.d_is_within (T : Tx K mg) : ∃ fd, FunD K "is_within" "is_within" (defArgs (top 1)) (defBody (top 1)) (defScope (top 1)) [] [] (He.ga K "is_within") fd := T.fn 0
theorem Tx.d_is_text_byte (T : Tx K mg) : ∃ fd, FunD K "is_text_byte" "is_text_byte" (defArgs (top 17)) (defBody (top 17)) (defScope (top 17)) [] [] (He.ga K "is_text_byte") fd := T.fn 1
theorem Tx.d_is_text (T : Tx K mg) : ∃ fd, FunD K "is_text" "is_text" (defArgs (top 18)) (defBody (top 18)) (defScope (top 18)) [] [] (He.ga K "is_text") fd := T.fn 2
theorem Tx.d_is_number_cell (T : Tx K mg) : ∃ fd, FunD K "is_number_cell" "is_number_cell" (defArgs (top 22)) (defBody (top 22)) (defScope (top 22)) [] [] (He.ga K "is_number_cell") fd := T.fn 3
theorem Tx.d_is_text_cell (T : Tx K mg) : ∃ fd, FunD K "is_text_cell" "is_text_cell" (defArgs (top 23)) (defBody (top 23)) (defScope (top 23)) [] [] (He.ga K "is_text_cell") fd := T.fn 4
theorem Tx.d_encoded_length (T : Tx K mg) : ∃ fd, FunD K "encoded_length" "encoded_length" (defArgs (top 24)) (defBody (top 24)) (defScope (top 24)) [] [] (He.ga K "encoded_length") fd := T.fn 5
theorem Tx.d_decode_text_cell (T : Tx K mg) : ∃ fd, FunD K "decode_text_cell" "decode_text_cell" (defArgs (top 25)) (defBody (top 25)) (defScope (top 25)) [] [] (He.ga K "decode_text_cell") fd := T.fn 6
theorem Tx.d_decode_cell (T : Tx K mg) : ∃ fd, FunD K "decode_cell" "decode_cell" (defArgs (top 26)) (defBody (top 26)) (defScope (top 26)) [] [] (He.ga K "decode_cell") fd := T.fn 7
theorem Tx.d_decode_cells (T : Tx K mg) : ∃ fd, FunD K "decode_cells" "decode_cells" (defArgs (top 27)) (defBody (top 27)) (defScope (top 27)) [] [] (He.ga K "decode_cells") fd := T.fn 8
theorem Tx.d_encode_cell (T : Tx K mg) : ∃ fd, FunD K "encode_cell" "encode_cell" (defArgs (top 28)) (defBody (top 28)) (defScope (top 28)) [] [] (He.ga K "encode_cell") fd := T.fn 9
theorem Tx.d_has_item (T : Tx K mg) : ∃ fd, FunD K "has_item" "has_item" (defArgs (top 54)) (defBody (top 54)) (defScope (top 54)) [] [] (He.ga K "has_item") fd := T.fn 10
theorem Tx.d_bytes_of (T : Tx K mg) : ∃ fd, FunD K "bytes_of" "bytes_of" (defArgs (top 56)) (defBody (top 56)) (defScope (top 56)) [] [] (He.ga K "bytes_of") fd := T.fn 11
theorem Tx.d_decimal_notation (T : Tx K mg) : ∃ fd, FunD K "decimal_notation" "decimal_notation" (defArgs (top 57)) (defBody (top 57)) (defScope (top 57)) [] [] (He.ga K "decimal_notation") fd := T.fn 12
theorem Tx.d_truncate (T : Tx K mg) : ∃ fd, FunD K "truncate" "truncate" (defArgs (top 58)) (defBody (top 58)) (defScope (top 58)) [] [] (He.ga K "truncate") fd := T.fn 13
theorem Tx.d_single_line (T : Tx K mg) : ∃ fd, FunD K "single_line" "single_line" (defArgs (top 59)) (defBody (top 59)) (defScope (top 59)) [] [] (He.ga K "single_line") fd := T.fn 14
theorem Tx.d_fill_before (T : Tx K mg) : ∃ fd, FunD K "fill_before" "fill_before" (defArgs (top 60)) (defBody (top 60)) (defScope (top 60)) [] [] (He.ga K "fill_before") fd := T.fn 15
theorem Tx.d_fill_behind (T : Tx K mg) : ∃ fd, FunD K "fill_behind" "fill_behind" (defArgs (top 61)) (defBody (top 61)) (defScope (top 61)) [] [] (He.ga K "fill_behind") fd := T.fn 16
theorem Tx.d_split_at (T : Tx K mg) : ∃ fd, FunD K "split_at" "split_at" (defArgs (top 62)) (defBody (top 62)) (defScope (top 62)) [] [] (He.ga K "split_at") fd := T.fn 17
theorem Tx.d_cut_into_pieces (T : Tx K mg) : ∃ fd, FunD K "cut_into_pieces" "cut_into_pieces" (defArgs (top 63)) (defBody (top 63)) (defScope (top 63)) [] [] (He.ga K "cut_into_pieces") fd := T.fn 18
theorem Tx.d_digits_of (T : Tx K mg) : ∃ fd, FunD K "digits_of" "digits_of" (defArgs (top 68)) (defBody (top 68)) (defScope (top 68)) [] [] (He.ga K "digits_of") fd := T.fn 19
theorem Tx.d_is_decimal_notation (T : Tx K mg) : ∃ fd, FunD K "is_decimal_notation" "is_decimal_notation" (defArgs (top 69)) (defBody (top 69)) (defScope (top 69)) [] [] (He.ga K "is_decimal_notation") fd := T.fn 20
theorem Tx.d_is_plain (T : Tx K mg) : ∃ fd, FunD K "is_plain" "is_plain" (defArgs (top 70)) (defBody (top 70)) (defScope (top 70)) [] [] (He.ga K "is_plain") fd := T.fn 21
theorem Tx.d_printed_text (T : Tx K mg) : ∃ fd, FunD K "printed_text" "printed_text" (defArgs (top 71)) (defBody (top 71)) (defScope (top 71)) [] [] (He.ga K "printed_text") fd := T.fn 22
theorem Tx.d_printed_cell (T : Tx K mg) : ∃ fd, FunD K "printed_cell" "printed_cell" (defArgs (top 72)) (defBody (top 72)) (defScope (top 72)) [] [] (He.ga K "printed_cell") fd := T.fn 23
theorem Tx.d_read_number (T : Tx K mg) : ∃ fd, FunD K "read_number" "read_number" (defArgs (top 73)) (defBody (top 73)) (defScope (top 73)) [] [] (He.ga K "read_number") fd := T.fn 24
theorem Tx.d_unescape (T : Tx K mg) : ∃ fd, FunD K "unescape" "unescape" (defArgs (top 74)) (defBody (top 74)) (defScope (top 74)) [] [] (He.ga K "unescape") fd := T.fn 25
theorem Tx.d_read_text (T : Tx K mg) : ∃ fd, FunD K "read_text" "read_text" (defArgs (top 75)) (defBody (top 75)) (defScope (top 75)) [] [] (He.ga K "read_text") fd := T.fn 26
theorem Tx.d_read_cell (T : Tx K mg) : ∃ fd, FunD K "read_cell" "read_cell" (defArgs (top 76)) (defBody (top 76)) (defScope (top 76)) [] [] (He.ga K "read_cell") fd := T.fn 27
theorem Tx.d_visible_count (T : Tx K mg) : ∃ fd, FunD K "visible_count" "visible_count" (defArgs (top 79)) (defBody (top 79)) (defScope (top 79)) [] [] (He.ga K "visible_count") fd := T.fn 28
theorem Tx.d_printed_row (T : Tx K mg) : ∃ fd, FunD K "printed_row" "printed_row" (defArgs (top 80)) (defBody (top 80)) (defScope (top 80)) [] [] (He.ga K "printed_row") fd := T.fn 29
theorem Tx.d_printed_rows (T : Tx K mg) : ∃ fd, FunD K "printed_rows" "printed_rows" (defArgs (top 81)) (defBody (top 81)) (defScope (top 81)) [] [] (He.ga K "printed_rows") fd := T.fn 30
theorem Tx.d_natural_width (T : Tx K mg) : ∃ fd, FunD K "natural_width" "natural_width" (defArgs (top 82)) (defBody (top 82)) (defScope (top 82)) [] [] (He.ga K "natural_width") fd := T.fn 31
theorem Tx.d_natural_widths (T : Tx K mg) : ∃ fd, FunD K "natural_widths" "natural_widths" (defArgs (top 83)) (defBody (top 83)) (defScope (top 83)) [] [] (He.ga K "natural_widths") fd := T.fn 32
theorem Tx.d_narrow (T : Tx K mg) : ∃ fd, FunD K "narrow" "narrow" (defArgs (top 84)) (defBody (top 84)) (defScope (top 84)) [] [] (He.ga K "narrow") fd := T.fn 33
theorem Tx.d_visible_widths (T : Tx K mg) : ∃ fd, FunD K "visible_widths" "visible_widths" (defArgs (top 85)) (defBody (top 85)) (defScope (top 85)) [] [] (He.ga K "visible_widths") fd := T.fn 34
theorem Tx.d_ruler_line (T : Tx K mg) : ∃ fd, FunD K "ruler_line" "ruler_line" (defArgs (top 86)) (defBody (top 86)) (defScope (top 86)) [] [] (He.ga K "ruler_line") fd := T.fn 35
theorem Tx.d_aligned_form (T : Tx K mg) : ∃ fd, FunD K "aligned_form" "aligned_form" (defArgs (top 87)) (defBody (top 87)) (defScope (top 87)) [] [] (He.ga K "aligned_form") fd := T.fn 36
theorem Tx.d_row_line (T : Tx K mg) : ∃ fd, FunD K "row_line" "row_line" (defArgs (top 88)) (defBody (top 88)) (defScope (top 88)) [] [] (He.ga K "row_line") fd := T.fn 37
theorem Tx.d_framed_lines (T : Tx K mg) : ∃ fd, FunD K "framed_lines" "framed_lines" (defArgs (top 89)) (defBody (top 89)) (defScope (top 89)) [] [] (He.ga K "framed_lines") fd := T.fn 38
theorem Tx.d_table_lines (T : Tx K mg) : ∃ fd, FunD K "table_lines" "table_lines" (defArgs (top 90)) (defBody (top 90)) (defScope (top 90)) [] [] (He.ga K "table_lines") fd := T.fn 39
theorem Tx.d_full_text (T : Tx K mg) : ∃ fd, FunD K "full_text" "full_text" (defArgs (top 91)) (defBody (top 91)) (defScope (top 91)) [] [] (He.ga K "full_text") fd := T.fn 40
theorem Tx.d_strip_spaces (T : Tx K mg) : ∃ fd, FunD K "strip_spaces" "strip_spaces" (defArgs (top 94)) (defBody (top 94)) (defScope (top 94)) [] [] (He.ga K "strip_spaces") fd := T.fn 41
theorem Tx.d_read_row (T : Tx K mg) : ∃ fd, FunD K "read_row" "read_row" (defArgs (top 95)) (defBody (top 95)) (defScope (top 95)) [] [] (He.ga K "read_row") fd := T.fn 42
theorem Tx.d_read_rows (T : Tx K mg) : ∃ fd, FunD K "read_rows" "read_rows" (defArgs (top 96)) (defBody (top 96)) (defScope (top 96)) [] [] (He.ga K "read_rows") fd := T.fn 43
theorem Tx.d_read_full_text (T : Tx K mg) : ∃ fd, FunD K "read_full_text" "read_full_text" (defArgs (top 97)) (defBody (top 97)) (defScope (top 97)) [] [] (He.ga K "read_full_text") fd := T.fn 44
theorem Tx.d_is_full (T : Tx K mg) : ∃ fd, FunD K "is_full" "is_full" (defArgs (top 103)) (defBody (top 103)) (defScope (top 103)) [] [] (He.ga K "is_full") fd := T.fn 45
theorem Tx.d_append_item (T : Tx K mg) : ∃ fd, FunD K "append_item" "append_item" (defArgs (top 104)) (defBody (top 104)) (defScope (top 104)) [] [] (He.ga K "append_item") fd := T.fn 46
theorem Tx.d_add_heading (T : Tx K mg) : ∃ fd, FunD K "add_heading" "add_heading" (defArgs (top 105)) (defBody (top 105)) (defScope (top 105)) [] [] (He.ga K "add_heading") fd := T.fn 47
theorem Tx.d_add_paragraph (T : Tx K mg) : ∃ fd, FunD K "add_paragraph" "add_paragraph" (defArgs (top 106)) (defBody (top 106)) (defScope (top 106)) [] [] (He.ga K "add_paragraph") fd := T.fn 48
theorem Tx.d_is_table_size (T : Tx K mg) : ∃ fd, FunD K "is_table_size" "is_table_size" (defArgs (top 107)) (defBody (top 107)) (defScope (top 107)) [] [] (He.ga K "is_table_size") fd := T.fn 49
theorem Tx.d_add_table (T : Tx K mg) : ∃ fd, FunD K "add_table" "add_table" (defArgs (top 108)) (defBody (top 108)) (defScope (top 108)) [] [] (He.ga K "add_table") fd := T.fn 50
theorem Tx.d_is_coordinate (T : Tx K mg) : ∃ fd, FunD K "is_coordinate" "is_coordinate" (defArgs (top 109)) (defBody (top 109)) (defScope (top 109)) [] [] (He.ga K "is_coordinate") fd := T.fn 51
theorem Tx.d_split_into_points (T : Tx K mg) : ∃ fd, FunD K "split_into_points" "split_into_points" (defArgs (top 110)) (defBody (top 110)) (defScope (top 110)) [] [] (He.ga K "split_into_points") fd := T.fn 52
theorem Tx.d_add_plot (T : Tx K mg) : ∃ fd, FunD K "add_plot" "add_plot" (defArgs (top 111)) (defBody (top 111)) (defScope (top 111)) [] [] (He.ga K "add_plot") fd := T.fn 53
theorem Tx.d_add_check (T : Tx K mg) : ∃ fd, FunD K "add_check" "add_check" (defArgs (top 112)) (defBody (top 112)) (defScope (top 112)) [] [] (He.ga K "add_check") fd := T.fn 54
theorem Tx.d_is_text_and_number (T : Tx K mg) : ∃ fd, FunD K "is_text_and_number" "is_text_and_number" (defArgs (top 113)) (defBody (top 113)) (defScope (top 113)) [] [] (He.ga K "is_text_and_number") fd := T.fn 55
theorem Tx.d_add_bars (T : Tx K mg) : ∃ fd, FunD K "add_bars" "add_bars" (defArgs (top 114)) (defBody (top 114)) (defScope (top 114)) [] [] (He.ga K "add_bars") fd := T.fn 56
theorem Tx.d_read_table (T : Tx K mg) : ∃ fd, FunD K "read_table" "read_table" (defArgs (top 115)) (defBody (top 115)) (defScope (top 115)) [] [] (He.ga K "read_table") fd := T.fn 57
theorem Tx.d_remove_item (T : Tx K mg) : ∃ fd, FunD K "remove_item" "remove_item" (defArgs (top 117)) (defBody (top 117)) (defScope (top 117)) [] [] (He.ga K "remove_item") fd := T.fn 58
theorem Tx.d_move_item (T : Tx K mg) : ∃ fd, FunD K "move_item" "move_item" (defArgs (top 118)) (defBody (top 118)) (defScope (top 118)) [] [] (He.ga K "move_item") fd := T.fn 59
theorem Tx.d_order_rows (T : Tx K mg) : ∃ fd, FunD K "order_rows" "order_rows" (defArgs (top 119)) (defBody (top 119)) (defScope (top 119)) [] [] (He.ga K "order_rows") fd := T.fn 60
theorem Tx.d_has_column (T : Tx K mg) : ∃ fd, FunD K "has_column" "has_column" (defArgs (top 120)) (defBody (top 120)) (defScope (top 120)) [] [] (He.ga K "has_column") fd := T.fn 61
theorem Tx.d_sort_rows (T : Tx K mg) : ∃ fd, FunD K "sort_rows" "sort_rows" (defArgs (top 121)) (defBody (top 121)) (defScope (top 121)) [] [] (He.ga K "sort_rows") fd := T.fn 62
theorem Tx.d_cells_in_columns (T : Tx K mg) : ∃ fd, FunD K "cells_in_columns" "cells_in_columns" (defArgs (top 122)) (defBody (top 122)) (defScope (top 122)) [] [] (He.ga K "cells_in_columns") fd := T.fn 63
theorem Tx.d_select_columns (T : Tx K mg) : ∃ fd, FunD K "select_columns" "select_columns" (defArgs (top 123)) (defBody (top 123)) (defScope (top 123)) [] [] (He.ga K "select_columns") fd := T.fn 64
theorem Tx.d_split_into_calls (T : Tx K mg) : ∃ fd, FunD K "split_into_calls" "split_into_calls" (defArgs (top 128)) (defBody (top 128)) (defScope (top 128)) [] [] (He.ga K "split_into_calls") fd := T.fn 65
theorem Tx.d_label_width_of (T : Tx K mg) : ∃ fd, FunD K "label_width_of" "label_width_of" (defArgs (top 131)) (defBody (top 131)) (defScope (top 131)) [] [] (He.ga K "label_width_of") fd := T.fn 66
theorem Tx.d_bar_length (T : Tx K mg) : ∃ fd, FunD K "bar_length" "bar_length" (defArgs (top 132)) (defBody (top 132)) (defScope (top 132)) [] [] (He.ga K "bar_length") fd := T.fn 67
theorem Tx.d_bar_chart_lines (T : Tx K mg) : ∃ fd, FunD K "bar_chart_lines" "bar_chart_lines" (defArgs (top 133)) (defBody (top 133)) (defScope (top 133)) [] [] (He.ga K "bar_chart_lines") fd := T.fn 68
theorem Tx.d_scale (T : Tx K mg) : ∃ fd, FunD K "scale" "scale" (defArgs (top 136)) (defBody (top 136)) (defScope (top 136)) [] [] (He.ga K "scale") fd := T.fn 69
theorem Tx.d_count_points (T : Tx K mg) : ∃ fd, FunD K "count_points" "count_points" (defArgs (top 137)) (defBody (top 137)) (defScope (top 137)) [] [] (He.ga K "count_points") fd := T.fn 70
theorem Tx.d_point_sign (T : Tx K mg) : ∃ fd, FunD K "point_sign" "point_sign" (defArgs (top 138)) (defBody (top 138)) (defScope (top 138)) [] [] (He.ga K "point_sign") fd := T.fn 71
theorem Tx.d_grid_line (T : Tx K mg) : ∃ fd, FunD K "grid_line" "grid_line" (defArgs (top 139)) (defBody (top 139)) (defScope (top 139)) [] [] (He.ga K "grid_line") fd := T.fn 72
theorem Tx.d_grid_lines (T : Tx K mg) : ∃ fd, FunD K "grid_lines" "grid_lines" (defArgs (top 140)) (defBody (top 140)) (defScope (top 140)) [] [] (He.ga K "grid_lines") fd := T.fn 73
theorem Tx.d_scale_lines (T : Tx K mg) : ∃ fd, FunD K "scale_lines" "scale_lines" (defArgs (top 141)) (defBody (top 141)) (defScope (top 141)) [] [] (He.ga K "scale_lines") fd := T.fn 74
theorem Tx.d_plot_lines (T : Tx K mg) : ∃ fd, FunD K "plot_lines" "plot_lines" (defArgs (top 142)) (defBody (top 142)) (defScope (top 142)) [] [] (He.ga K "plot_lines") fd := T.fn 75
theorem Tx.d_heading_lines (T : Tx K mg) : ∃ fd, FunD K "heading_lines" "heading_lines" (defArgs (top 144)) (defBody (top 144)) (defScope (top 144)) [] [] (He.ga K "heading_lines") fd := T.fn 76
theorem Tx.d_check_lines (T : Tx K mg) : ∃ fd, FunD K "check_lines" "check_lines" (defArgs (top 145)) (defBody (top 145)) (defScope (top 145)) [] [] (He.ga K "check_lines") fd := T.fn 77
theorem Tx.d_words_of_part (T : Tx K mg) : ∃ fd, FunD K "words_of_part" "words_of_part" (defArgs (top 146)) (defBody (top 146)) (defScope (top 146)) [] [] (He.ga K "words_of_part") fd := T.fn 78
theorem Tx.d_part_lines (T : Tx K mg) : ∃ fd, FunD K "part_lines" "part_lines" (defArgs (top 147)) (defBody (top 147)) (defScope (top 147)) [] [] (He.ga K "part_lines") fd := T.fn 79
theorem Tx.d_paragraph_lines (T : Tx K mg) : ∃ fd, FunD K "paragraph_lines" "paragraph_lines" (defArgs (top 148)) (defBody (top 148)) (defScope (top 148)) [] [] (He.ga K "paragraph_lines") fd := T.fn 80
theorem Tx.d_lay_out_item (T : Tx K mg) : ∃ fd, FunD K "lay_out_item" "lay_out_item" (defArgs (top 151)) (defBody (top 151)) (defScope (top 151)) [] [] (He.ga K "lay_out_item") fd := T.fn 81
theorem Tx.d_lines_behind (T : Tx K mg) : ∃ fd, FunD K "lines_behind" "lines_behind" (defArgs (top 152)) (defBody (top 152)) (defScope (top 152)) [] [] (He.ga K "lines_behind") fd := T.fn 82
theorem Tx.d_lay_out_document (T : Tx K mg) : ∃ fd, FunD K "lay_out_document" "lay_out_document" (defArgs (top 153)) (defBody (top 153)) (defScope (top 153)) [] [] (He.ga K "lay_out_document") fd := T.fn 83
theorem Tx.d_divide_item (T : Tx K mg) : ∃ fd, FunD K "divide_item" "divide_item" (defArgs (top 154)) (defBody (top 154)) (defScope (top 154)) [] [] (He.ga K "divide_item") fd := T.fn 84
theorem Tx.d_lay_out_pages (T : Tx K mg) : ∃ fd, FunD K "lay_out_pages" "lay_out_pages" (defArgs (top 155)) (defBody (top 155)) (defScope (top 155)) [] [] (He.ga K "lay_out_pages") fd := T.fn 85
theorem Tx.d_is_width (T : Tx K mg) : ∃ fd, FunD K "is_width" "is_width" (defArgs (top 157)) (defBody (top 157)) (defScope (top 157)) [] [] (He.ga K "is_width") fd := T.fn 86
theorem Tx.d_encode_lines (T : Tx K mg) : ∃ fd, FunD K "encode_lines" "encode_lines" (defArgs (top 158)) (defBody (top 158)) (defScope (top 158)) [] [] (He.ga K "encode_lines") fd := T.fn 87
theorem Tx.d_item_lines (T : Tx K mg) : ∃ fd, FunD K "item_lines" "item_lines" (defArgs (top 159)) (defBody (top 159)) (defScope (top 159)) [] [] (He.ga K "item_lines") fd := T.fn 88
theorem Tx.d_document_lines (T : Tx K mg) : ∃ fd, FunD K "document_lines" "document_lines" (defArgs (top 160)) (defBody (top 160)) (defScope (top 160)) [] [] (He.ga K "document_lines") fd := T.fn 89
theorem Tx.d_pages (T : Tx K mg) : ∃ fd, FunD K "pages" "pages" (defArgs (top 161)) (defBody (top 161)) (defScope (top 161)) [] [] (He.ga K "pages") fd := T.fn 90
theorem Tx.d_column_widths (T : Tx K mg) : ∃ fd, FunD K "column_widths" "column_widths" (defArgs (top 162)) (defBody (top 162)) (defScope (top 162)) [] [] (He.ga K "column_widths") fd := T.fn 91
theorem Tx.d_item_kinds (T : Tx K mg) : ∃ fd, FunD K "item_kinds" "item_kinds" (defArgs (top 163)) (defBody (top 163)) (defScope (top 163)) [] [] (He.ga K "item_kinds") fd := T.fn 92
theorem Tx.d_table_cells (T : Tx K mg) : ∃ fd, FunD K "table_cells" "table_cells" (defArgs (top 164)) (defBody (top 164)) (defScope (top 164)) [] [] (He.ga K "table_cells") fd := T.fn 93
theorem Tx.d_perform_adding (T : Tx K mg) : ∃ fd, FunD K "perform_adding" "perform_adding" (defArgs (top 166)) (defBody (top 166)) (defScope (top 166)) [] [] (He.ga K "perform_adding") fd := T.fn 94
theorem Tx.d_perform_changing (T : Tx K mg) : ∃ fd, FunD K "perform_changing" "perform_changing" (defArgs (top 167)) (defBody (top 167)) (defScope (top 167)) [] [] (He.ga K "perform_changing") fd := T.fn 95
theorem Tx.d_perform_showing (T : Tx K mg) : ∃ fd, FunD K "perform_showing" "perform_showing" (defArgs (top 168)) (defBody (top 168)) (defScope (top 168)) [] [] (He.ga K "perform_showing") fd := T.fn 96
theorem Tx.d_perform_call (T : Tx K mg) : ∃ fd, FunD K "perform_call" "perform_call" (defArgs (top 169)) (defBody (top 169)) (defScope (top 169)) [] [] (He.ga K "perform_call") fd := T.fn 97
theorem Tx.d_answers (T : Tx K mg) : ∃ fd, FunD K "answers" "answers" (defArgs (top 170)) (defBody (top 170)) (defScope (top 170)) [] [] (He.ga K "answers") fd := T.fn 98
theorem Tx.d_Heading (T : Tx K mg) : ∃ fd, FunD K "__init__" "Heading.__init__" (defArgs (inClass (top 48) 0)) (defBody (inClass (top 48) 0)) (defScope (inClass (top 48) 0)) [] [] (He.ma K (He.ga K "Heading") "__init__") fd := T.fn 99
theorem Tx.d_Paragraph (T : Tx K mg) : ∃ fd, FunD K "__init__" "Paragraph.__init__" (defArgs (inClass (top 49) 0)) (defBody (inClass (top 49) 0)) (defScope (inClass (top 49) 0)) [] [] (He.ma K (He.ga K "Paragraph") "__init__") fd := T.fn 100
theorem Tx.d_Table (T : Tx K mg) : ∃ fd, FunD K "__init__" "Table.__init__" (defArgs (inClass (top 50) 0)) (defBody (inClass (top 50) 0)) (defScope (inClass (top 50) 0)) [] [] (He.ma K (He.ga K "Table") "__init__") fd := T.fn 101
theorem Tx.d_Plot (T : Tx K mg) : ∃ fd, FunD K "__init__" "Plot.__init__" (defArgs (inClass (top 51) 0)) (defBody (inClass (top 51) 0)) (defScope (inClass (top 51) 0)) [] [] (He.ma K (He.ga K "Plot") "__init__") fd := T.fn 102
theorem Tx.d_Check (T : Tx K mg) : ∃ fd, FunD K "__init__" "Check.__init__" (defArgs (inClass (top 52) 0)) (defBody (inClass (top 52) 0)) (defScope (inClass (top 52) 0)) [] [] (He.ma K (He.ga K "Check") "__init__") fd := T.fn 103
theorem Tx.d_BarChart (T : Tx K mg) : ∃ fd, FunD K "__init__" "BarChart.__init__" (defArgs (inClass (top 53) 0)) (defBody (inClass (top 53) 0)) (defScope (inClass (top 53) 0)) [] [] (He.ma K (He.ga K "BarChart") "__init__") fd := T.fn 104
theorem Tx.d_Call (T : Tx K mg) : ∃ fd, FunD K "__init__" "Call.__init__" (defArgs (inClass (top 127) 0)) (defBody (inClass (top 127) 0)) (defScope (inClass (top 127) 0)) [] [] (He.ma K (He.ga K "Call") "__init__") fd := T.fn 105
theorem Tx.g_is_within (T : Tx K mg) : mg "is_within" = some (.ref (He.ga K "is_within")) := T.glo 0
theorem Tx.g_is_text_byte (T : Tx K mg) : mg "is_text_byte" = some (.ref (He.ga K "is_text_byte")) := T.glo 1
theorem Tx.g_is_text (T : Tx K mg) : mg "is_text" = some (.ref (He.ga K "is_text")) := T.glo 2
theorem Tx.g_is_number_cell (T : Tx K mg) : mg "is_number_cell" = some (.ref (He.ga K "is_number_cell")) := T.glo 3
theorem Tx.g_is_text_cell (T : Tx K mg) : mg "is_text_cell" = some (.ref (He.ga K "is_text_cell")) := T.glo 4
theorem Tx.g_encoded_length (T : Tx K mg) : mg "encoded_length" = some (.ref (He.ga K "encoded_length")) := T.glo 5
theorem Tx.g_decode_text_cell (T : Tx K mg) : mg "decode_text_cell" = some (.ref (He.ga K "decode_text_cell")) := T.glo 6
theorem Tx.g_decode_cell (T : Tx K mg) : mg "decode_cell" = some (.ref (He.ga K "decode_cell")) := T.glo 7
theorem Tx.g_decode_cells (T : Tx K mg) : mg "decode_cells" = some (.ref (He.ga K "decode_cells")) := T.glo 8
theorem Tx.g_encode_cell (T : Tx K mg) : mg "encode_cell" = some (.ref (He.ga K "encode_cell")) := T.glo 9
theorem Tx.g_has_item (T : Tx K mg) : mg "has_item" = some (.ref (He.ga K "has_item")) := T.glo 10
theorem Tx.g_bytes_of (T : Tx K mg) : mg "bytes_of" = some (.ref (He.ga K "bytes_of")) := T.glo 11
theorem Tx.g_decimal_notation (T : Tx K mg) : mg "decimal_notation" = some (.ref (He.ga K "decimal_notation")) := T.glo 12
theorem Tx.g_truncate (T : Tx K mg) : mg "truncate" = some (.ref (He.ga K "truncate")) := T.glo 13
theorem Tx.g_single_line (T : Tx K mg) : mg "single_line" = some (.ref (He.ga K "single_line")) := T.glo 14
theorem Tx.g_fill_before (T : Tx K mg) : mg "fill_before" = some (.ref (He.ga K "fill_before")) := T.glo 15
theorem Tx.g_fill_behind (T : Tx K mg) : mg "fill_behind" = some (.ref (He.ga K "fill_behind")) := T.glo 16
theorem Tx.g_split_at (T : Tx K mg) : mg "split_at" = some (.ref (He.ga K "split_at")) := T.glo 17
theorem Tx.g_cut_into_pieces (T : Tx K mg) : mg "cut_into_pieces" = some (.ref (He.ga K "cut_into_pieces")) := T.glo 18
theorem Tx.g_digits_of (T : Tx K mg) : mg "digits_of" = some (.ref (He.ga K "digits_of")) := T.glo 19
theorem Tx.g_is_decimal_notation (T : Tx K mg) : mg "is_decimal_notation" = some (.ref (He.ga K "is_decimal_notation")) := T.glo 20
theorem Tx.g_is_plain (T : Tx K mg) : mg "is_plain" = some (.ref (He.ga K "is_plain")) := T.glo 21
theorem Tx.g_printed_text (T : Tx K mg) : mg "printed_text" = some (.ref (He.ga K "printed_text")) := T.glo 22
theorem Tx.g_printed_cell (T : Tx K mg) : mg "printed_cell" = some (.ref (He.ga K "printed_cell")) := T.glo 23
theorem Tx.g_read_number (T : Tx K mg) : mg "read_number" = some (.ref (He.ga K "read_number")) := T.glo 24
theorem Tx.g_unescape (T : Tx K mg) : mg "unescape" = some (.ref (He.ga K "unescape")) := T.glo 25
theorem Tx.g_read_text (T : Tx K mg) : mg "read_text" = some (.ref (He.ga K "read_text")) := T.glo 26
theorem Tx.g_read_cell (T : Tx K mg) : mg "read_cell" = some (.ref (He.ga K "read_cell")) := T.glo 27
theorem Tx.g_visible_count (T : Tx K mg) : mg "visible_count" = some (.ref (He.ga K "visible_count")) := T.glo 28
theorem Tx.g_printed_row (T : Tx K mg) : mg "printed_row" = some (.ref (He.ga K "printed_row")) := T.glo 29
theorem Tx.g_printed_rows (T : Tx K mg) : mg "printed_rows" = some (.ref (He.ga K "printed_rows")) := T.glo 30
theorem Tx.g_natural_width (T : Tx K mg) : mg "natural_width" = some (.ref (He.ga K "natural_width")) := T.glo 31
theorem Tx.g_natural_widths (T : Tx K mg) : mg "natural_widths" = some (.ref (He.ga K "natural_widths")) := T.glo 32
theorem Tx.g_narrow (T : Tx K mg) : mg "narrow" = some (.ref (He.ga K "narrow")) := T.glo 33
theorem Tx.g_visible_widths (T : Tx K mg) : mg "visible_widths" = some (.ref (He.ga K "visible_widths")) := T.glo 34
theorem Tx.g_ruler_line (T : Tx K mg) : mg "ruler_line" = some (.ref (He.ga K "ruler_line")) := T.glo 35
theorem Tx.g_aligned_form (T : Tx K mg) : mg "aligned_form" = some (.ref (He.ga K "aligned_form")) := T.glo 36
theorem Tx.g_row_line (T : Tx K mg) : mg "row_line" = some (.ref (He.ga K "row_line")) := T.glo 37
theorem Tx.g_framed_lines (T : Tx K mg) : mg "framed_lines" = some (.ref (He.ga K "framed_lines")) := T.glo 38
theorem Tx.g_table_lines (T : Tx K mg) : mg "table_lines" = some (.ref (He.ga K "table_lines")) := T.glo 39
theorem Tx.g_full_text (T : Tx K mg) : mg "full_text" = some (.ref (He.ga K "full_text")) := T.glo 40
theorem Tx.g_strip_spaces (T : Tx K mg) : mg "strip_spaces" = some (.ref (He.ga K "strip_spaces")) := T.glo 41
theorem Tx.g_read_row (T : Tx K mg) : mg "read_row" = some (.ref (He.ga K "read_row")) := T.glo 42
theorem Tx.g_read_rows (T : Tx K mg) : mg "read_rows" = some (.ref (He.ga K "read_rows")) := T.glo 43
theorem Tx.g_read_full_text (T : Tx K mg) : mg "read_full_text" = some (.ref (He.ga K "read_full_text")) := T.glo 44
theorem Tx.g_is_full (T : Tx K mg) : mg "is_full" = some (.ref (He.ga K "is_full")) := T.glo 45
theorem Tx.g_append_item (T : Tx K mg) : mg "append_item" = some (.ref (He.ga K "append_item")) := T.glo 46
theorem Tx.g_add_heading (T : Tx K mg) : mg "add_heading" = some (.ref (He.ga K "add_heading")) := T.glo 47
theorem Tx.g_add_paragraph (T : Tx K mg) : mg "add_paragraph" = some (.ref (He.ga K "add_paragraph")) := T.glo 48
theorem Tx.g_is_table_size (T : Tx K mg) : mg "is_table_size" = some (.ref (He.ga K "is_table_size")) := T.glo 49
theorem Tx.g_add_table (T : Tx K mg) : mg "add_table" = some (.ref (He.ga K "add_table")) := T.glo 50
theorem Tx.g_is_coordinate (T : Tx K mg) : mg "is_coordinate" = some (.ref (He.ga K "is_coordinate")) := T.glo 51
theorem Tx.g_split_into_points (T : Tx K mg) : mg "split_into_points" = some (.ref (He.ga K "split_into_points")) := T.glo 52
theorem Tx.g_add_plot (T : Tx K mg) : mg "add_plot" = some (.ref (He.ga K "add_plot")) := T.glo 53
theorem Tx.g_add_check (T : Tx K mg) : mg "add_check" = some (.ref (He.ga K "add_check")) := T.glo 54
theorem Tx.g_is_text_and_number (T : Tx K mg) : mg "is_text_and_number" = some (.ref (He.ga K "is_text_and_number")) := T.glo 55
theorem Tx.g_add_bars (T : Tx K mg) : mg "add_bars" = some (.ref (He.ga K "add_bars")) := T.glo 56
theorem Tx.g_read_table (T : Tx K mg) : mg "read_table" = some (.ref (He.ga K "read_table")) := T.glo 57
theorem Tx.g_remove_item (T : Tx K mg) : mg "remove_item" = some (.ref (He.ga K "remove_item")) := T.glo 58
theorem Tx.g_move_item (T : Tx K mg) : mg "move_item" = some (.ref (He.ga K "move_item")) := T.glo 59
theorem Tx.g_order_rows (T : Tx K mg) : mg "order_rows" = some (.ref (He.ga K "order_rows")) := T.glo 60
theorem Tx.g_has_column (T : Tx K mg) : mg "has_column" = some (.ref (He.ga K "has_column")) := T.glo 61
theorem Tx.g_sort_rows (T : Tx K mg) : mg "sort_rows" = some (.ref (He.ga K "sort_rows")) := T.glo 62
theorem Tx.g_cells_in_columns (T : Tx K mg) : mg "cells_in_columns" = some (.ref (He.ga K "cells_in_columns")) := T.glo 63
theorem Tx.g_select_columns (T : Tx K mg) : mg "select_columns" = some (.ref (He.ga K "select_columns")) := T.glo 64
theorem Tx.g_split_into_calls (T : Tx K mg) : mg "split_into_calls" = some (.ref (He.ga K "split_into_calls")) := T.glo 65
theorem Tx.g_label_width_of (T : Tx K mg) : mg "label_width_of" = some (.ref (He.ga K "label_width_of")) := T.glo 66
theorem Tx.g_bar_length (T : Tx K mg) : mg "bar_length" = some (.ref (He.ga K "bar_length")) := T.glo 67
theorem Tx.g_bar_chart_lines (T : Tx K mg) : mg "bar_chart_lines" = some (.ref (He.ga K "bar_chart_lines")) := T.glo 68
theorem Tx.g_scale (T : Tx K mg) : mg "scale" = some (.ref (He.ga K "scale")) := T.glo 69
theorem Tx.g_count_points (T : Tx K mg) : mg "count_points" = some (.ref (He.ga K "count_points")) := T.glo 70
theorem Tx.g_point_sign (T : Tx K mg) : mg "point_sign" = some (.ref (He.ga K "point_sign")) := T.glo 71
theorem Tx.g_grid_line (T : Tx K mg) : mg "grid_line" = some (.ref (He.ga K "grid_line")) := T.glo 72
theorem Tx.g_grid_lines (T : Tx K mg) : mg "grid_lines" = some (.ref (He.ga K "grid_lines")) := T.glo 73
theorem Tx.g_scale_lines (T : Tx K mg) : mg "scale_lines" = some (.ref (He.ga K "scale_lines")) := T.glo 74
theorem Tx.g_plot_lines (T : Tx K mg) : mg "plot_lines" = some (.ref (He.ga K "plot_lines")) := T.glo 75
theorem Tx.g_heading_lines (T : Tx K mg) : mg "heading_lines" = some (.ref (He.ga K "heading_lines")) := T.glo 76
theorem Tx.g_check_lines (T : Tx K mg) : mg "check_lines" = some (.ref (He.ga K "check_lines")) := T.glo 77
theorem Tx.g_words_of_part (T : Tx K mg) : mg "words_of_part" = some (.ref (He.ga K "words_of_part")) := T.glo 78
theorem Tx.g_part_lines (T : Tx K mg) : mg "part_lines" = some (.ref (He.ga K "part_lines")) := T.glo 79
theorem Tx.g_paragraph_lines (T : Tx K mg) : mg "paragraph_lines" = some (.ref (He.ga K "paragraph_lines")) := T.glo 80
theorem Tx.g_lay_out_item (T : Tx K mg) : mg "lay_out_item" = some (.ref (He.ga K "lay_out_item")) := T.glo 81
theorem Tx.g_lines_behind (T : Tx K mg) : mg "lines_behind" = some (.ref (He.ga K "lines_behind")) := T.glo 82
theorem Tx.g_lay_out_document (T : Tx K mg) : mg "lay_out_document" = some (.ref (He.ga K "lay_out_document")) := T.glo 83
theorem Tx.g_divide_item (T : Tx K mg) : mg "divide_item" = some (.ref (He.ga K "divide_item")) := T.glo 84
theorem Tx.g_lay_out_pages (T : Tx K mg) : mg "lay_out_pages" = some (.ref (He.ga K "lay_out_pages")) := T.glo 85
theorem Tx.g_is_width (T : Tx K mg) : mg "is_width" = some (.ref (He.ga K "is_width")) := T.glo 86
theorem Tx.g_encode_lines (T : Tx K mg) : mg "encode_lines" = some (.ref (He.ga K "encode_lines")) := T.glo 87
theorem Tx.g_item_lines (T : Tx K mg) : mg "item_lines" = some (.ref (He.ga K "item_lines")) := T.glo 88
theorem Tx.g_document_lines (T : Tx K mg) : mg "document_lines" = some (.ref (He.ga K "document_lines")) := T.glo 89
theorem Tx.g_pages (T : Tx K mg) : mg "pages" = some (.ref (He.ga K "pages")) := T.glo 90
theorem Tx.g_column_widths (T : Tx K mg) : mg "column_widths" = some (.ref (He.ga K "column_widths")) := T.glo 91
theorem Tx.g_item_kinds (T : Tx K mg) : mg "item_kinds" = some (.ref (He.ga K "item_kinds")) := T.glo 92
theorem Tx.g_table_cells (T : Tx K mg) : mg "table_cells" = some (.ref (He.ga K "table_cells")) := T.glo 93
theorem Tx.g_perform_adding (T : Tx K mg) : mg "perform_adding" = some (.ref (He.ga K "perform_adding")) := T.glo 94
theorem Tx.g_perform_changing (T : Tx K mg) : mg "perform_changing" = some (.ref (He.ga K "perform_changing")) := T.glo 95
theorem Tx.g_perform_showing (T : Tx K mg) : mg "perform_showing" = some (.ref (He.ga K "perform_showing")) := T.glo 96
theorem Tx.g_perform_call (T : Tx K mg) : mg "perform_call" = some (.ref (He.ga K "perform_call")) := T.glo 97
theorem Tx.g_answers (T : Tx K mg) : mg "answers" = some (.ref (He.ga K "answers")) := T.glo 98
theorem Tx.g_Heading (T : Tx K mg) : mg "Heading" = some (.ref (He.ga K "Heading")) := T.glo 99
theorem Tx.k_Heading (T : Tx K mg) : Cls K (He.ga K "Heading") := T.cls 169
theorem Tx.m_Heading (T : Tx K mg) : Mk K (He.ga K "Heading") (He.ma K (He.ga K "Heading") "__init__") := T.mkr 170
theorem Tx.n_Heading_kind (T : Tx K mg) : NoAttr K (He.ga K "Heading") "kind" := T.noat 171
theorem Tx.n_Heading_level (T : Tx K mg) : NoAttr K (He.ga K "Heading") "level" := T.noat 172
theorem Tx.n_Heading_text (T : Tx K mg) : NoAttr K (He.ga K "Heading") "text" := T.noat 173
theorem Tx.g_Paragraph (T : Tx K mg) : mg "Paragraph" = some (.ref (He.ga K "Paragraph")) := T.glo 100
theorem Tx.k_Paragraph (T : Tx K mg) : Cls K (He.ga K "Paragraph") := T.cls 174
theorem Tx.m_Paragraph (T : Tx K mg) : Mk K (He.ga K "Paragraph") (He.ma K (He.ga K "Paragraph") "__init__") := T.mkr 175
theorem Tx.n_Paragraph_kind (T : Tx K mg) : NoAttr K (He.ga K "Paragraph") "kind" := T.noat 176
theorem Tx.n_Paragraph_text (T : Tx K mg) : NoAttr K (He.ga K "Paragraph") "text" := T.noat 177
theorem Tx.g_Table (T : Tx K mg) : mg "Table" = some (.ref (He.ga K "Table")) := T.glo 101
theorem Tx.k_Table (T : Tx K mg) : Cls K (He.ga K "Table") := T.cls 178
theorem Tx.m_Table (T : Tx K mg) : Mk K (He.ga K "Table") (He.ma K (He.ga K "Table") "__init__") := T.mkr 179
theorem Tx.n_Table_kind (T : Tx K mg) : NoAttr K (He.ga K "Table") "kind" := T.noat 180
theorem Tx.n_Table_headers (T : Tx K mg) : NoAttr K (He.ga K "Table") "headers" := T.noat 181
theorem Tx.n_Table_rows (T : Tx K mg) : NoAttr K (He.ga K "Table") "rows" := T.noat 182
theorem Tx.g_Plot (T : Tx K mg) : mg "Plot" = some (.ref (He.ga K "Plot")) := T.glo 102
theorem Tx.k_Plot (T : Tx K mg) : Cls K (He.ga K "Plot") := T.cls 183
theorem Tx.m_Plot (T : Tx K mg) : Mk K (He.ga K "Plot") (He.ma K (He.ga K "Plot") "__init__") := T.mkr 184
theorem Tx.n_Plot_kind (T : Tx K mg) : NoAttr K (He.ga K "Plot") "kind" := T.noat 185
theorem Tx.n_Plot_height (T : Tx K mg) : NoAttr K (He.ga K "Plot") "height" := T.noat 186
theorem Tx.n_Plot_points (T : Tx K mg) : NoAttr K (He.ga K "Plot") "points" := T.noat 187
theorem Tx.g_Check (T : Tx K mg) : mg "Check" = some (.ref (He.ga K "Check")) := T.glo 103
theorem Tx.k_Check (T : Tx K mg) : Cls K (He.ga K "Check") := T.cls 188
theorem Tx.m_Check (T : Tx K mg) : Mk K (He.ga K "Check") (He.ma K (He.ga K "Check") "__init__") := T.mkr 189
theorem Tx.n_Check_kind (T : Tx K mg) : NoAttr K (He.ga K "Check") "kind" := T.noat 190
theorem Tx.n_Check_passed (T : Tx K mg) : NoAttr K (He.ga K "Check") "passed" := T.noat 191
theorem Tx.n_Check_text (T : Tx K mg) : NoAttr K (He.ga K "Check") "text" := T.noat 192
theorem Tx.g_BarChart (T : Tx K mg) : mg "BarChart" = some (.ref (He.ga K "BarChart")) := T.glo 104
theorem Tx.k_BarChart (T : Tx K mg) : Cls K (He.ga K "BarChart") := T.cls 193
theorem Tx.m_BarChart (T : Tx K mg) : Mk K (He.ga K "BarChart") (He.ma K (He.ga K "BarChart") "__init__") := T.mkr 194
theorem Tx.n_BarChart_kind (T : Tx K mg) : NoAttr K (He.ga K "BarChart") "kind" := T.noat 195
theorem Tx.n_BarChart_bars (T : Tx K mg) : NoAttr K (He.ga K "BarChart") "bars" := T.noat 196
theorem Tx.g_Call (T : Tx K mg) : mg "Call" = some (.ref (He.ga K "Call")) := T.glo 105
theorem Tx.k_Call (T : Tx K mg) : Cls K (He.ga K "Call") := T.cls 197
theorem Tx.m_Call (T : Tx K mg) : Mk K (He.ga K "Call") (He.ma K (He.ga K "Call") "__init__") := T.mkr 198
theorem Tx.n_Call_number (T : Tx K mg) : NoAttr K (He.ga K "Call") "number" := T.noat 199
theorem Tx.n_Call_integers (T : Tx K mg) : NoAttr K (He.ga K "Call") "integers" := T.noat 200
theorem Tx.n_Call_listed (T : Tx K mg) : NoAttr K (He.ga K "Call") "listed" := T.noat 201
theorem Tx.g_ESCAPES (T : Tx K mg) : mg "ESCAPES" = some (.ref (He.ga K "ESCAPES")) := T.glo 106
theorem Tx.g_ESCAPED (T : Tx K mg) : mg "ESCAPED" = some (.ref (He.ga K "ESCAPED")) := T.glo 107
theorem Tx.g_INTEGER_COUNTS (T : Tx K mg) : mg "INTEGER_COUNTS" = some (.ref (He.ga K "INTEGER_COUNTS")) := T.glo 108
theorem Tx.g_LIST_CALLS (T : Tx K mg) : mg "LIST_CALLS" = some (.ref (He.ga K "LIST_CALLS")) := T.glo 109
theorem Tx.i_LINE_FEED (T : Tx K mg) : ∃ t, mg "LINE_FEED" = some (.int (10) t) := T.int 110
theorem Tx.i_SPACE (T : Tx K mg) : ∃ t, mg "SPACE" = some (.int (32) t) := T.int 111
theorem Tx.i_QUOTE (T : Tx K mg) : ∃ t, mg "QUOTE" = some (.int (34) t) := T.int 112
theorem Tx.i_NUMBER_SIGN (T : Tx K mg) : ∃ t, mg "NUMBER_SIGN" = some (.int (35) t) := T.int 113
theorem Tx.i_STAR (T : Tx K mg) : ∃ t, mg "STAR" = some (.int (42) t) := T.int 114
theorem Tx.i_PLUS (T : Tx K mg) : ∃ t, mg "PLUS" = some (.int (43) t) := T.int 115
theorem Tx.i_MINUS (T : Tx K mg) : ∃ t, mg "MINUS" = some (.int (45) t) := T.int 116
theorem Tx.i_ZERO (T : Tx K mg) : ∃ t, mg "ZERO" = some (.int (48) t) := T.int 117
theorem Tx.i_NINE (T : Tx K mg) : ∃ t, mg "NINE" = some (.int (57) t) := T.int 118
theorem Tx.i_EQUALS_SIGN (T : Tx K mg) : ∃ t, mg "EQUALS_SIGN" = some (.int (61) t) := T.int 119
theorem Tx.i_BACKSLASH (T : Tx K mg) : ∃ t, mg "BACKSLASH" = some (.int (92) t) := T.int 120
theorem Tx.i_BAR (T : Tx K mg) : ∃ t, mg "BAR" = some (.int (124) t) := T.int 121
theorem Tx.i_TILDE (T : Tx K mg) : ∃ t, mg "TILDE" = some (.int (126) t) := T.int 122
theorem Tx.i_MOST_BYTES_OF_TEXT (T : Tx K mg) : ∃ t, mg "MOST_BYTES_OF_TEXT" = some (.int (200) t) := T.int 123
theorem Tx.i_NUMBER (T : Tx K mg) : ∃ t, mg "NUMBER" = some (.int (0) t) := T.int 124
theorem Tx.i_TEXT (T : Tx K mg) : ∃ t, mg "TEXT" = some (.int (1) t) := T.int 125
theorem Tx.i_TOO_MANY_ITEMS (T : Tx K mg) : ∃ t, mg "TOO_MANY_ITEMS" = some (.int (-1) t) := T.int 126
theorem Tx.i_BAD_LEVEL (T : Tx K mg) : ∃ t, mg "BAD_LEVEL" = some (.int (-2) t) := T.int 127
theorem Tx.i_NOT_A_TEXT (T : Tx K mg) : ∃ t, mg "NOT_A_TEXT" = some (.int (-3) t) := T.int 128
theorem Tx.i_BAD_COLUMN_COUNT (T : Tx K mg) : ∃ t, mg "BAD_COLUMN_COUNT" = some (.int (-4) t) := T.int 129
theorem Tx.i_BAD_CELLS (T : Tx K mg) : ∃ t, mg "BAD_CELLS" = some (.int (-5) t) := T.int 130
theorem Tx.i_BAD_CELL_COUNT (T : Tx K mg) : ∃ t, mg "BAD_CELL_COUNT" = some (.int (-6) t) := T.int 131
theorem Tx.i_BAD_PLOT_HEIGHT (T : Tx K mg) : ∃ t, mg "BAD_PLOT_HEIGHT" = some (.int (-7) t) := T.int 132
theorem Tx.i_BAD_COORDINATE_COUNT (T : Tx K mg) : ∃ t, mg "BAD_COORDINATE_COUNT" = some (.int (-8) t) := T.int 133
theorem Tx.i_OUT_OF_RANGE (T : Tx K mg) : ∃ t, mg "OUT_OF_RANGE" = some (.int (-9) t) := T.int 134
theorem Tx.i_NOT_ZERO_OR_ONE (T : Tx K mg) : ∃ t, mg "NOT_ZERO_OR_ONE" = some (.int (-10) t) := T.int 135
theorem Tx.i_NO_SUCH_ITEM (T : Tx K mg) : ∃ t, mg "NO_SUCH_ITEM" = some (.int (-11) t) := T.int 136
theorem Tx.i_NOT_A_TABLE (T : Tx K mg) : ∃ t, mg "NOT_A_TABLE" = some (.int (-12) t) := T.int 137
theorem Tx.i_NO_SUCH_COLUMN (T : Tx K mg) : ∃ t, mg "NO_SUCH_COLUMN" = some (.int (-13) t) := T.int 138
theorem Tx.i_BAD_WIDTH (T : Tx K mg) : ∃ t, mg "BAD_WIDTH" = some (.int (-14) t) := T.int 139
theorem Tx.i_BAD_PAGE_HEIGHT (T : Tx K mg) : ∃ t, mg "BAD_PAGE_HEIGHT" = some (.int (-15) t) := T.int 140
theorem Tx.i_NOT_A_FULL_TEXT (T : Tx K mg) : ∃ t, mg "NOT_A_FULL_TEXT" = some (.int (-16) t) := T.int 141
theorem Tx.i_MOST_COLUMNS (T : Tx K mg) : ∃ t, mg "MOST_COLUMNS" = some (.int (8) t) := T.int 142
theorem Tx.i_MOST_ROWS_WITH_HEADERS (T : Tx K mg) : ∃ t, mg "MOST_ROWS_WITH_HEADERS" = some (.int (25) t) := T.int 143
theorem Tx.i_MOST_DIGITS (T : Tx K mg) : ∃ t, mg "MOST_DIGITS" = some (.int (30) t) := T.int 144
theorem Tx.i_LEAST_ROOM_OF_COLUMN (T : Tx K mg) : ∃ t, mg "LEAST_ROOM_OF_COLUMN" = some (.int (6) t) := T.int 145
theorem Tx.i_RULERS (T : Tx K mg) : ∃ t, mg "RULERS" = some (.int (3) t) := T.int 146
theorem Tx.i_MOST_ITEMS (T : Tx K mg) : ∃ t, mg "MOST_ITEMS" = some (.int (12) t) := T.int 147
theorem Tx.i_MOST_COORDINATES (T : Tx K mg) : ∃ t, mg "MOST_COORDINATES" = some (.int (120) t) := T.int 148
theorem Tx.i_MOST_CELLS_OF_BARS (T : Tx K mg) : ∃ t, mg "MOST_CELLS_OF_BARS" = some (.int (40) t) := T.int 149
theorem Tx.i_GREATEST_NUMBER (T : Tx K mg) : ∃ t, mg "GREATEST_NUMBER" = some (.int (999999999999999999) t) := T.int 150
theorem Tx.i_MOST_BYTES_OF_LABEL (T : Tx K mg) : ∃ t, mg "MOST_BYTES_OF_LABEL" = some (.int (12) t) := T.int 151
theorem Tx.i_LEAST_GRID_WIDTH (T : Tx K mg) : ∃ t, mg "LEAST_GRID_WIDTH" = some (.int (8) t) := T.int 152
theorem Tx.i_LINES_OF_TABLE_HEAD (T : Tx K mg) : ∃ t, mg "LINES_OF_TABLE_HEAD" = some (.int (3) t) := T.int 153
theorem Tx.f_len (T : Tx K mg) : mg "len" = none := T.free 154
theorem Tx.f_any (T : Tx K mg) : mg "any" = none := T.free 155
theorem Tx.f_all (T : Tx K mg) : mg "all" = none := T.free 156
theorem Tx.f_range (T : Tx K mg) : mg "range" = none := T.free 157
theorem Tx.f_enumerate (T : Tx K mg) : mg "enumerate" = none := T.free 158
theorem Tx.f_zip (T : Tx K mg) : mg "zip" = none := T.free 159
theorem Tx.f_max (T : Tx K mg) : mg "max" = none := T.free 160
theorem Tx.f_min (T : Tx K mg) : mg "min" = none := T.free 161
theorem Tx.f_sum (T : Tx K mg) : mg "sum" = none := T.free 162
theorem Tx.f_list (T : Tx K mg) : mg "list" = none := T.free 163
theorem Tx.f_tuple (T : Tx K mg) : mg "tuple" = none := T.free 164
theorem Tx.f_str (T : Tx K mg) : mg "str" = none := T.free 165
theorem Tx.f_ord (T : Tx K mg) : mg "ord" = none := T.free 166
theorem Tx.f_isinstance (T : Tx K mg) : mg "isinstance" = none := T.free 167
theorem Tx.f_sorted (T : Tx K mg) : mg "sorted" = none := T.free 168
end
end Rl
namespace Rl
open PySem PySem.Spec PyProof.Rows L2 Dg
abbrev tfs : List He.Defn := [("order_rows", none)]
/-- what the top's names lead to: their objects, a function's code, a class's names and what these lead to -/
def kidV (o : Obj) : List Addr := match o.data with
  | .func fd => He.refV fd.code
  | .cls cd => [cd.ns]
  | .dict es _ => es.toList.flatMap fun e => He.refV e.val
  | _ => []
def kidsG (g : Addr → Option Obj) (l : List Addr) : List Addr := l.flatMap fun b => match g b with
  | some o => kidV o
  | none => []
def asY (g : Addr → Option Obj) : List Addr := let l1 := kidsG g [mainGlobals]; let l2 := kidsG g l1; let l3 := kidsG g l2; mainGlobals :: (l1 ++ l2 ++ l3 ++ kidsG g l3)
def KY (g : Addr → Option Obj) : PySem.W.Frag := He.frT g (asY g)
def obY (g : Addr → Option Obj) : He.AlX := (He.obsT fa fn [] (KY g), ext (KY g) && He.tabsB g tfs (KY g))
theorem says_y {w : World} {h : Heap} (e : obY h.get? = (He.valT fn [] w, true)) : He.SaysX fa fn [] tfs ext w h (KY h.get?) := by
  have a1 : He.obsT fa fn [] (KY h.get?) = He.valT fn [] w := congrArg Prod.fst e
  obtain ⟨a2, a3⟩ := He.ba (congrArg Prod.snd e : (ext (KY h.get?) && He.tabsB h.get? tfs (KY h.get?)) = true)
  have at_ : ∀ p, p ∈ tfs → PySem.W.codeHdIn (KY h.get?) (He.cT (KY h.get?) p).1 (He.cT (KY h.get?) p).2 = true ∧ ∃ u, h.get? (He.cT (KY h.get?) p).2 = some u ∧ He.emptyTab u = true := by
    intro p hp
    obtain ⟨b1, b2⟩ := He.ba (List.all_eq_true.mp a3 p hp)
    refine ⟨b1, ?_⟩
    revert b2
    cases h.get? (He.cT (KY h.get?) p).2 with
    | none => intro b2; cases b2
    | some u => intro b2; exact ⟨u, rfl, b2⟩
  refine ⟨a1, a2, fun p hp => (at_ p hp).1, fun p hp => ?_, fun p hp => ?_⟩
  · obtain ⟨_, u, b2, b3⟩ := at_ p hp
    exact He.frT_none b2 b3
  · obtain ⟨_, u, b2, b3⟩ := at_ p hp
    rw [b2, He.emptyTab_eq b3]
def hk : PySem.W.Hook where
  α := He.AlX
  obs := fun s => obY s.heap.get?
  val := fun w => (He.valT fn [] w, true)
  says := fun w h => ∃ K : PySem.W.Frag, K.In h ∧ He.SaysX fa fn [] tfs ext w h K
  of := fun _ _ e => ⟨_, He.frT_in, says_y e⟩
  keeps := fun _ _ _ q k => by
    obtain ⟨K, i, z⟩ := q
    exact ⟨K, i.keeps k, z.t, z.more, z.hd, z.out, fun p hp => k _ _ (z.empty p hp)⟩
def ob (s : PySem.W.SharedT) : He.AlX := obY (HeadRun.getT s)
theorem ob_eq (s : PySem.W.SharedT) : ob s = hk.obs s.abs := by
  show obY (HeadRun.getT s) = obY s.abs.heap.get?
  rw [show HeadRun.getT s = s.abs.heap.get? from funext (HeadRun.getT_eq s)]
def loose0 : List PySem.Str := ["is_within", "LINE_FEED", "SPACE", "QUOTE", "NUMBER_SIGN", "STAR", "PLUS", "MINUS", "ZERO", "NINE", "EQUALS_SIGN", "BACKSLASH", "BAR", "TILDE", "MOST_BYTES_OF_TEXT", "is_text_byte", "is_text", "NUMBER", "TEXT", "is_number_cell", "is_text_cell", "encoded_length", "decode_text_cell", "decode_cell", "decode_cells", "encode_cell", "TOO_MANY_ITEMS", "BAD_LEVEL", "NOT_A_TEXT", "BAD_COLUMN_COUNT"]
def loose1 : List PySem.Str := ["BAD_CELLS", "BAD_CELL_COUNT", "BAD_PLOT_HEIGHT", "BAD_COORDINATE_COUNT", "OUT_OF_RANGE", "NOT_ZERO_OR_ONE", "NO_SUCH_ITEM", "NOT_A_TABLE", "NO_SUCH_COLUMN", "BAD_WIDTH", "BAD_PAGE_HEIGHT", "NOT_A_FULL_TEXT", "MOST_COLUMNS", "MOST_ROWS_WITH_HEADERS", "Heading", "Paragraph", "Table", "Plot", "Check", "BarChart", "has_item", "bytes_of", "decimal_notation", "truncate", "single_line", "fill_before", "fill_behind", "split_at", "cut_into_pieces", "MOST_DIGITS"]
def loose2 : List PySem.Str := ["ESCAPES", "ESCAPED", "digits_of", "is_decimal_notation", "is_plain", "printed_text", "printed_cell", "read_number", "unescape", "read_text", "read_cell", "LEAST_ROOM_OF_COLUMN", "visible_count", "printed_row", "printed_rows", "natural_width", "natural_widths", "narrow", "visible_widths", "ruler_line", "aligned_form", "row_line", "framed_lines", "table_lines", "full_text", "RULERS", "strip_spaces", "read_row", "read_rows", "read_full_text"]
def loose3 : List PySem.Str := ["MOST_ITEMS", "MOST_COORDINATES", "MOST_CELLS_OF_BARS", "GREATEST_NUMBER", "is_full", "append_item", "add_heading", "add_paragraph", "is_table_size", "add_table", "is_coordinate", "split_into_points", "add_plot", "add_check", "is_text_and_number", "add_bars", "read_table", "remove_item", "move_item", "order_rows", "has_column", "sort_rows", "cells_in_columns", "select_columns", "INTEGER_COUNTS", "LIST_CALLS", "Call", "split_into_calls", "MOST_BYTES_OF_LABEL", "label_width_of"]
def loose4 : List PySem.Str := ["bar_length", "bar_chart_lines", "LEAST_GRID_WIDTH", "scale", "count_points", "point_sign", "grid_line", "grid_lines", "scale_lines", "plot_lines", "heading_lines", "check_lines", "words_of_part", "part_lines", "paragraph_lines", "LINES_OF_TABLE_HEAD", "lay_out_item", "lines_behind", "lay_out_document", "divide_item", "lay_out_pages", "is_width", "encode_lines", "item_lines", "document_lines", "pages", "column_widths", "item_kinds", "table_cells", "perform_adding"]
def loose5 : List PySem.Str := ["perform_changing", "perform_showing", "perform_call"]
def loose : List PySem.Str := loose0 ++ loose1 ++ loose2 ++ loose3 ++ loose4 ++ loose5
abbrev qv : Program := PySem.W.view R.prog [170]
section
open PySem.W PySem.Calls
theorem two_map {α β γ δ : Type} {o : Option α} {f : α → β} {g : α → γ} {h : α → δ} {x : β} {y : γ} {z : δ} (a : o.map (fun s => (f s, g s)) = some (x, y)) (b : o.map h = some z) : o.map (fun s => (f s, g s, h s)) = some (x, y, z) := by
  cases o with
  | none => cases a
  | some s =>
    have a' := Option.some.inj a
    have b' := Option.some.inj b
    have a1 : f s = x := congrArg Prod.fst a'
    have a2 : g s = y := congrArg Prod.snd a'
    show some (f s, g s, h s) = some (x, y, z)
    rw [a1, a2, b']
theorem ob_map {o : Option PySem.W.SharedT} {w : World} (a : o.map (fun s => (fa.all fun f => f.ok (KY (HeadRun.getT s)), ext (KY (HeadRun.getT s)) && He.tabsB (HeadRun.getT s) tfs (KY (HeadRun.getT s)))) = some (true, true)) (b : o.map (fun s => (fn.all fun d => d.ok (KY (HeadRun.getT s)), fn.map fun d => He.fnW (KY (HeadRun.getT s)) d.at_)) = some (true, fn.map He.DefD.val)) : o.map ob = some (He.valT fn [] w, true) := by
  cases o with
  | none => cases a
  | some s =>
    have a' := Option.some.inj a
    have b' := Option.some.inj b
    have a1 : (fa.all fun f => f.ok (KY (HeadRun.getT s))) = true := congrArg Prod.fst a'
    have a2 : (ext (KY (HeadRun.getT s)) && He.tabsB (HeadRun.getT s) tfs (KY (HeadRun.getT s))) = true := congrArg Prod.snd a'
    have b1 : (fn.all fun d => d.ok (KY (HeadRun.getT s))) = true := congrArg Prod.fst b'
    have b2 : (fn.map fun d => He.fnW (KY (HeadRun.getT s)) d.at_) = fn.map He.DefD.val := congrArg Prod.snd b'
    show some (((((fa.all fun f => f.ok (KY (HeadRun.getT s))) && fn.all fun d => d.ok (KY (HeadRun.getT s))), fn.map fun d => He.fnW (KY (HeadRun.getT s)) d.at_), []), ext (KY (HeadRun.getT s)) && He.tabsB (HeadRun.getT s) tfs (KY (HeadRun.getT s))) = some (((true && true, fn.map He.DefD.val), []), true)
    rw [a1, a2, b1, b2]
theorem run_f1 (w : World) (os : OsState) : (HeadRun.endF (HeadRun.stepQ (HeadRun.denQ HeadRun.tabQ) R.prog (w.withFollow "special-get-raises" false)) 6000 R.prog (w.withFollow "special-get-raises" false) os).map (fun s => (HeadRun.looksF R.prog (boot_heap (w.withFollow "special-get-raises" false).params) s.abs, HeadRun.seenQ qv loose (importedModules R.prog.main.body) (fun s => xlAt qv [] s && recOk [] s) s.abs)) = some (true, openGood qv loose) := by
  kernel_rfl
theorem run_f2 (w : World) (os : OsState) : (HeadRun.endF (HeadRun.stepQ (HeadRun.denQ HeadRun.tabQ) R.prog (w.withFollow "special-get-raises" false)) 6000 R.prog (w.withFollow "special-get-raises" false) os).map (fun s => (fa.all fun f => f.ok (KY (HeadRun.getT s)), ext (KY (HeadRun.getT s)) && He.tabsB (HeadRun.getT s) tfs (KY (HeadRun.getT s)))) = some (true, true) := by
  kernel_rfl
theorem run_f3 (w : World) (os : OsState) : (HeadRun.endF (HeadRun.stepQ (HeadRun.denQ HeadRun.tabQ) R.prog (w.withFollow "special-get-raises" false)) 6000 R.prog (w.withFollow "special-get-raises" false) os).map (fun s => (fn.all fun d => d.ok (KY (HeadRun.getT s)), fn.map fun d => He.fnW (KY (HeadRun.getT s)) d.at_)) = some (true, fn.map He.DefD.val) := by
  kernel_rfl
theorem run_f (w : World) : HeadRun.RunEqS R qv hk ob 6000 loose (w.withFollow "special-get-raises" false) := fun os => two_map (run_f1 w os) (ob_map (run_f2 w os) (run_f3 w os))
theorem run_t1 (w : World) (os : OsState) : (HeadRun.endF (HeadRun.stepQ (HeadRun.denQ HeadRun.tabQ) R.prog (w.withFollow "special-get-raises" true)) 6000 R.prog (w.withFollow "special-get-raises" true) os).map (fun s => (HeadRun.looksF R.prog (boot_heap (w.withFollow "special-get-raises" true).params) s.abs, HeadRun.seenQ qv loose (importedModules R.prog.main.body) (fun s => xlAt qv [] s && recOk [] s) s.abs)) = some (true, openGood qv loose) := by
  kernel_rfl
theorem run_t2 (w : World) (os : OsState) : (HeadRun.endF (HeadRun.stepQ (HeadRun.denQ HeadRun.tabQ) R.prog (w.withFollow "special-get-raises" true)) 6000 R.prog (w.withFollow "special-get-raises" true) os).map (fun s => (fa.all fun f => f.ok (KY (HeadRun.getT s)), ext (KY (HeadRun.getT s)) && He.tabsB (HeadRun.getT s) tfs (KY (HeadRun.getT s)))) = some (true, true) := by
  kernel_rfl
theorem run_t3 (w : World) (os : OsState) : (HeadRun.endF (HeadRun.stepQ (HeadRun.denQ HeadRun.tabQ) R.prog (w.withFollow "special-get-raises" true)) 6000 R.prog (w.withFollow "special-get-raises" true) os).map (fun s => (fn.all fun d => d.ok (KY (HeadRun.getT s)), fn.map fun d => He.fnW (KY (HeadRun.getT s)) d.at_)) = some (true, fn.map He.DefD.val) := by
  kernel_rfl
theorem run_t (w : World) : HeadRun.RunEqS R qv hk ob 6000 loose (w.withFollow "special-get-raises" true) := fun os => two_map (run_t1 w os) (ob_map (run_t2 w os) (run_t3 w os))
end
theorem run (w : World) : HeadRun.RunEqS R qv hk ob 6000 loose w := PySem.W.byRow2 "special-get-raises" (P := fun w => HeadRun.RunEqS R qv hk ob 6000 loose w) run_f run_t w
end Rl
namespace Rl
open PySem PySem.Spec PyProof.Rows L2 Dg
section
open PySem.W PySem.Calls
abbrev dRec : DefRec := HeadRun.topDef R.prog 170
theorem and_t {a b : Bool} (ha : a = true) (hb : b = true) : (a && b) = true := by rw [ha, hb]; rfl
theorem tx_lo : looksOpen R.prog = true := by
  unfold looksOpen
  refine and_t (and_t (and_t (and_t (and_t ?_ ?_) ?_) ?_) ?_) ?_ <;> decide +kernel
theorem tx_well : R.wellSaid = true := by
  unfold OpenSpec.wellSaid
  refine and_t (and_t (and_t (and_t (and_t tx_lo ?_) ?_) ?_) ?_) ?_ <;> decide +kernel
theorem tx_open : opening R.prog = plainProg R.prog.main.scope.names := by kernel_rfl
theorem tx_fence (s : Shared) : fenceModules? R.prog s = some s := by kernel_rfl
theorem tx_def : defOf qv R.name = some (dRec, []) := by kernel_rfl
theorem tx_the : R.prog.theDef R.name = some (dRec.params, dRec.body, dRec.scope) := by kernel_rfl
theorem tx_kw : kwWritten? dRec.params.kwonlyargs dRec.params.kw_defaults = some [] := by kernel_rfl
theorem tx_ok : (chainsOk qv && opensWell R.prog) = true := by kernel_rfl
theorem tx_bare : R.prog.bare := ⟨rfl, rfl, rfl, rfl, rfl, by decide +kernel⟩
theorem tx_wit : ∃ l, R.pre l = true ∧ WData.layableAll l = true := ⟨[.list [.int 15]], by decide +kernel, by decide +kernel⟩
theorem tx_name : dRec.name = ("answers" : Str) := by kernel_rfl
end
end Rl
namespace Rl
open PySem L2 Dg
/-! ### bytes as ints -/
def bi (c : UInt8) : Int := (c.toNat : Int)
def bI (t : List UInt8) : List Int := t.map bi
theorem bi_lo (c : UInt8) : 0 ≤ bi c := Int.natCast_nonneg _
theorem bi_hi (c : UInt8) : bi c < 256 := by
  have := c.toNat_lt
  unfold bi
  omega
theorem bi_inj {c e : UInt8} (h : bi c = bi e) : c = e := by
  unfold bi at h
  exact UInt8.toNat_inj.mp (by omega)
theorem bi_eq (c : UInt8) (e : UInt8) : (bi c = bi e) ↔ c = e := ⟨bi_inj, fun h => by rw [h]⟩
theorem bi_ofNat {n : Nat} (h : n < 256) : bi (UInt8.ofNat n) = n := by
  unfold bi
  rw [UInt8.toNat_ofNat']
  omega
theorem ofNat_bi (c : UInt8) : UInt8.ofNat (bi c).toNat = c := by
  unfold bi
  rw [Int.toNat_natCast]
  exact UInt8.ofNat_toNat
theorem bI_length (t : List UInt8) : (bI t).length = t.length := List.length_map _
theorem bI_append (s t : List UInt8) : bI (s ++ t) = bI s ++ bI t := List.map_append
theorem bI_inj : ∀ {s t : List UInt8}, bI s = bI t → s = t
  | [], [], _ => rfl
  | [], _ :: _, h => by cases h
  | _ :: _, [], h => by cases h
  | a :: s, b :: t, h => by
    have h1 := List.cons.inj h
    rw [bi_inj h1.1, bI_inj h1.2]
theorem bytesOf_bI (t : List UInt8) : Vanbkh.bytesOf (bI t) = t := by
  unfold Vanbkh.bytesOf bI
  rw [List.map_map]
  have e : ((fun n : Int => UInt8.ofNat n.toNat) ∘ bi) = id := by
    funext c
    exact ofNat_bi c
  rw [e, List.map_id]
theorem bI_bytesOf : ∀ {l : List Int}, (∀ x ∈ l, 0 ≤ x ∧ x < 256) → bI (Vanbkh.bytesOf l) = l
  | [], _ => rfl
  | x :: l, h => by
    have h1 := h x (by simp)
    have ih := bI_bytesOf (l := l) fun y hy => h y (by simp [hy])
    show bi (UInt8.ofNat x.toNat) :: bI (Vanbkh.bytesOf l) = x :: l
    rw [ih, bi_ofNat (by omega)]
    congr 1
    omega
/-! ### data -/
def dC : Vanbkh.Cell → D
  | .number z => .tup [.int 0, .int z]
  | .text t => .tup [.int 1, .tup (dI (bI t))]
def dB (t : List UInt8) : D := .lst (dI (bI t))
def dBs (ls : List (List UInt8)) : D := .lst (ls.map dB)
def dCs (cs : List Vanbkh.Cell) : D := .lst (cs.map dC)
def dRows (rs : List (List Vanbkh.Cell)) : D := .lst (rs.map dCs)
def tbl (t : Vanbkh.Table) : List (Str × D) := [("kind", .int 2), ("headers", dCs (t.headers.map .text)), ("rows", dRows t.rows)]
def dT (t : Vanbkh.Table) : D := .obj "Table" (tbl t)
def dPt (p : Int × Int) : D := .tup [.int p.1, .int p.2]
def dBar (b : List UInt8 × Int) : D := .tup [.tup (dI (bI b.1)), .int b.2]
def itC : Vanbkh.Item → Str × List (Str × D)
  | .heading k t => ("Heading", [("kind", .int 0), ("level", .int k), ("text", .tup (dI (bI t)))])
  | .paragraph t => ("Paragraph", [("kind", .int 1), ("text", .tup (dI (bI t)))])
  | .table t => ("Table", tbl t)
  | .plot h ps => ("Plot", [("kind", .int 3), ("height", .int h), ("points", .lst (ps.map dPt))])
  | .check p t => ("Check", [("kind", .int 4), ("passed", .int (if p then 1 else 0)), ("text", .tup (dI (bI t)))])
  | .bars l => ("BarChart", [("kind", .int 5), ("bars", .lst (l.map dBar))])
def dIt (x : Vanbkh.Item) : D := .obj (itC x).1 (itC x).2
def dIts (l : List Vanbkh.Item) : D := .lst (l.map dIt)
def dO {α : Type} (f : α → D) : Option α → D
  | none => .non
  | some a => f a
theorem isNon_dO {α : Type} {f : α → D} (h : ∀ a, isNon (f a) = false) (o : Option α) : isNon (dO f o) = o.isNone := by
  cases o with
  | none => rfl
  | some a => exact h a
theorem isNon_dC (c : Vanbkh.Cell) : isNon (dC c) = false := by cases c <;> rfl
def encLen : Vanbkh.Cell → Int
  | .number _ => 2
  | .text t => 2 + t.length
/-! ### plain functions on ints -/
def mIsTB (n : Int) : Bool := decide (n = 10) || (decide (32 ≤ n) && decide (n ≤ 126))
def mIsText (l : List Int) : Bool := if (200 : Int) < l.length then false else l.all mIsTB
def mTrunc (n : Int) (l : List Int) : List Int := if (l.length : Int) ≤ n then l else l.take (n - 1).toNat ++ [126]
def mLine (l : List Int) : List Int := l.map fun b => if b = 10 then 32 else b
def mPadL (n : Int) (l : List Int) : List Int := List.replicate (n - l.length).toNat 32 ++ l
def mPadR (n : Int) (l : List Int) : List Int := l ++ List.replicate (n - l.length).toNat 32
/-- parts of a list between places of s -/
def mSplit (s : Int) : List Int → List (List Int)
  | [] => [[]]
  | x :: r => match mSplit s r with
    | [] => [[x]]
    | p :: ps => if x = s then [] :: p :: ps else (x :: p) :: ps
/-- pieces of n -/
def mCut {α : Type} (n : Nat) (l : List α) : List (List α) := (List.range ((l.length + n - 1) / n)).map fun i => (l.drop (i * n)).take n
def mDigs (l : List Int) : List Int := if l.head? = some 45 then l.tail else l
def mIsDec (l : List Int) : Bool := !(mDigs l).isEmpty && (mDigs l).all (fun b => decide (48 ≤ b) && decide (b ≤ 57)) && ((mDigs l).head? != some 48 || l.length == 1)
theorem mIsText_eq (l : List Int) : mIsText l = Vanbkh.isText l := by
  unfold mIsText Vanbkh.isText Vanbkh.maxTextLength
  by_cases h : (200 : Int) < l.length
  · rw [if_pos h, decide_eq_false (by omega), Bool.false_and]
  · rw [if_neg h, decide_eq_true (by omega), Bool.true_and]
    rfl
theorem mTrunc_bI (w : Nat) (t : List UInt8) (hw : 1 ≤ w) : mTrunc w (bI t) = bI (Vanbkh.truncate w t) := by
  unfold mTrunc Vanbkh.truncate
  rw [bI_length]
  by_cases h : t.length ≤ w
  · rw [if_pos (by omega), if_pos h]
  · rw [if_neg (by omega), if_neg h, bI_append]
    unfold bI
    rw [List.map_take]
    congr 2
    omega
theorem mLine_bI (t : List UInt8) : mLine (bI t) = bI (Vanbkh.singleLine t) := by
  unfold mLine bI Vanbkh.singleLine
  rw [List.map_map, List.map_map]
  apply List.map_congr_left
  intro c _
  show (if bi c = 10 then 32 else bi c) = bi (if (c == 10) = true then 32 else c)
  by_cases h : c = 10
  · subst h; rfl
  · have e : ¬ bi c = (10 : Int) := fun z => h (bi_inj (e := 10) z)
    rw [if_neg e, if_neg (by simpa using h)]
theorem mPadL_bI (w : Nat) (t : List UInt8) : mPadL w (bI t) = bI (Vanbkh.padLeft w t) := by
  unfold mPadL Vanbkh.padLeft Vanbkh.spaces
  rw [bI_append, bI_length]
  congr 1
  unfold bI
  rw [List.map_replicate]
  congr 1
  omega
theorem mPadR_bI (w : Nat) (t : List UInt8) : mPadR w (bI t) = bI (Vanbkh.padRight w t) := by
  unfold mPadR Vanbkh.padRight Vanbkh.spaces
  rw [bI_append, bI_length]
  congr 1
  unfold bI
  rw [List.map_replicate]
  congr 1
  omega
theorem mSplit_ne (s : Int) : ∀ l, mSplit s l ≠ []
  | [] => by simp [mSplit]
  | x :: r => by
    unfold mSplit
    cases h : mSplit s r with
    | nil => simp
    | cons p ps => simp; split <;> simp
theorem mSplit_bI (c : UInt8) : ∀ t : List UInt8, mSplit (bi c) (bI t) = (Vanbkh.splitAtByte c t).map bI
  | [] => rfl
  | x :: r => by
    have ih := mSplit_bI c r
    show mSplit (bi c) (bi x :: bI r) = _
    unfold mSplit Vanbkh.splitAtByte
    rw [ih]
    cases Vanbkh.splitAtByte c r with
    | nil => rfl
    | cons p ps =>
      simp only [List.map_cons]
      by_cases h : x = c
      · subst h
        simp
        rfl
      · rw [if_neg (fun z => h (bi_inj z)), if_neg (by simpa using h)]
        rfl
theorem mSplit_snoc (s : Int) (x : Int) : ∀ l : List Int, mSplit s (l ++ [x]) = if x = s then mSplit s l ++ [[]] else (mSplit s l).dropLast ++ [((mSplit s l).getLastD []) ++ [x]]
  | [] => by
    by_cases h : x = s <;> simp [mSplit, h]
  | y :: l => by
    have ih := mSplit_snoc s x l
    show mSplit s (y :: (l ++ [x])) = _
    have e : ∀ m, mSplit s (y :: m) = match mSplit s m with | [] => [[y]] | p :: ps => if y = s then [] :: p :: ps else (y :: p) :: ps := fun m => by rw [mSplit]
    have ne := mSplit_ne s l
    rw [e, e, ih]
    revert ne
    generalize mSplit s l = q
    intro ne
    cases q with
    | nil => exact absurd rfl ne
    | cons p ps =>
      by_cases hx : x = s
      · simp only [hx, if_true, List.cons_append]
        by_cases hy : y = s <;> simp [hy]
      · simp only [hx, if_false]
        cases ps with
        | nil => by_cases hy : y = s <;> simp [hy]
        | cons q qs => by_cases hy : y = s <;> simp [hy]
end Rl
namespace Rl
open PySem L2 Dg
/-! ### decimals -/
def chB (c : Char) : UInt8 := UInt8.ofNat c.toNat
def decN (n : Nat) : List UInt8 := (Nat.toDigits 10 n).map chB
theorem ascii_eq (s : String) : Vanbkh.ascii s = s.toList.map chB := rfl
theorem decimal_eq (z : Int) : Vanbkh.decimal z = if 0 ≤ z then decN z.toNat else 45 :: decN (-z).toNat := by
  unfold Vanbkh.decimal
  rw [ascii_eq, Int.toString_eq_repr, Int.repr_eq_if]
  by_cases h : 0 ≤ z
  · rw [if_pos h, if_pos h, Nat.toList_repr]
    rfl
  · rw [if_neg h, if_neg h, String.toList_append, Nat.toList_repr]
    rfl
def cpI (s : Str) : List Int := s.cps.toList.map Int.ofNat
theorem cpI_ofString (s : String) (h : ∀ c ∈ s.toList, c.toNat < 256) : cpI (Str.ofString s) = bI (Vanbkh.ascii s) := by
  unfold cpI bI
  rw [Str.ofString_eq_toList, ascii_eq]
  simp only [List.map_map]
  apply List.map_congr_left
  intro c hc
  show (c.toNat : Int) = bi (UInt8.ofNat c.toNat)
  rw [bi_ofNat (h c hc)]
theorem digit_lt {c : Char} {n : Nat} (h : c ∈ Nat.toDigits 10 n) : 48 ≤ c.toNat ∧ c.toNat ≤ 57 := by
  have q := Nat.isDigit_of_mem_toDigits (by decide) (by decide) h
  unfold Char.isDigit at q
  simp only [Bool.and_eq_true, decide_eq_true_eq] at q
  obtain ⟨q1, q2⟩ := q
  have e1 : (48 : Nat) ≤ c.val.toNat := q1
  have e2 : c.val.toNat ≤ 57 := q2
  exact ⟨e1, e2⟩
theorem cpI_str (z : Int) : cpI (Str.ofString (toString z)) = bI (Vanbkh.decimal z) := by
  refine cpI_ofString _ fun c hc => ?_
  rw [Int.toString_eq_repr, Int.repr_eq_if] at hc
  split at hc
  · rw [Nat.toList_repr] at hc
    have := digit_lt hc
    omega
  · rw [String.toList_append, List.mem_append, Nat.toList_repr] at hc
    rcases hc with hc | hc
    · have : c = '-' := by simpa using hc
      subst this
      decide
    · have := digit_lt hc
      omega
theorem decN_dig {n : Nat} {c : UInt8} (h : c ∈ decN n) : 48 ≤ c.toNat ∧ c.toNat ≤ 57 := by
  unfold decN at h
  obtain ⟨d, hd, rfl⟩ := List.mem_map.mp h
  have := digit_lt hd
  unfold chB
  rw [UInt8.toNat_ofNat']
  omega
theorem decN_ne (n : Nat) : decN n ≠ [] := by
  unfold decN
  intro h
  exact Nat.toDigits_ne_nil (List.map_eq_nil_iff.mp h)
theorem decN_len (n : Nat) {k : Nat} (h : 0 < k) : (decN n).length ≤ k ↔ n < 10 ^ k := by
  unfold decN
  rw [List.length_map]
  exact Nat.length_toDigits_le_iff (by decide) h
theorem decN_lt {n : Nat} (h : n < 10) : decN n = [UInt8.ofNat (48 + n)] := by
  unfold decN
  rw [Nat.toDigits_of_lt_base h]
  have : ∀ n, n < 10 → chB (Nat.digitChar n) = UInt8.ofNat (48 + n) := by decide
  rw [List.map_cons, this n h]
  rfl
theorem decN_ge {n : Nat} (h : ¬ n < 10) : decN n = decN (n / 10) ++ [UInt8.ofNat (48 + n % 10)] := by
  unfold decN
  rw [Nat.toDigits_eq_if (by decide), if_neg h, List.map_append]
  have : ∀ n, n < 10 → chB (Nat.digitChar n) = UInt8.ofNat (48 + n) := by decide
  rw [List.map_cons, this (n % 10) (Nat.mod_lt _ (by decide))]
  rfl
/-- no zero ahead -/
theorem decN_head : ∀ (n : Nat), 0 < n → (decN n).head? ≠ some 48 := by
  intro n
  induction n using Nat.strongRecOn with
  | ind n ih =>
    intro h
    by_cases q : n < 10
    · rw [decN_lt q]
      have : ∀ n, n < 10 → 0 < n → ([UInt8.ofNat (48 + n)] : List UInt8).head? ≠ some 48 := by decide
      exact this n q h
    · rw [decN_ge q]
      have := ih (n / 10) (by omega) (by omega)
      have ne := decN_ne (n / 10)
      cases e : decN (n / 10) with
      | nil => exact absurd e ne
      | cons a r =>
        rw [e] at this
        exact this
def foldD (l : List UInt8) (n : Nat) : Nat := l.foldl (fun n c => 10 * n + (c.toNat - 48)) n
theorem foldD_app (l m : List UInt8) (n : Nat) : foldD (l ++ m) n = foldD m (foldD l n) := List.foldl_append
theorem foldD_decN (n : Nat) : foldD (decN n) 0 = n := by
  induction n using Nat.strongRecOn with
  | ind n ih =>
    by_cases q : n < 10
    · rw [decN_lt q]
      have : ∀ n, n < 10 → foldD [UInt8.ofNat (48 + n)] 0 = n := by decide
      exact this n q
    · rw [decN_ge q, foldD_app, ih (n / 10) (by omega)]
      have : ∀ m, m < 10 → (UInt8.ofNat (48 + m)).toNat - 48 = m := by decide
      show 10 * (n / 10) + ((UInt8.ofNat (48 + n % 10)).toNat - 48) = n
      rw [this (n % 10) (Nat.mod_lt _ (by decide))]
      omega
/-- what is a decimal is the decimal of its value -/
theorem decN_foldD : ∀ (l : List UInt8), l ≠ [] → (∀ c ∈ l, 48 ≤ c.toNat ∧ c.toNat ≤ 57) → (l.head? ≠ some 48 ∨ l.length = 1) → decN (foldD l 0) = l := by
  intro l
  induction hn : l.length generalizing l with
  | zero => intro h; exact absurd (List.length_eq_zero_iff.mp hn) h
  | succ k ih =>
    intro ne dg hd
    obtain ⟨m, x, rfl⟩ : ∃ m x, l = m ++ [x] := ⟨l.dropLast, l.getLast ne, (List.dropLast_concat_getLast ne).symm⟩
    have hx := dg x (by simp)
    have ex : UInt8.ofNat (48 + (x.toNat - 48)) = x := by
      rw [show 48 + (x.toNat - 48) = x.toNat by omega]
      exact UInt8.ofNat_toNat
    rw [foldD_app]
    show decN (10 * foldD m 0 + (x.toNat - 48)) = m ++ [x]
    cases m with
    | nil =>
      show decN (10 * 0 + (x.toNat - 48)) = [] ++ [x]
      rw [decN_lt (by omega), show 10 * 0 + (x.toNat - 48) = x.toNat - 48 by omega, ex]
      rfl
    | cons a r =>
      have h1 : (a :: r).length = k := by simpa using hn
      have hd' : (a :: r).head? ≠ some 48 := by
        rcases hd with h | h
        · exact h
        · exfalso
          simp at hn
          simp at h1
          omega
      have e := ih (a :: r) h1 (by simp) (fun c hc => dg c (List.mem_append_left _ hc)) (.inl hd')
      have pos : 0 < foldD (a :: r) 0 := by
        cases q : foldD (a :: r) 0 with
        | zero =>
          rw [q] at e
          have e0 : decN 0 = [48] := by decide
          rw [e0] at e
          rw [← e] at hd'
          exact absurd rfl hd'
        | succ n => omega
      rw [decN_ge (by omega), show (10 * foldD (a :: r) 0 + (x.toNat - 48)) / 10 = foldD (a :: r) 0 by omega, show (10 * foldD (a :: r) 0 + (x.toNat - 48)) % 10 = x.toNat - 48 by omega, ex, e]
theorem parse_decimal (z : Int) : Vanbkh.parseNumber (Vanbkh.decimal z) = some z := by
  have dg : ∀ n, (decN n).any (fun c => decide (c < 48) || decide (57 < c)) = false := fun n => by
    rw [List.any_eq_false]
    intro c hc
    have := decN_dig hc
    simp only [Bool.or_eq_true, decide_eq_true_eq, UInt8.lt_iff_toNat_lt]
    show ¬ (c.toNat < 48 ∨ 57 < c.toNat)
    omega
  have hh : ∀ n, (decN n).head? ≠ some 45 := fun n e => by
    have : (45 : UInt8) ∈ decN n := List.mem_of_mem_head? (by rw [e]; simp)
    have q := decN_dig this
    have : (45 : UInt8).toNat = 45 := rfl
    omega
  rw [decimal_eq]
  by_cases h : 0 ≤ z
  · rw [if_pos h]
    unfold Vanbkh.parseNumber
    have e1 : ((decN z.toNat).head? == some 45) = false := by
      rw [beq_eq_false_iff_ne]
      exact hh _
    have e2 : (decN z.toNat).isEmpty = false := by
      cases e : decN z.toNat with
      | nil => exact absurd e (decN_ne _)
      | cons => rfl
    have e3 : ((decN z.toNat).head? == some 48 && (decN z.toNat).length != 1) = false := by
      by_cases q : z.toNat = 0
      · rw [q]; decide
      · have := decN_head z.toNat (by omega)
        rw [Bool.and_eq_false_iff]
        left
        rw [beq_eq_false_iff_ne]
        exact this
    simp only [e1, e2, dg, e3, Bool.false_or, Bool.or_false, if_false, Bool.false_eq_true]
    have := foldD_decN z.toNat
    unfold foldD at this
    rw [this]
    congr 1
    omega
  · rw [if_neg h]
    unfold Vanbkh.parseNumber
    have e2 : (decN (-z).toNat).isEmpty = false := by
      cases e : decN (-z).toNat with
      | nil => exact absurd e (decN_ne _)
      | cons => rfl
    have e3 : ((decN (-z).toNat).head? == some 48) = false := by
      rw [beq_eq_false_iff_ne]
      exact decN_head _ (by omega)
    simp only [List.head?_cons, beq_self_eq_true, if_true, List.drop_succ_cons, List.drop_zero, e2, dg, e3, Bool.false_or, Bool.false_and, if_false, Bool.false_eq_true]
    have := foldD_decN (-z).toNat
    unfold foldD at this
    rw [this]
    have q : ((-z).toNat : Int) = -z := by omega
    rw [q, Int.neg_neg]
theorem decimal_len {z : Int} {k : Nat} (h : z.natAbs < 10 ^ k) (hk : 0 < k) : (Vanbkh.decimal z).length ≤ k + 1 := by
  rw [decimal_eq]
  split
  · have := (decN_len z.toNat hk).mpr (by rw [show z.toNat = z.natAbs by omega]; exact h)
    omega
  · have := (decN_len (-z).toNat hk).mpr (by rw [show (-z).toNat = z.natAbs by omega]; exact h)
    rw [List.length_cons]
    omega
theorem decimal_pos (z : Int) : 0 < (Vanbkh.decimal z).length := by
  rw [decimal_eq]
  split
  · exact List.length_pos_iff.mpr (decN_ne _)
  · simp
end Rl
namespace Rl
open PySem L2 Dg
theorem set_last {α : Type} (l : List α) (h : l ≠ []) (y : α) : l.set (l.length - 1) y = l.dropLast ++ [y] := by
  obtain ⟨m, x, rfl⟩ : ∃ m x, l = m ++ [x] := ⟨l.dropLast, l.getLast h, (List.dropLast_concat_getLast h).symm⟩
  simp
theorem ixN_neg1 {n : Nat} (h : 0 < n) : ixN n (-1) = some (n - 1) := by
  unfold ixN
  rw [if_neg (by decide), if_pos (by omega)]
  congr 1
  omega
/-- ints below 256 -/
theorem u8_all {P : UInt8 → Prop} (h : ∀ n, n < 256 → P (UInt8.ofNat n)) (c : UInt8) : P c := by
  have := h c.toNat c.toNat_lt
  rw [UInt8.ofNat_toNat] at this
  exact this
theorem esc_in (c : UInt8) : (dESCAPES.lookup (bi c)).isSome = Vanbkh.needsEscape c := by
  refine u8_all (P := fun c => (dESCAPES.lookup (bi c)).isSome = Vanbkh.needsEscape c) ?_ c
  decide +kernel
theorem esc_get (c : UInt8) : bI (Vanbkh.escape c) = (if Vanbkh.needsEscape c then [92] else []) ++ [(dESCAPES.lookup (bi c)).getD (bi c)] := by
  refine u8_all (P := fun c => bI (Vanbkh.escape c) = (if Vanbkh.needsEscape c then [92] else []) ++ [(dESCAPES.lookup (bi c)).getD (bi c)]) ?_ c
  decide +kernel
theorem digs_bI (t : List UInt8) : mDigs (bI t) = bI (if t.head? == some 45 then t.drop 1 else t) := by
  cases t with
  | nil => rfl
  | cons a r =>
    unfold mDigs
    by_cases h : a = 45
    · subst h; rfl
    · rw [if_neg (by
        intro z
        have z' : bi a = bi 45 := Option.some.inj z
        exact h (bi_inj z')), if_neg (by simpa using h)]
theorem parse_some (t : List UInt8) : (Vanbkh.parseNumber t).isNone = !mIsDec (bI t) := by
  unfold Vanbkh.parseNumber mIsDec
  rw [digs_bI]
  cases t with
  | nil => rfl
  | cons a r =>
    have hall : ∀ m : List UInt8, (bI m).all (fun b => decide (48 ≤ b) && decide (b ≤ 57)) = !m.any fun c => decide (c < 48) || decide (57 < c) := fun m => by
      induction m with
      | nil => rfl
      | cons x m ih =>
        show ((decide (48 ≤ bi x) && decide (bi x ≤ 57)) && (bI m).all _) = _
        rw [ih, List.any_cons, Bool.not_or]
        congr 1
        unfold bi
        rw [Bool.eq_iff_iff]
        simp only [Bool.and_eq_true, decide_eq_true_eq, Bool.not_eq_true', Bool.or_eq_false_iff, decide_eq_false_iff_not, UInt8.lt_iff_toNat_lt]
        show _ ↔ ¬ (x.toNat < 48) ∧ ¬ (57 < x.toNat)
        omega
    have hhead : ∀ m : List UInt8, ((bI m).head? != some 48) = !(m.head? == some 48) := fun m => by
      cases m with
      | nil => rfl
      | cons x m =>
        show (some (bi x) != some (bi 48)) = !(some x == some 48)
        by_cases h : x = 48
        · subst h; rfl
        · have h1 : ¬ bi x = bi 48 := fun z => h (bi_inj z)
          have h2 : (bi x == bi 48) = false := beq_eq_false_iff_ne.mpr h1
          have h3 : (x == 48) = false := beq_eq_false_iff_ne.mpr h
          show (!(bi x == bi 48)) = !(x == 48)
          rw [h2, h3]
    have hemp : ∀ m : List UInt8, (bI m).isEmpty = m.isEmpty := fun m => by cases m <;> rfl
    by_cases h : a = 45
    · subst h
      have e : ((45 :: r : List UInt8).head? == some 45) = true := rfl
      simp only [e, if_true, List.drop_succ_cons, List.drop_zero, Bool.true_or, Bool.and_true]
      rw [hemp, hall, hhead]
      have hl : ((bI (45 :: r)).length == 1) = r.isEmpty := by cases r <;> rfl
      rw [hl]
      generalize r.isEmpty = p
      generalize (r.any fun c => decide (c < 48) || decide (57 < c)) = q
      generalize (r.head? == some 48) = z
      cases p <;> cases q <;> cases z <;> rfl
    · have e : ((a :: r : List UInt8).head? == some 45) = false := by simpa using h
      simp only [e, if_false, Bool.false_eq_true]
      rw [hemp, hall, hhead, bI_length]
      simp only [Bool.false_or]
      have hl : ((a :: r : List UInt8).length != 1) = !((a :: r : List UInt8).length == 1) := rfl
      rw [hl]
      generalize (a :: r : List UInt8).isEmpty = p
      generalize ((a :: r : List UInt8).any fun c => decide (c < 48) || decide (57 < c)) = q
      generalize ((a :: r : List UInt8).head? == some 48) = z
      generalize ((a :: r : List UInt8).length == 1) = y
      cases p <;> cases q <;> cases z <;> cases y <;> rfl
theorem escape_len (c : UInt8) : (Vanbkh.escape c).length ≤ 2 := by
  refine u8_all (P := fun c => (Vanbkh.escape c).length ≤ 2) ?_ c
  decide +kernel
theorem flat_len : ∀ t : List UInt8, (t.flatMap Vanbkh.escape).length ≤ 2 * t.length
  | [] => by simp
  | c :: t => by
    have := escape_len c
    have := flat_len t
    rw [List.flatMap_cons, List.length_append, List.length_cons]
    omega
theorem printText_len (t : List UInt8) : (Vanbkh.printText t).length ≤ 2 * t.length + 2 := by
  unfold Vanbkh.printText
  have := flat_len t
  split
  · omega
  · simp only [List.length_append, List.length_singleton]
    omega
theorem valid_num {z : Int} (h : Vanbkh.isValidNumber z = true) : z.natAbs < 10 ^ 30 := by
  unfold Vanbkh.isValidNumber at h
  simp only [Bool.and_eq_true, decide_eq_true_eq] at h
  omega
theorem valid_text {t : List UInt8} (h : Vanbkh.isValidText t = true) : t.length ≤ 200 := by
  unfold Vanbkh.isValidText Vanbkh.maxTextLength at h
  simp only [Bool.and_eq_true, decide_eq_true_eq] at h
  exact h.1
theorem printCell_len {c : Vanbkh.Cell} (h : Vanbkh.isValidCell c = true) : (Vanbkh.printCell c).length ≤ 402 := by
  cases c with
  | number z =>
    have := decimal_len (valid_num h) (by decide)
    show (Vanbkh.decimal z).length ≤ 402
    omega
  | text t =>
    have := printText_len t
    have := valid_text (t := t) h
    show (Vanbkh.printText t).length ≤ 402
    omega
end Rl
namespace Rl
open PySem L2 Dg
theorem text_bytes {l : List Int} (h : mIsText l = true) : bI (Vanbkh.bytesOf l) = l := by
  refine bI_bytesOf fun x hx => ?_
  unfold mIsText at h
  split at h
  · cases h
  · have := List.all_eq_true.mp h x hx
    unfold mIsTB at this
    simp only [Bool.or_eq_true, Bool.and_eq_true, decide_eq_true_eq] at this
    omega
theorem text_len {l : List Int} (h : mIsText l = true) : l.length ≤ 200 := by
  unfold mIsText at h
  split at h
  · cases h
  · omega
def mTxt (n : Int) (r : List Int) : Option Vanbkh.Cell := if Vanbkh.isBetween n 0 200 && (r.take n.toNat).length == n.toNat && Vanbkh.isText (r.take n.toNat) then some (.text (Vanbkh.bytesOf (r.take n.toNat))) else none
def mStep : List Int → Option (Vanbkh.Cell × List Int)
  | a :: b :: r => if a = 0 then some (.number b, r) else if a = 1 then (mTxt b r).map fun c => (c, r.drop b.toNat) else none
  | _ => none
theorem mStep_two (a b : Int) (r : List Int) : mStep (a :: b :: r) = if a = 0 then some (.number b, r) else if a = 1 then (mTxt b r).map fun c => (c, r.drop b.toNat) else none := rfl
theorem cellsFrom_step {k : Nat} {l : List Int} (hl : l ≠ []) (hv : ∀ x ∈ l, Vanbkh.isValidNumber x = true) : Vanbkh.cellsFrom (k + 1) l = match mStep l with | none => none | some (c, r) => (Vanbkh.cellsFrom k r).map (c :: ·) := by
  match l, hl with
  | [a], _ =>
    unfold Vanbkh.cellsFrom mStep
    split <;> simp_all
  | a :: b :: r, _ =>
    have hb := hv b (by simp)
    by_cases h0 : a = 0
    · subst h0
      have : mStep (0 :: b :: r) = some (.number b, r) := by simp [mStep]
      rw [this]
      show (if Vanbkh.isValidNumber b = true then _ else _) = _
      rw [if_pos hb]
    · by_cases h1 : a = 1
      · subst h1
        have : mStep (1 :: b :: r) = (mTxt b r).map fun c => (c, r.drop b.toNat) := by simp [mStep]
        rw [this]
        unfold mTxt
        show (if (Vanbkh.isBetween b 0 200 && (r.take b.toNat).length == b.toNat && Vanbkh.isText (r.take b.toNat)) = true then _ else _) = _
        by_cases q : (Vanbkh.isBetween b 0 200 && (r.take b.toNat).length == b.toNat && Vanbkh.isText (r.take b.toNat)) = true
        · rw [if_pos q, if_pos q]
          rfl
        · rw [if_neg q, if_neg q]
          rfl
      · have : mStep (a :: b :: r) = none := by simp [mStep, h0, h1]
        rw [this]
        unfold Vanbkh.cellsFrom
        split <;> simp_all
theorem mStep_some {l r : List Int} {c : Vanbkh.Cell} (h : mStep l = some (c, r)) : ∃ a b r', l = a :: b :: r' ∧ ((a = 0 ∧ c = .number b ∧ r = r') ∨ (a = 1 ∧ mTxt b r' = some c ∧ r = r'.drop b.toNat)) := by
  match l with
  | [] => cases h
  | [a] => cases h
  | a :: b :: r' =>
    refine ⟨a, b, r', rfl, ?_⟩
    have h' : (if a = 0 then some (Vanbkh.Cell.number b, r') else if a = 1 then (mTxt b r').map fun c => (c, r'.drop b.toNat) else none) = some (c, r) := h
    by_cases h0 : a = 0
    · rw [if_pos h0] at h'
      have := Prod.mk.inj (Option.some.inj h')
      exact .inl ⟨h0, this.1.symm, this.2.symm⟩
    · rw [if_neg h0] at h'
      by_cases h1 : a = 1
      · rw [if_pos h1] at h'
        cases q : mTxt b r' with
        | none => rw [q] at h'; cases h'
        | some c' =>
          rw [q] at h'
          have := Prod.mk.inj (Option.some.inj h')
          exact .inr ⟨h1, by rw [this.1], this.2.symm⟩
      · rw [if_neg h1] at h'
        cases h'
theorem mStep_lt {l r : List Int} {c : Vanbkh.Cell} (h : mStep l = some (c, r)) : r.length < l.length := by
  obtain ⟨a, b, r', rfl, ⟨_, _, rfl⟩ | ⟨_, _, rfl⟩⟩ := mStep_some h
  · simp
    omega
  · simp
    omega
theorem cells_fuel : ∀ (n : Nat) (l : List Int), l.length ≤ n → (∀ x ∈ l, Vanbkh.isValidNumber x = true) → ∀ k, l.length ≤ k → Vanbkh.cellsFrom k l = Vanbkh.cellsFrom n l := by
  intro n
  induction n with
  | zero =>
    intro l h _ k _
    have : l = [] := List.length_eq_zero_iff.mp (by omega)
    subst this
    simp [Vanbkh.cellsFrom]
  | succ n ih =>
    intro l h hv k hk
    by_cases hl : l = []
    · subst hl
      simp [Vanbkh.cellsFrom]
    · cases k with
      | zero => exact absurd (List.length_eq_zero_iff.mp (by omega)) hl
      | succ k =>
        rw [cellsFrom_step hl hv, cellsFrom_step hl hv]
        cases q : mStep l with
        | none => rfl
        | some cr =>
          obtain ⟨c, r⟩ := cr
          have lt := mStep_lt q
          have hr : ∀ x ∈ r, Vanbkh.isValidNumber x = true := by
            intro x hx
            obtain ⟨a, b, r', rfl, ⟨_, _, rfl⟩ | ⟨_, _, rfl⟩⟩ := mStep_some q
            · exact hv x (by simp [hx])
            · exact hv x (by simp [List.mem_of_mem_drop hx])
          show (Vanbkh.cellsFrom k r).map _ = (Vanbkh.cellsFrom n r).map _
          rw [ih r (by omega) hr k (by omega)]
theorem mStep_enc {l r : List Int} {c : Vanbkh.Cell} (h : mStep l = some (c, r)) : ∃ p, l = p ++ r ∧ (p.length : Int) = encLen c ∧ 2 ≤ p.length := by
  obtain ⟨a, b, r', rfl, ⟨_, rfl, rfl⟩ | ⟨_, q, rfl⟩⟩ := mStep_some h
  · exact ⟨[a, b], rfl, rfl, by simp⟩
  · unfold mTxt at q
    split at q
    · rename_i hq
      cases q
      simp only [Bool.and_eq_true, beq_iff_eq] at hq
      refine ⟨a :: b :: r'.take b.toNat, by simp, ?_, by simp⟩
      show (((a :: b :: r'.take b.toNat).length : Nat) : Int) = 2 + ((r'.take b.toNat).map _).length
      simp
      omega
    · cases q
end Rl
namespace Rl
open PySem L2 Dg
/-! ### cells read back, as the program does -/
def mVal (d : List Int) : Int := d.foldl (fun a x => 10 * a + x - 48) 0
def mReadNum (l : List Int) : Option Vanbkh.Cell := if (30 : Int) < (mDigs l).length then none else some (.number (if l.head? = some 45 then -mVal (mDigs l) else mVal (mDigs l)))
def mUnesc : List Int → Option (List Int)
  | [] => some []
  | [c] => if c = 92 then none else some [c]
  | c :: e :: r => if c = 92 then (match dESCAPED.lookup e with | none => none | some b => (mUnesc r).map (b :: ·)) else (mUnesc (e :: r)).map (c :: ·)
def mInner (l : List Int) : Option (List Int) := if l.head? = some 34 then mUnesc ((l.drop 1).take (l.length - 1 - 1)) else some l
def mReadTxt (l : List Int) : Option Vanbkh.Cell := match mInner l with
  | none => none
  | some t => if mIsText t then some (.text (Vanbkh.bytesOf t)) else none
def mReadCell (l : List Int) : Option Vanbkh.Cell := if mIsDec l then mReadNum l else mReadTxt l
def isSp (x : Int) : Bool := decide (x = 32)
def mStrip (l : List Int) : List Int := ((l.dropWhile isSp).reverse.dropWhile isSp).reverse
def mFields (line : List Int) : List (List Int) := ((mSplit 124 line).drop 1).take ((mSplit 124 line).length - 1 - 1)
def mCellOf (f : List Int) : Option Vanbkh.Cell := mReadCell (mStrip f)
def mAll {α : Type} (l : List (Option α)) : Option (List α) := if l.any Option.isNone then none else some (l.filterMap id)
def mReadRow (line : List Int) : Option (List Vanbkh.Cell) := if (decide ((1 : Int) ≤ (mFields line).length) && decide (((mFields line).length : Int) ≤ 8)) = true then mAll ((mFields line).map mCellOf) else none
def mRowLines (ls : List (List Int)) : List (List Int) := ls.getD 1 [] :: (ls.drop 3).take (ls.length - 1 - 3)
def mReadRows (ls : List (List Int)) : Option (List (List Vanbkh.Cell)) := if (decide ((4 : Int) ≤ ls.length) && decide ((ls.length : Int) ≤ 28)) = true then
    (match mAll ((mRowLines ls).map mReadRow) with
      | none => none
      | some rows => if rows.any (fun r => !decide (r.length = (rows.headD []).length)) then none else some rows) else none
theorem mVal_snoc (d : List Int) (x : Int) : mVal (d ++ [x]) = 10 * mVal d + x - 48 := by
  unfold mVal
  rw [List.foldl_append]
  rfl
theorem mVal_bd : ∀ (d : List Int), (∀ x ∈ d, 48 ≤ x ∧ x ≤ 57) → 0 ≤ mVal d ∧ mVal d < 10 ^ d.length := by
  intro d
  induction hn : d.length generalizing d with
  | zero =>
    intro _
    have : d = [] := List.length_eq_zero_iff.mp hn
    subst this
    decide
  | succ k ih =>
    intro h
    have ne : d ≠ [] := by intro z; rw [z] at hn; cases hn
    obtain ⟨m, x, rfl⟩ : ∃ m x, d = m ++ [x] := ⟨d.dropLast, d.getLast ne, (List.dropLast_concat_getLast ne).symm⟩
    have hx := h x (by simp)
    have := ih m (by simpa using hn) (fun y hy => h y (by simp [hy]))
    rw [mVal_snoc, Int.pow_succ]
    omega
theorem mUnesc_len : ∀ (n : Nat) (l t : List Int), l.length ≤ n → mUnesc l = some t → t.length ≤ l.length := by
  intro n
  induction n with
  | zero =>
    intro l t h e
    have : l = [] := List.length_eq_zero_iff.mp (by omega)
    subst this
    cases e
    simp
  | succ n ih =>
    intro l t h e
    match l with
    | [] => cases e; simp
    | [c] =>
      have e' : (if c = 92 then none else some [c]) = some t := e
      split at e'
      · cases e'
      · cases e'; simp
    | c :: e1 :: r =>
      have e' : (if c = 92 then (match dESCAPED.lookup e1 with | none => none | some b => (mUnesc r).map (b :: ·)) else (mUnesc (e1 :: r)).map (c :: ·)) = some t := e
      simp only [List.length_cons] at h
      split at e'
      · cases q : dESCAPED.lookup e1 with
        | none => rw [q] at e'; cases e'
        | some b =>
          rw [q] at e'
          cases z : mUnesc r with
          | none => rw [z] at e'; cases e'
          | some t' =>
            rw [z] at e'
            cases e'
            have := ih r t' (by omega) z
            simp
            omega
      · cases z : mUnesc (e1 :: r) with
        | none => rw [z] at e'; cases e'
        | some t' =>
          rw [z] at e'
          cases e'
          have := ih (e1 :: r) t' (by simp; omega) z
          simp at this ⊢
          omega
end Rl
namespace Rl
open PySem L2 Dg
/-! ### tables -/
def nI (l : List Nat) : List Int := l.map fun n : Nat => (n : Int)
def dN (l : List Nat) : D := .lst (dI (nI l))
def mRowsH (t : Vanbkh.Table) : List (List Vanbkh.Cell) := t.headers.map .text :: t.rows
def prRow (k : Nat) (r : List Vanbkh.Cell) : List (List UInt8) := (r.take k).map Vanbkh.printCell
def mPrinted (k : Nat) (t : Vanbkh.Table) : List (List (List UInt8)) := (mRowsH t).map (prRow k)
theorem nI_length (l : List Nat) : (nI l).length = l.length := List.length_map _
theorem nI_sum : ∀ l : List Nat, (nI l).sum = (l.sum : Nat)
  | [] => rfl
  | a :: l => by
    show (a : Int) + (nI l).sum = (((a :: l).sum : Nat) : Int)
    rw [List.sum_cons]
    rw [nI_sum l]
    omega
structure VT (t : Vanbkh.Table) : Prop where
  lo : 1 ≤ t.headers.length
  hi : t.headers.length ≤ 8
  rs : t.rows.length ≤ 24
  row : ∀ r ∈ mRowsH t, r.length = t.headers.length ∧ ∀ c ∈ r, Vanbkh.isValidCell c = true
theorem vt_of {t : Vanbkh.Table} (h : Vanbkh.isValidTable t = true) : VT t := by
  unfold Vanbkh.isValidTable at h
  simp only [Bool.and_eq_true, decide_eq_true_eq, List.all_eq_true, beq_iff_eq] at h
  obtain ⟨⟨⟨⟨h1, h2⟩, h3⟩, h4⟩, h5⟩ := h
  refine ⟨h1, h2, h3, fun r hr => ?_⟩
  rcases List.mem_cons.mp hr with rfl | hr
  · refine ⟨List.length_map _, fun c hc => ?_⟩
    obtain ⟨x, hx, rfl⟩ := List.mem_map.mp hc
    exact h4 x hx
  · exact h5 r hr
theorem decimal_pos' (z : Int) : 1 ≤ (Vanbkh.decimal z).length := decimal_pos z
theorem printCell_pos (c : Vanbkh.Cell) : 1 ≤ (Vanbkh.printCell c).length := by
  cases c with
  | number z => exact decimal_pos z
  | text t =>
    show 1 ≤ (Vanbkh.printText t).length
    unfold Vanbkh.printText
    split
    · rename_i h
      cases t with
      | nil => cases h
      | cons a r => simp
    · simp
theorem fold_max : ∀ (l : List Nat) (a : Nat), a ≤ l.foldl max a ∧ (∀ x ∈ l, x ≤ l.foldl max a) ∧ (l.foldl max a = a ∨ l.foldl max a ∈ l)
  | [], a => ⟨Nat.le_refl _, by simp, .inl rfl⟩
  | b :: l, a => by
    obtain ⟨h1, h2, h3⟩ := fold_max l (max a b)
    refine ⟨?_, fun x hx => ?_, ?_⟩
    · show a ≤ l.foldl max (max a b)
      omega
    · show x ≤ l.foldl max (max a b)
      rcases List.mem_cons.mp hx with rfl | hx
      · omega
      · exact h2 x hx
    · show l.foldl max (max a b) = a ∨ l.foldl max (max a b) ∈ b :: l
      rcases h3 with h3 | h3
      · rw [h3]
        rcases Nat.le_total a b with h | h
        · exact .inr (by rw [Nat.max_eq_right h]; simp)
        · exact .inl (Nat.max_eq_left h)
      · exact .inr (List.mem_cons_of_mem _ h3)
theorem maximum_le {l : List Nat} {x : Nat} (h : x ∈ l) : x ≤ Vanbkh.maximum l := (fold_max l 0).2.1 x h
theorem maximum_mem {l : List Nat} (h : l ≠ []) : Vanbkh.maximum l ∈ l := by
  rcases (fold_max l 0).2.2 with q | q
  · obtain ⟨a, r, rfl⟩ := List.exists_cons_of_ne_nil h
    have h1 : a ≤ Vanbkh.maximum (a :: r) := maximum_le (by simp)
    have h2 : Vanbkh.maximum (a :: r) = 0 := q
    have : a = 0 := by omega
    rw [h2, this]
    simp
  · exact q
/-- the lengths of the printed cells of a column -/
def colLens (t : Vanbkh.Table) (c : Nat) : List Nat := (mRowsH t).map fun r => (Vanbkh.printCell (r.getD c (.number 0))).length
theorem natural_eq {t : Vanbkh.Table} (h : VT t) {c : Nat} (hc : c < t.headers.length) : Vanbkh.naturalWidth t c = Vanbkh.maximum (colLens t c) := by
  unfold Vanbkh.naturalWidth colLens mRowsH
  congr 1
  rw [List.map_cons]
  congr 1
  · rw [List.getElem?_eq_getElem hc, List.getD_eq_getElem?_getD, List.getElem?_map, List.getElem?_eq_getElem hc]
    rfl
  · unfold Vanbkh.column
    have key : ∀ rs : List (List Vanbkh.Cell), (∀ r ∈ rs, c < r.length) → (rs.filterMap fun r => r[c]?).map (fun x => (Vanbkh.printCell x).length) = rs.map fun r => (Vanbkh.printCell (r.getD c (.number 0))).length := by
      intro rs
      induction rs with
      | nil => intro _; rfl
      | cons r rs ih =>
        intro hr
        have h1 := hr r (by simp)
        rw [List.filterMap_cons, List.getElem?_eq_getElem h1]
        show _ :: _ = _ :: _
        rw [ih (fun r hr' => hr r (by simp [hr']))]
        congr 2
        rw [List.getD_eq_getElem?_getD, List.getElem?_eq_getElem h1]
        rfl
    exact key t.rows fun r hr => by
      have := (h.row r (by simp [mRowsH, hr])).1
      omega
theorem naturals_take {t : Vanbkh.Table} {k : Nat} (hk : k ≤ t.headers.length) : (Vanbkh.naturalWidths t).take k = (List.range k).map (Vanbkh.naturalWidth t) := by
  unfold Vanbkh.naturalWidths
  rw [← List.map_take, List.take_range, Nat.min_eq_left hk]
theorem natural_bd {t : Vanbkh.Table} (h : VT t) {c : Nat} (hc : c < t.headers.length) : 1 ≤ Vanbkh.naturalWidth t c ∧ Vanbkh.naturalWidth t c ≤ 402 := by
  rw [natural_eq h hc]
  have := maximum_mem (l := colLens t c) (by simp [colLens, mRowsH])
  unfold colLens at this
  obtain ⟨r, hr, e⟩ := List.mem_map.mp this
  have e' : (Vanbkh.printCell (r.getD c (.number 0))).length = Vanbkh.maximum (colLens t c) := e
  rw [← e']
  refine ⟨printCell_pos _, ?_⟩
  have hl := h.row r hr
  refine Nat.le_trans (printCell_len (hl.2 _ ?_)) (by decide)
  rw [List.getD_eq_getElem?_getD, List.getElem?_eq_getElem (by omega)]
  exact List.getElem_mem _
/-! narrowing -/
theorem narrowFirst_eq (m : Nat) : ∀ ws : List Nat, m ∈ ws → ∃ j, ws[j]? = some m ∧ (∀ k, k < j → ws[k]? ≠ some m) ∧ Vanbkh.narrowFirst m ws = ws.set j (m - 1) ∧ (1 ≤ m → (Vanbkh.narrowFirst m ws).sum + 1 = ws.sum)
  | [], h => by simp at h
  | x :: r, h => by
    by_cases q : x = m
    · subst q
      refine ⟨0, rfl, fun k hk => by omega, ?_, fun h1 => ?_⟩
      · simp [Vanbkh.narrowFirst]
      · simp [Vanbkh.narrowFirst]
        omega
    · have h' : m ∈ r := by
        rcases List.mem_cons.mp h with h | h
        · exact absurd h.symm q
        · exact h
      obtain ⟨j, h1, h2, h3, h4⟩ := narrowFirst_eq m r h'
      refine ⟨j + 1, by simpa using h1, fun k hk => ?_, ?_, fun hm => ?_⟩
      · cases k with
        | zero => simpa using q
        | succ k => simpa using h2 k (by omega)
      · simp [Vanbkh.narrowFirst, q, h3]
      · have := h4 hm
        simp [Vanbkh.narrowFirst, q]
        omega
theorem narrowFirst_len (m : Nat) : ∀ ws : List Nat, (Vanbkh.narrowFirst m ws).length = ws.length
  | [] => rfl
  | x :: r => by
    unfold Vanbkh.narrowFirst
    split
    · rfl
    · simp [narrowFirst_len m r]
theorem narrow_done {w : Nat} {ws : List Nat} (h : Vanbkh.lineWidth ws ≤ w) (n : Nat) : Vanbkh.narrow w n ws = ws := by
  cases n with
  | zero => rfl
  | succ n =>
    unfold Vanbkh.narrow
    rw [if_pos h]
theorem narrow_step {w : Nat} {ws : List Nat} (h : ¬ Vanbkh.lineWidth ws ≤ w) (n : Nat) : Vanbkh.narrow w (n + 1) ws = Vanbkh.narrow w n (Vanbkh.narrowFirst (Vanbkh.maximum ws) ws) := by
  conv => lhs; unfold Vanbkh.narrow
  rw [if_neg h]
theorem sum_le {c : Nat} : ∀ {ws : List Nat}, (∀ x ∈ ws, x ≤ c) → ws.sum ≤ c * ws.length
  | [], _ => by simp
  | x :: r, h => by
    have h1 := h x (by simp)
    have := sum_le (ws := r) fun y hy => h y (by simp [hy])
    simp only [List.sum_cons, List.length_cons, Nat.mul_add]
    omega
/-- where a line is too wide, the widest column has at least 4 -/
theorem widest_big {w : Nat} {ws : List Nat} (h : ¬ Vanbkh.lineWidth ws ≤ w) (h2 : 6 * ws.length + 1 ≤ w) : 4 ≤ Vanbkh.maximum ws ∧ ws ≠ [] := by
  unfold Vanbkh.lineWidth at h
  have h3 : ¬ Vanbkh.maximum ws ≤ 3 := fun q => by
    have := sum_le (c := 3) (ws := ws) fun x hx => Nat.le_trans (maximum_le hx) q
    omega
  refine ⟨by omega, fun z => ?_⟩
  subst z
  exact h3 (by decide)
theorem narrow_pos {w : Nat} : ∀ (n : Nat) {ws : List Nat}, 6 * ws.length + 1 ≤ w → (∀ x ∈ ws, 1 ≤ x ∧ x ≤ 402) → (∀ x ∈ Vanbkh.narrow w n ws, 1 ≤ x ∧ x ≤ 402) ∧ (Vanbkh.narrow w n ws).length = ws.length
  | 0, ws, _, h => ⟨h, rfl⟩
  | n + 1, ws, hw, h => by
    by_cases q : Vanbkh.lineWidth ws ≤ w
    · rw [narrow_done q]
      exact ⟨h, rfl⟩
    · rw [narrow_step q]
      obtain ⟨b1, b2⟩ := widest_big q hw
      obtain ⟨j, e1, e2, e3, e4⟩ := narrowFirst_eq _ ws (maximum_mem b2)
      have hl := narrowFirst_len (Vanbkh.maximum ws) ws
      have := narrow_pos n (ws := Vanbkh.narrowFirst (Vanbkh.maximum ws) ws) (by rw [hl]; exact hw) (fun x hx => by
        rw [e3] at hx
        rcases List.mem_or_eq_of_mem_set hx with hx | rfl
        · exact h x hx
        · have := (h _ (maximum_mem b2)).2
          omega)
      rw [hl] at this
      exact this
end Rl
namespace Rl
open PySem L2 Dg
theorem bI_rep (n : Nat) (c : UInt8) : bI (List.replicate n c) = List.replicate n (bi c) := List.map_replicate
theorem bI_flat {α : Type} (f : α → List UInt8) : ∀ l : List α, bI (l.flatMap f) = l.flatMap fun x => bI (f x)
  | [] => rfl
  | x :: l => by rw [List.flatMap_cons, List.flatMap_cons, bI_append, bI_flat f l]
theorem flat_le {α : Type} {f : α → List UInt8} {c : Nat} : ∀ {l : List α}, (∀ x ∈ l, (f x).length ≤ c) → (l.flatMap f).length ≤ c * l.length
  | [], _ => by simp
  | x :: l, h => by
    have h1 := h x (by simp)
    have := flat_le (l := l) fun y hy => h y (by simp [hy])
    simp only [List.flatMap_cons, List.length_append, List.length_cons, Nat.mul_add]
    omega
theorem take_snoc {α : Type} {l : List α} {i : Nat} (h : i < l.length) : l.take (i + 1) = l.take i ++ [l[i]] := by simp
theorem vis_bd {w n : Nat} (h : 20 ≤ w) (h2 : w ≤ 120) (hn : 1 ≤ n) : 1 ≤ Vanbkh.visibleColumns w n ∧ Vanbkh.visibleColumns w n ≤ n ∧ 6 * Vanbkh.visibleColumns w n + 1 ≤ w := by
  unfold Vanbkh.visibleColumns
  omega
theorem naturals_len (t : Vanbkh.Table) : (Vanbkh.naturalWidths t).length = t.headers.length := by simp [Vanbkh.naturalWidths]
theorem naturals_bd {t : Vanbkh.Table} (h : VT t) : ∀ x ∈ Vanbkh.naturalWidths t, 1 ≤ x ∧ x ≤ 402 := fun x hx => by
  unfold Vanbkh.naturalWidths at hx
  obtain ⟨c, hc, rfl⟩ := List.mem_map.mp hx
  exact natural_bd h (by simpa using hc)
theorem naturals_all (t : Vanbkh.Table) : (Vanbkh.naturalWidths t).take t.headers.length = Vanbkh.naturalWidths t := List.take_of_length_le (by rw [naturals_len]; omega)
theorem widths_bd {t : Vanbkh.Table} (h : VT t) {w : Nat} (h1 : 20 ≤ w) (h2 : w ≤ 120) : (Vanbkh.columnWidths w t).length = Vanbkh.visibleColumns w t.headers.length ∧ ∀ x ∈ Vanbkh.columnWidths w t, 1 ≤ x ∧ x ≤ 402 := by
  obtain ⟨v1, v2, v3⟩ := vis_bd h1 h2 h.lo
  have hl : ((Vanbkh.naturalWidths t).take (Vanbkh.visibleColumns w t.headers.length)).length = Vanbkh.visibleColumns w t.headers.length := by
    rw [List.length_take, naturals_len]
    omega
  obtain ⟨q1, q2⟩ := narrow_pos (w := w) (Vanbkh.lineWidth ((Vanbkh.naturalWidths t).take (Vanbkh.visibleColumns w t.headers.length))) (ws := (Vanbkh.naturalWidths t).take (Vanbkh.visibleColumns w t.headers.length)) (by rw [hl]; exact v3) (fun x hx => naturals_bd h x (List.mem_of_mem_take hx))
  exact ⟨by show (Vanbkh.narrow _ _ _).length = _; rw [q2, hl], q1⟩
theorem ruler_len {ws : List Nat} (h : ∀ x ∈ ws, x ≤ 402) : (Vanbkh.ruler ws).length ≤ 405 * ws.length + 1 := by
  unfold Vanbkh.ruler
  rw [List.length_append]
  have := flat_le (f := fun n => 43 :: List.replicate (n + 2) (45 : UInt8)) (c := 405) (l := ws) fun x hx => by
    have := h x hx
    simp
    omega
  simp at this ⊢
  omega
theorem truncate_len {n : Nat} (l : List UInt8) (h : 1 ≤ n) : (Vanbkh.truncate n l).length ≤ n := by
  unfold Vanbkh.truncate
  split
  · assumption
  · simp
    omega
theorem align_len {n : Nat} (c : Vanbkh.Cell) (h : 1 ≤ n) : (Vanbkh.alignCell n c).length = n := by
  have := truncate_len (n := n) (Vanbkh.printCell c) h
  unfold Vanbkh.alignCell Vanbkh.padLeft Vanbkh.padRight Vanbkh.spaces
  split <;> simp <;> omega
theorem rowLine_len {ws : List Nat} {r : List Vanbkh.Cell} (h : ∀ x ∈ ws, 1 ≤ x ∧ x ≤ 402) : (Vanbkh.rowLine ws r).length ≤ 405 * ws.length + 1 := by
  unfold Vanbkh.rowLine
  rw [List.length_append]
  have := flat_le (f := fun x : Nat × Vanbkh.Cell => [124, 32] ++ Vanbkh.alignCell x.1 x.2 ++ [32]) (c := 405) (l := ws.zip r) fun x hx => by
    have hm : x.1 ∈ ws := List.of_mem_zip hx |>.1
    have := h x.1 hm
    have := align_len x.2 this.1
    simp
    omega
  have hz : (ws.zip r).length ≤ ws.length := by simp; omega
  have : 405 * (ws.zip r).length ≤ 405 * ws.length := Nat.mul_le_mul_left _ hz
  simp at *
  omega
theorem tableWith_len {ws : List Nat} {t : Vanbkh.Table} (h : VT t) (h8 : ws.length ≤ 8) (h1 : ∀ x ∈ ws, 1 ≤ x ∧ x ≤ 402) : (Vanbkh.tableWith ws t).length ≤ 28 ∧ ∀ l ∈ Vanbkh.tableWith ws t, l.length ≤ 3241 := by
  have := h.rs
  refine ⟨by simp [Vanbkh.tableWith]; omega, fun l hl => ?_⟩
  have r1 := ruler_len (ws := ws) fun x hx => (h1 x hx).2
  unfold Vanbkh.tableWith at hl
  simp only [List.mem_append, List.mem_cons, List.not_mem_nil, or_false, List.mem_map] at hl
  rcases hl with ((rfl | rfl | rfl) | ⟨r, _, rfl⟩) | rfl
  · omega
  · have := rowLine_len (ws := ws) (r := t.headers.map .text) h1
    omega
  · omega
  · have := rowLine_len (ws := ws) (r := r) h1
    omega
  · omega
theorem join_snoc (s : List UInt8) (x : List UInt8) : ∀ l : List (List UInt8), Vanbkh.join s (l ++ [x]) = if l = [] then x else Vanbkh.join s l ++ s ++ x
  | [] => rfl
  | [a] => rfl
  | a :: b :: l => by
    have ih := join_snoc s x (b :: l)
    rw [if_neg (by simp)] at ih ⊢
    show a ++ s ++ Vanbkh.join s ((b :: l) ++ [x]) = (a ++ s ++ Vanbkh.join s (b :: l)) ++ s ++ x
    rw [ih]
    simp
theorem join_len {c : Nat} : ∀ {l : List (List UInt8)}, (∀ x ∈ l, x.length ≤ c) → (Vanbkh.join [10] l).length ≤ (c + 1) * l.length
  | [], _ => by simp [Vanbkh.join]
  | [a], h => by
    have := h a (by simp)
    simp [Vanbkh.join]
    omega
  | a :: b :: l, h => by
    have h1 := h a (by simp)
    have ih := join_len (l := b :: l) fun x hx => h x (by simp [hx])
    show (a ++ [10] ++ Vanbkh.join [10] (b :: l)).length ≤ _
    simp only [List.length_append, List.length_cons, List.length_nil, Nat.mul_add, Nat.mul_one] at ih ⊢
    omega
theorem text_short {t : Vanbkh.Table} (h : VT t) : (Vanbkh.tableText t).length ≤ 90776 := by
  have hw := naturals_bd h
  obtain ⟨h1, h2⟩ := tableWith_len (ws := Vanbkh.naturalWidths t) h (by rw [naturals_len]; exact h.hi) hw
  have := join_len h2
  unfold Vanbkh.tableText
  have : (3241 + 1) * (Vanbkh.tableWith (Vanbkh.naturalWidths t) t).length ≤ 3242 * 28 := Nat.mul_le_mul_left _ h1
  omega
end Rl
namespace Rl
open PySem L2 Dg
def mTable (rows : List (List Vanbkh.Cell)) : Vanbkh.Table := { headers := (rows.headD []).map Vanbkh.textOf, rows := rows.drop 1 }
def mReadFull (l : List Int) : Option Vanbkh.Table := match mReadRows (mSplit 10 l) with
  | none => none
  | some rows => if !((rows.headD []).all fun c => !Vanbkh.isNumber c) then none else if bI (Vanbkh.tableText (mTable rows)) = l then some (mTable rows) else none
theorem mAll_some {α : Type} {l : List (Option α)} {r : List α} (h : mAll l = some r) : l = r.map some := by
  unfold mAll at h
  split at h
  · cases h
  · rename_i q
    cases h
    induction l with
    | nil => rfl
    | cons a l ih =>
      cases a with
      | none => simp at q
      | some a =>
        have := ih (by simpa using q)
        show some a :: l = some a :: (l.filterMap id).map some
        rw [← this]
theorem tb_ofNat {n : Int} (h : mIsTB n = true) : Vanbkh.isTextByte (UInt8.ofNat n.toNat) = true ∧ 0 ≤ n ∧ n < 256 := by
  have hb : 0 ≤ n ∧ n < 256 := by
    unfold mIsTB at h
    simp only [Bool.or_eq_true, Bool.and_eq_true, decide_eq_true_eq] at h
    omega
  refine ⟨?_, hb⟩
  have e : bi (UInt8.ofNat n.toNat) = n := by
    rw [bi_ofNat (by omega)]
    omega
  have key : ∀ c : UInt8, mIsTB (bi c) = Vanbkh.isTextByte c := fun c => u8_all (P := fun c => mIsTB (bi c) = Vanbkh.isTextByte c) (by decide +kernel) c
  rw [← key, e, h]
theorem validText_of {l : List Int} (h : mIsText l = true) : Vanbkh.isValidText (Vanbkh.bytesOf l) = true := by
  have hl := text_len h
  unfold mIsText at h
  rw [if_neg (by omega)] at h
  unfold Vanbkh.isValidText Vanbkh.bytesOf Vanbkh.maxTextLength
  rw [List.length_map, List.all_map]
  simp only [Bool.and_eq_true, decide_eq_true_eq, List.all_eq_true]
  exact ⟨hl, fun x hx => (tb_ofNat (List.all_eq_true.mp h x hx)).1⟩
theorem mReadNum_valid {l : List Int} {c : Vanbkh.Cell} (hd : mIsDec l = true) (h : mReadNum l = some c) : Vanbkh.isValidCell c = true := by
  unfold mReadNum at h
  split at h
  · cases h
  · rename_i q
    cases h
    have hdg : ∀ x ∈ mDigs l, 48 ≤ x ∧ x ≤ 57 := by
      unfold mIsDec at hd
      simp only [Bool.and_eq_true, Bool.not_eq_true', List.all_eq_true, decide_eq_true_eq] at hd
      exact hd.1.2
    have hb := mVal_bd (mDigs l) hdg
    have hp : (mDigs l).length ≤ 30 := by omega
    have h10 : (10 : Nat) ^ (mDigs l).length ≤ 10 ^ 30 := Nat.pow_le_pow_right (by decide) hp
    have h11 : (10 : Int) ^ (mDigs l).length = ((10 ^ (mDigs l).length : Nat) : Int) := by simp
    show Vanbkh.isValidNumber _ = true
    unfold Vanbkh.isValidNumber
    simp only [Bool.and_eq_true, decide_eq_true_eq]
    split <;> omega
theorem mReadTxt_valid {l : List Int} {c : Vanbkh.Cell} (h : mReadTxt l = some c) : Vanbkh.isValidCell c = true := by
  unfold mReadTxt at h
  split at h
  · cases h
  · split at h
    · rename_i q
      cases h
      exact validText_of q
    · cases h
theorem mReadCell_valid {l : List Int} {c : Vanbkh.Cell} (h : mReadCell l = some c) : Vanbkh.isValidCell c = true := by
  unfold mReadCell at h
  split at h
  · rename_i q
    exact mReadNum_valid q h
  · exact mReadTxt_valid h
theorem mReadRow_ok {l : List Int} {r : List Vanbkh.Cell} (h : mReadRow l = some r) : 1 ≤ r.length ∧ r.length ≤ 8 ∧ ∀ c ∈ r, Vanbkh.isValidCell c = true := by
  unfold mReadRow at h
  split at h
  · rename_i q
    simp only [Bool.and_eq_true, decide_eq_true_eq] at q
    have e := mAll_some h
    have hl := congrArg List.length e
    rw [List.length_map, List.length_map] at hl
    refine ⟨by omega, by omega, fun c hc => ?_⟩
    have : some c ∈ (mFields l).map mCellOf := by rw [e]; exact List.mem_map_of_mem hc
    obtain ⟨f, _, hf⟩ := List.mem_map.mp this
    exact mReadCell_valid hf
  · cases h
theorem mReadRows_ok {ls : List (List Int)} {rows : List (List Vanbkh.Cell)} (h : mReadRows ls = some rows) : rows ≠ [] ∧ rows.length ≤ 25 ∧ ∀ r ∈ rows, r.length = (rows.headD []).length ∧ 1 ≤ r.length ∧ r.length ≤ 8 ∧ ∀ c ∈ r, Vanbkh.isValidCell c = true := by
  unfold mReadRows at h
  split at h
  · rename_i q
    simp only [Bool.and_eq_true, decide_eq_true_eq] at q
    split at h
    · cases h
    · rename_i rows' ha
      split at h
      · cases h
      · rename_i hq
        cases h
        have e := mAll_some ha
        have hl := congrArg List.length e
        rw [List.length_map, List.length_map] at hl
        have hm : (mRowLines ls).length = ls.length - 3 := by
          unfold mRowLines
          rw [List.length_cons, List.length_take, List.length_drop]
          omega
        refine ⟨fun z => ?_, by omega, fun r hr => ?_⟩
        · rw [z, List.length_nil] at hl
          omega
        · have : some r ∈ (mRowLines ls).map mReadRow := by rw [e]; exact List.mem_map_of_mem hr
          obtain ⟨f, _, hf⟩ := List.mem_map.mp this
          obtain ⟨a, b, c⟩ := mReadRow_ok hf
          refine ⟨?_, a, b, c⟩
          simp only [List.any_eq_true, not_exists, not_and, Bool.not_eq_true, Bool.not_eq_false', decide_eq_true_eq] at hq
          exact hq r hr
  · cases h
theorem mTable_VT {ls : List (List Int)} {rows : List (List Vanbkh.Cell)} (h : mReadRows ls = some rows) (ht : ((rows.headD []).all fun c => !Vanbkh.isNumber c) = true) : VT (mTable rows) ∧ rows = mRowsH (mTable rows) := by
  obtain ⟨h1, h2, h3⟩ := mReadRows_ok h
  obtain ⟨r0, rr, rfl⟩ := List.exists_cons_of_ne_nil h1
  have hh : (r0.map Vanbkh.textOf).map Vanbkh.Cell.text = r0 := by
    rw [List.map_map]
    conv => rhs; rw [← List.map_id r0]
    refine List.map_congr_left fun c hc => ?_
    have := List.all_eq_true.mp ht c hc
    cases c with
    | text t => rfl
    | number z => cases this
  have e : r0 :: rr = mRowsH (mTable (r0 :: rr)) := by
    show r0 :: rr = (r0.map Vanbkh.textOf).map Vanbkh.Cell.text :: rr
    rw [hh]
  have q0 := h3 r0 (by simp)
  refine ⟨⟨?_, ?_, ?_, fun r hr => ?_⟩, e⟩
  · show 1 ≤ (r0.map Vanbkh.textOf).length
    rw [List.length_map]
    exact q0.2.1
  · show (r0.map Vanbkh.textOf).length ≤ 8
    rw [List.length_map]
    exact q0.2.2.1
  · show rr.length ≤ 24
    simp at h2
    exact h2
  · rw [← e] at hr
    have q := h3 r hr
    refine ⟨?_, q.2.2.2⟩
    show _ = (r0.map Vanbkh.textOf).length
    rw [List.length_map]
    exact q.1
end Rl
namespace Rl
open PySem L2 Dg
/-! ### paragraphs -/
theorem mCut_nil {α : Type} {n : Nat} (hn : 0 < n) : mCut n ([] : List α) = [] := by
  unfold mCut
  rw [List.length_nil, Nat.div_eq_of_lt (by omega)]
  rfl
theorem mCut_cons {α : Type} {n : Nat} (hn : 0 < n) {l : List α} (h : l ≠ []) : mCut n l = l.take n :: mCut n (l.drop n) := by
  have hl : 0 < l.length := List.length_pos_iff.mpr h
  have e : (l.length + n - 1) / n = ((l.drop n).length + n - 1) / n + 1 := by
    rw [List.length_drop]
    by_cases q : n ≤ l.length
    · have e1 : l.length + n - 1 = (l.length - n + n - 1) + n := by omega
      rw [e1, Nat.add_div_right _ hn]
    · have e1 : l.length - n + n - 1 = n - 1 := by omega
      have e2 : l.length + n - 1 = (l.length - 1) + n := by omega
      rw [e1, e2, Nat.add_div_right _ hn, Nat.div_eq_of_lt (by omega), Nat.div_eq_of_lt (by omega)]
  unfold mCut
  rw [e, List.range_succ_eq_map, List.map_cons, List.map_map]
  congr 1
  · simp
  · refine List.map_congr_left fun i _ => ?_
    show ((l.drop ((i + 1) * n)).take n) = ((l.drop n).drop (i * n)).take n
    rw [List.drop_drop, Nat.add_mul, Nat.one_mul, Nat.add_comm]
theorem mCut_map {α β : Type} (f : α → β) {n : Nat} (l : List α) : mCut n (l.map f) = (mCut n l).map (List.map f) := by
  unfold mCut
  rw [List.length_map, List.map_map]
  refine List.map_congr_left fun i _ => ?_
  show ((l.map f).drop (i * n)).take n = ((l.drop (i * n)).take n).map f
  rw [List.map_take, List.map_drop]
theorem chunks_eq {n : Nat} (hn : 0 < n) : ∀ (k : Nat) {l : List UInt8}, l ≠ [] → l.length ≤ k → Vanbkh.chunks n k l = mCut n l
  | 0, l, h, hk => absurd (List.length_eq_zero_iff.mp (by omega)) h
  | k + 1, l, h, hk => by
    rw [mCut_cons hn h]
    unfold Vanbkh.chunks
    have hl : 0 < l.length := List.length_pos_iff.mpr h
    by_cases q : l.length ≤ n
    · rw [if_pos q, List.drop_eq_nil_of_le q, mCut_nil hn, List.take_of_length_le q]
    · rw [if_neg q]
      congr 1
      exact chunks_eq hn k (fun z => by
        have := congrArg List.length z
        rw [List.length_drop, List.length_nil] at this
        omega) (by rw [List.length_drop]; omega)
theorem words_eq {w : Nat} (hw : 0 < w) (t : List UInt8) : Vanbkh.words w t = (Vanbkh.splitAtByte 32 t).flatMap (mCut w) := by
  unfold Vanbkh.words
  have key : ∀ ps : List (List UInt8), ((ps.filter fun x => !x.isEmpty).flatMap fun x => Vanbkh.chunks w x.length x) = ps.flatMap (mCut w) := by
    intro ps
    induction ps with
    | nil => rfl
    | cons p ps ih =>
      rw [List.flatMap_cons, ← ih]
      cases p with
      | nil =>
        rw [List.filter_cons_of_neg (by simp), mCut_nil hw]
        rfl
      | cons a p =>
        rw [List.filter_cons_of_pos (by simp), List.flatMap_cons, chunks_eq hw _ (by simp) (Nat.le_refl _)]
  exact key _
theorem mCut_len {α : Type} {n : Nat} (hn : 0 < n) (l : List α) : (mCut n l).length ≤ l.length ∧ ∀ p ∈ mCut n l, p.length ≤ n := by
  unfold mCut
  rw [List.length_map, List.length_range]
  refine ⟨?_, fun p hp => ?_⟩
  · by_cases q : l.length = 0
    · rw [q, Nat.div_eq_of_lt (by omega)]
      exact Nat.le_refl _
    · refine Nat.div_le_of_le_mul ?_
      obtain ⟨m, hm⟩ : ∃ m, l.length = m + 1 := ⟨l.length - 1, by omega⟩
      obtain ⟨k, hk⟩ : ∃ k, n = k + 1 := ⟨n - 1, by omega⟩
      rw [hm, hk]
      have : (k + 1) * (m + 1) = k * m + k + m + 1 := by rw [Nat.add_mul, Nat.mul_add]; omega
      omega
  · obtain ⟨i, _, rfl⟩ := List.mem_map.mp hp
    rw [List.length_take]
    omega
theorem split_sum (c : UInt8) : ∀ t : List UInt8, ((Vanbkh.splitAtByte c t).map fun p => p.length + 1).sum = t.length + 1
  | [] => rfl
  | x :: r => by
    have ih := split_sum c r
    unfold Vanbkh.splitAtByte
    cases h : Vanbkh.splitAtByte c r with
    | nil =>
      rw [h] at ih
      simp at ih
    | cons p ps =>
      rw [h] at ih
      simp only [List.map_cons, List.sum_cons] at ih
      simp only
      split
      · simp only [List.map_cons, List.sum_cons, List.length_nil, List.length_cons]
        omega
      · simp only [List.map_cons, List.sum_cons, List.length_cons]
        omega
theorem flatMap_sum {α β : Type} {f : α → List β} {g : α → Nat} : ∀ {l : List α}, (∀ x ∈ l, (f x).length ≤ g x) → (l.flatMap f).length ≤ (l.map g).sum
  | [], _ => by simp
  | x :: l, h => by
    have h1 := h x (by simp)
    have := flatMap_sum (l := l) fun y hy => h y (by simp [hy])
    simp only [List.flatMap_cons, List.length_append, List.map_cons, List.sum_cons]
    omega
theorem split_le (c : UInt8) (t : List UInt8) : (Vanbkh.splitAtByte c t).length ≤ t.length + 1 ∧ ∀ p ∈ Vanbkh.splitAtByte c t, p.length ≤ t.length := by
  have h := split_sum c t
  have key : ∀ ps : List (List UInt8), ps.length ≤ (ps.map fun p => p.length + 1).sum ∧ ∀ p ∈ ps, p.length + 1 ≤ (ps.map fun p => p.length + 1).sum := by
    intro ps
    induction ps with
    | nil => simp
    | cons p ps ih =>
      simp only [List.map_cons, List.sum_cons, List.length_cons]
      refine ⟨by omega, fun q hq => ?_⟩
      rcases List.mem_cons.mp hq with rfl | hq
      · omega
      · have := ih.2 q hq
        omega
  have k := key (Vanbkh.splitAtByte c t)
  rw [h] at k
  exact ⟨k.1, fun p hp => by have := k.2 p hp; omega⟩
theorem words_len {w : Nat} (hw : 0 < w) (t : List UInt8) : (Vanbkh.words w t).length ≤ t.length + 1 ∧ ∀ x ∈ Vanbkh.words w t, x.length ≤ w := by
  rw [words_eq hw]
  refine ⟨?_, fun x hx => ?_⟩
  · have := flatMap_sum (f := mCut (α := UInt8) w) (g := fun p => p.length + 1) (l := Vanbkh.splitAtByte 32 t) fun x _ => by
      have := (mCut_len hw x).1
      omega
    rw [split_sum] at this
    exact this
  · obtain ⟨p, _, hp⟩ := List.mem_flatMap.mp hx
    exact (mCut_len hw p).2 x hp
def pStep (w : Nat) (ls : List (List UInt8)) (x : List UInt8) : List (List UInt8) := if 0 < ls.length ∧ (ls.getLastD []).length + 1 + x.length ≤ w then ls.dropLast ++ [ls.getLastD [] ++ 32 :: x] else ls ++ [x]
def pFill (w : Nat) (xs : List (List UInt8)) : List (List UInt8) := xs.foldl (pStep w) []
theorem pFill_snoc (w : Nat) (xs : List (List UInt8)) (x : List UInt8) : pFill w (xs ++ [x]) = pStep w (pFill w xs) x := by
  unfold pFill
  rw [List.foldl_append]
  rfl
theorem fill_eq (w : Nat) : ∀ (r ls : List (List UInt8)) (l : List UInt8), r.foldl (pStep w) (ls ++ [l]) = ls ++ Vanbkh.fillLines w l r
  | [], ls, l => rfl
  | x :: r, ls, l => by
    rw [List.foldl_cons]
    unfold Vanbkh.fillLines pStep
    have e : (ls ++ [l]).getLastD [] = l := by simp
    rw [e]
    by_cases q : l.length + 1 + x.length ≤ w
    · rw [if_pos ⟨by simp, q⟩, if_pos q, List.dropLast_concat]
      exact fill_eq w r ls _
    · rw [if_neg (fun z => q z.2), if_neg q, List.append_assoc]
      have := fill_eq w r (ls ++ [l]) x
      rw [List.append_assoc] at this
      exact this.trans (by simp)
theorem wrap_eq (w : Nat) (t : List UInt8) : Vanbkh.wrapPart w t = if (pFill w (Vanbkh.words w t)).length = 0 then [[]] else pFill w (Vanbkh.words w t) := by
  unfold Vanbkh.wrapPart
  cases h : Vanbkh.words w t with
  | nil => rfl
  | cons x r =>
    have e : pFill w (x :: r) = Vanbkh.fillLines w x r := fill_eq w r [] x
    have hne : ∀ (r : List (List UInt8)) (x : List UInt8), (Vanbkh.fillLines w x r).length ≠ 0 := by
      intro r
      induction r with
      | nil => intro x; simp [Vanbkh.fillLines]
      | cons y r ih =>
        intro x
        unfold Vanbkh.fillLines
        split
        · exact ih _
        · simp
    rw [e, if_neg (hne r x)]
theorem pFill_len {w : Nat} : ∀ (n : Nat) (xs : List (List UInt8)), xs.length = n → (∀ x ∈ xs, x.length ≤ w) → (pFill w xs).length ≤ xs.length ∧ ∀ l ∈ pFill w xs, l.length ≤ w
  | 0, xs, h, _ => by
    have : xs = [] := List.length_eq_zero_iff.mp h
    subst this
    simp [pFill]
  | n + 1, xs, h, hx => by
    have ne : xs ≠ [] := by intro z; rw [z] at h; cases h
    obtain ⟨m, x, rfl⟩ : ∃ m x, xs = m ++ [x] := ⟨xs.dropLast, xs.getLast ne, (List.dropLast_concat_getLast ne).symm⟩
    obtain ⟨i1, i2⟩ := pFill_len n m (by simpa using h) (fun y hy => hx y (by simp [hy]))
    rw [pFill_snoc]
    unfold pStep
    split
    · rename_i q
      refine ⟨by simp; omega, fun l hl => ?_⟩
      rcases List.mem_append.mp hl with hl | hl
      · exact i2 l ((List.dropLast_sublist _).subset hl)
      · have : l = (pFill w m).getLastD [] ++ 32 :: x := by simpa using hl
        rw [this]
        simp only [List.length_append, List.length_cons]
        omega
    · refine ⟨by simp; omega, fun l hl => ?_⟩
      rcases List.mem_append.mp hl with hl | hl
      · exact i2 l hl
      · have : l = x := by simpa using hl
        rw [this]
        exact hx x (by simp)
theorem wrap_len {w : Nat} (hw : 0 < w) (t : List UInt8) : (Vanbkh.wrapPart w t).length ≤ t.length + 1 ∧ ∀ l ∈ Vanbkh.wrapPart w t, l.length ≤ w := by
  have h1 := words_len hw t
  have h2 := pFill_len (w := w) _ (Vanbkh.words w t) rfl h1.2
  rw [wrap_eq]
  split
  · exact ⟨by simp, by simp⟩
  · exact ⟨by omega, h2.2⟩
theorem para_len {w : Nat} (hw : 0 < w) (t : List UInt8) : (Vanbkh.paragraphLines w t).length ≤ t.length + 1 ∧ ∀ l ∈ Vanbkh.paragraphLines w t, l.length ≤ w := by
  unfold Vanbkh.paragraphLines
  refine ⟨?_, fun l hl => ?_⟩
  · have := flatMap_sum (f := Vanbkh.wrapPart w) (g := fun p => p.length + 1) (l := Vanbkh.splitAtByte 10 t) fun x _ => (wrap_len hw x).1
    rw [split_sum] at this
    exact this
  · obtain ⟨p, _, hp⟩ := List.mem_flatMap.mp hl
    exact (wrap_len hw p).2 l hp
end Rl
namespace Rl
open PySem L2 Dg
/-! ### bars and plots -/
theorem fold_maxI : ∀ (l : List Int) (a : Int), a ≤ l.foldl max a ∧ (∀ x ∈ l, x ≤ l.foldl max a) ∧ (l.foldl max a = a ∨ l.foldl max a ∈ l)
  | [], a => ⟨Int.le_refl _, by simp, .inl rfl⟩
  | b :: l, a => by
    obtain ⟨h1, h2, h3⟩ := fold_maxI l (max a b)
    refine ⟨?_, fun x hx => ?_, ?_⟩
    · show a ≤ l.foldl max (max a b)
      omega
    · show x ≤ l.foldl max (max a b)
      rcases List.mem_cons.mp hx with rfl | hx
      · omega
      · exact h2 x hx
    · show l.foldl max (max a b) = a ∨ l.foldl max (max a b) ∈ b :: l
      rcases h3 with h3 | h3
      · rw [h3]
        by_cases h : a ≤ b
        · exact .inr (by rw [show max a b = b by omega]; simp)
        · exact .inl (by omega)
      · exact .inr (List.mem_cons_of_mem _ h3)
theorem fold_minI : ∀ (l : List Int) (a : Int), l.foldl min a ≤ a ∧ (∀ x ∈ l, l.foldl min a ≤ x) ∧ (l.foldl min a = a ∨ l.foldl min a ∈ l)
  | [], a => ⟨Int.le_refl _, by simp, .inl rfl⟩
  | b :: l, a => by
    obtain ⟨h1, h2, h3⟩ := fold_minI l (min a b)
    refine ⟨?_, fun x hx => ?_, ?_⟩
    · show l.foldl min (min a b) ≤ a
      omega
    · show l.foldl min (min a b) ≤ x
      rcases List.mem_cons.mp hx with rfl | hx
      · omega
      · exact h2 x hx
    · show l.foldl min (min a b) = a ∨ l.foldl min (min a b) ∈ b :: l
      rcases h3 with h3 | h3
      · rw [h3]
        by_cases h : a ≤ b
        · exact .inl (by omega)
        · exact .inr (by rw [show min a b = b by omega]; simp)
      · exact .inr (List.mem_cons_of_mem _ h3)
theorem greatest_spec {l : List Int} (h : l ≠ []) : Vanbkh.greatest l ∈ l ∧ ∀ y ∈ l, y ≤ Vanbkh.greatest l := by
  obtain ⟨a, r, rfl⟩ := List.exists_cons_of_ne_nil h
  obtain ⟨h1, h2, h3⟩ := fold_maxI r a
  refine ⟨?_, fun y hy => ?_⟩
  · show r.foldl max a ∈ a :: r
    rcases h3 with h3 | h3
    · rw [h3]; simp
    · exact List.mem_cons_of_mem _ h3
  · show y ≤ r.foldl max a
    rcases List.mem_cons.mp hy with rfl | hy
    · exact h1
    · exact h2 y hy
theorem least_spec {l : List Int} (h : l ≠ []) : Vanbkh.least l ∈ l ∧ ∀ y ∈ l, Vanbkh.least l ≤ y := by
  obtain ⟨a, r, rfl⟩ := List.exists_cons_of_ne_nil h
  obtain ⟨h1, h2, h3⟩ := fold_minI r a
  refine ⟨?_, fun y hy => ?_⟩
  · show r.foldl min a ∈ a :: r
    rcases h3 with h3 | h3
    · rw [h3]; simp
    · exact List.mem_cons_of_mem _ h3
  · show r.foldl min a ≤ y
    rcases List.mem_cons.mp hy with rfl | hy
    · exact h1
    · exact h2 y hy
def VB (l : List (List UInt8 × Int)) : Prop := l.length ≤ 20 ∧ ∀ b ∈ l, b.1.length ≤ 200 ∧ 0 ≤ b.2 ∧ b.2 < 10 ^ 18
def barT (l : List (List UInt8 × Int)) : Nat := max 1 (min 12 (Vanbkh.maximum (l.map fun x => (Vanbkh.singleLine x.1).length)))
def barN (l : List (List UInt8 × Int)) : Nat := Vanbkh.maximum (l.map fun x => (Vanbkh.decimal x.2).length)
def barR (w : Nat) (l : List (List UInt8 × Int)) : Nat := w - barT l - barN l - 2
def barM (l : List (List UInt8 × Int)) : Int := Vanbkh.greatest (l.map fun x => x.2)
def barK (w : Nat) (l : List (List UInt8 × Int)) (x : List UInt8 × Int) : Nat := if barM l = 0 then 0 else (x.2 * (barR w l : Nat) / barM l).toNat
def barF (w : Nat) (l : List (List UInt8 × Int)) (x : List UInt8 × Int) : List UInt8 :=
  Vanbkh.truncate w (Vanbkh.padRight (barT l) (Vanbkh.truncate (barT l) (Vanbkh.singleLine x.1)) ++ [32] ++ Vanbkh.padRight (barR w l) (List.replicate (barK w l x) 61) ++ [32] ++ Vanbkh.padLeft (barN l) (Vanbkh.decimal x.2))
theorem barLines_eq (w : Nat) (l : List (List UInt8 × Int)) (h : ¬ l = []) : Vanbkh.barLines w l = l.map (barF w l) := by
  unfold Vanbkh.barLines
  rw [if_neg (by simpa using h)]
  rfl
theorem barT_bd (l : List (List UInt8 × Int)) : 1 ≤ barT l ∧ barT l ≤ 12 := by
  unfold barT
  omega
theorem barN_bd {l : List (List UInt8 × Int)} (h : VB l) (hne : l ≠ []) : 1 ≤ barN l ∧ barN l ≤ 19 := by
  have := maximum_mem (l := l.map fun x => (Vanbkh.decimal x.2).length) (by simpa using hne)
  obtain ⟨x, hx, e⟩ := List.mem_map.mp this
  have e' : (Vanbkh.decimal x.2).length = barN l := e
  have hb := h.2 x hx
  have := decimal_len (z := x.2) (k := 18) (by omega) (by decide)
  have := decimal_pos x.2
  omega
theorem barK_le {w : Nat} {l : List (List UInt8 × Int)} (h : VB l) {x : List UInt8 × Int} (hx : x ∈ l) : barK w l x ≤ barR w l ∧ (barK w l x : Int) = (if barM l = 0 then 0 else x.2 * (barR w l : Nat) / barM l) ∧ 0 ≤ barM l ∧ barM l < 10 ^ 18 := by
  have ne : (l.map fun x => x.2) ≠ [] := by
    intro z
    have q := congrArg List.length z
    rw [List.length_map, List.length_nil] at q
    have := List.length_pos_of_mem hx
    omega
  obtain ⟨g1, g2⟩ := greatest_spec ne
  have hxm := g2 x.2 (List.mem_map_of_mem hx)
  have hb := h.2 x hx
  obtain ⟨y, hy, ey⟩ := List.mem_map.mp g1
  have hyb := h.2 y hy
  have em : y.2 = barM l := ey
  have hxm' : x.2 ≤ barM l := hxm
  unfold barK
  split
  · rename_i q
    exact ⟨Nat.zero_le _, rfl, by omega, by omega⟩
  · rename_i q
    have pos : 0 < barM l := by omega
    have nn : 0 ≤ x.2 * (barR w l : Nat) / barM l := Int.ediv_nonneg (Int.mul_nonneg hb.2.1 (by omega)) (by omega)
    have le : x.2 * (barR w l : Nat) / barM l ≤ (barR w l : Nat) := by
      have h1 : x.2 * (barR w l : Nat) ≤ barM l * (barR w l : Nat) := Int.mul_le_mul_of_nonneg_right hxm' (by omega)
      have h2 := Int.ediv_le_ediv pos h1
      rw [Int.mul_ediv_cancel_left _ (by omega)] at h2
      exact h2
    exact ⟨by omega, by omega, by omega, by omega⟩
theorem padR_len {n : Nat} {l : List UInt8} (h : l.length ≤ n) : (Vanbkh.padRight n l).length = n := by
  unfold Vanbkh.padRight Vanbkh.spaces
  simp
  omega
theorem padL_len {n : Nat} {l : List UInt8} (h : l.length ≤ n) : (Vanbkh.padLeft n l).length = n := by
  unfold Vanbkh.padLeft Vanbkh.spaces
  simp
  omega
theorem barLines_len {w : Nat} (hw : 20 ≤ w) {l : List (List UInt8 × Int)} (h : VB l) : (Vanbkh.barLines w l).length ≤ 21 ∧ ∀ x ∈ Vanbkh.barLines w l, x.length ≤ w := by
  by_cases q : l = []
  · subst q
    have e : Vanbkh.barLines w [] = [Vanbkh.ascii "(no bars)"] := rfl
    rw [e]
    refine ⟨by simp, fun x hx => ?_⟩
    have : x = Vanbkh.ascii "(no bars)" := by simpa using hx
    rw [this]
    exact Nat.le_trans (by decide : _ ≤ 20) hw
  · rw [barLines_eq w l q]
    refine ⟨by rw [List.length_map]; have := h.1; omega, fun x hx => ?_⟩
    obtain ⟨y, _, rfl⟩ := List.mem_map.mp hx
    exact truncate_len _ (by omega)
end Rl
namespace Dg
open PySem PySem.Spec PyProof.Rows L2
section
variable {K : PySem.W.Frag} {B : Bs} {G G' H H' : Hp} {σ : L2.St} {δ : List Sl} {X Y : List Addr} {ta tb te tx : TE} {tt : TT} {d e : D} {t u : TS} {P : Po}
theorem SA.perm (S : SA K B G H σ δ X) (h : X.Perm Y) : SA K B G H σ δ Y := by
  obtain ⟨F, s1, s2, s3, s4⟩ := S.sl
  have pe : (F ++ X).Perm (F ++ Y) := List.Perm.append_left F h
  exact ⟨S.rel, F, s1, pe.nodup_iff.mp s2, fun c m => s3 c (pe.mem_iff.mpr m), fun c m => s4 c (h.mem_iff.mpr m)⟩
/-- a slot's own list is taken out -/
theorem SA.take1 {i : Nat} {ds : List D} (S : SA K B G H σ δ X) (h : δ[i]? = some (.own ds)) : ∃ p vs, σ[i]? = some (some (.ref p)) ∧ H p = some (.lst vs) ∧ Ats K G vs ds ∧ SA K B G H σ (δ.set i .un) (p :: X) := by
  obtain ⟨F, s1, s2, s3, s4⟩ := S.sl
  obtain ⟨o, F1, Fi, F2, e1, e2, x, k⟩ := s1.cut h
  subst e1
  cases x with
  | own n a b =>
    rename_i p vs
    have q := k H (some (.ref p)) .un [] (fun a u e _ => e) .un
    rw [set_self e2] at q
    refine ⟨p, vs, e2, a, b, S.rel, _, q, ?_, fun c m => s3 c ?_, fun c m => ?_⟩
    · have e : (F1 ++ ([] ++ F2) ++ p :: X).Perm (F1 ++ ([p] ++ F2) ++ X) := by
        simp only [List.nil_append, List.append_assoc, List.singleton_append]
        exact List.Perm.append_left F1 List.perm_middle
      rw [e.nodup_iff]
      exact s2
    · simp only [List.nil_append, List.mem_append, List.mem_cons, List.singleton_append] at m ⊢
      rcases m with (m | m) | m | m
      · exact .inl (.inl m)
      · exact .inl (.inr (.inr m))
      · exact .inl (.inr (.inl m))
      · exact .inr m
    · rcases List.mem_cons.mp m with rfl | m
      · exact n
      · exact s4 c m
/-- a def that answers a list of the caller's own -/
def SDN (K : PySem.W.Frag) (B : Bs) (δ : List Sl) (ts : TS) (ds : List D) : Prop := ∀ G H σ, SA K B G H σ δ [] → ∀ E : Ends,
  (∀ p vs G' H' σ' δ', Ex G G' → SA K B G' H' σ' δ' [p] → H' p = some (.lst vs) → Ats K G' vs ds → E.rt (.ref p) H') → ts E σ H
theorem sdn_seq {ds : List D} (h : SD K B δ t { n := fun δ' => SDN K B δ' u ds, r := fun _ _ => False }) : SDN K B δ (tSeq t u) ds := fun G H σ S E k =>
  h G H σ S { E with nx := u E } (fun G' H' σ' δ' a b c => c G' H' σ' b E (fun p vs G2 H2 σ2 δ2 a2 b2 c2 d2 => k p vs G2 H2 σ2 δ2 (a.trans a2) b2 c2 d2)) (fun _ _ _ _ _ _ _ _ _ z => z.elim) (fun _ _ _ _ _ _ z => z.elim) (fun _ _ _ _ _ _ z => z.elim)
theorem sdn_ret {i : Nat} {ds : List D} (h : δ[i]? = some (.own ds)) : SDN K B δ (tRet (tVar i)) ds := fun G H σ S E k => by
  obtain ⟨p, vs, e1, e2, e3, S2⟩ := S.take1 h
  exact ⟨_, e1, k p vs _ _ _ _ (Ex.refl _) S2 e2 e3⟩
theorem sdn_frz (i : Nat) {es ds : List D} (hi : δ[i]? = some (.own es)) (h : SDN K B (δ.set i (.sh (.lst es))) t ds) : SDN K B δ t ds := fun G H σ S E k => by
  obtain ⟨G', e, S'⟩ := S.frz hi
  exact h G' H σ S' E (fun p vs G2 H2 σ2 δ2 a2 b2 c2 d2 => k p vs G2 H2 σ2 δ2 (e.trans a2) b2 c2 d2)
def spN (K : PySem.W.Frag) (R : List D → List D → Prop) : Sp := fun vs H Q _ => ∃ G ds l, Ex G H ∧ Ats K G vs ds ∧ R ds l ∧
  ∀ p us G' H', Ex G G' → Ex H H' → Ex G' H' → (∀ a o, H a = some o → G a = none → G' a = none) → H p = none → G' p = none → H' p = some (.lst us) → Ats K G' us l → Q (.ref p) H'
theorem fn_new {Pr : Program} {w : World} {mg : Str → Option Value} {base : Heap} {x qual : Str} {params : Arguments} {body : List Stmt} {scope : Scope} {dvs : List V} {kws : List (Str × V)} {f : Addr} {fd : FuncData} {N ps : List Str} {k : Nat} {R : List D → List D → Prop}
    (F : FunD K x qual params body scope dvs kws f fd) (S : FnScope N ps scope) (len : ∀ ds d, R ds d → ds.length = ps.length)
    (hbody : ∀ (cdv : Value) (A : Around) (outer : List Env) (s : Shared) (H : Hp) (E : XK), Room k (A.deeper (envOfC qual scope s.heap.objs.size f cdv)) →
      ∃ t, PSs (cxOf CX0 Pr w K mg base N qual scope f cdv A outer s H E).nox body t ∧ ∀ B ds d, R ds d → SDN K B (entry N ds) t d) : FnOk Pr w K mg base CX0 (k + 1) f fd ps (spN K R) := by
  refine F.ok S (fun vs H Q E h => ?_) (fun cdv A outer s H vs Q E hr h => ?_)
  · obtain ⟨G, ds, d, _, a, r, _⟩ := h
    rw [a.length]
    exact len ds d r
  · obtain ⟨t, ht, hs⟩ := hbody cdv A outer s H E hr
    refine ⟨t, PSs.nox ht, ?_⟩
    obtain ⟨G, ds, d, e, a, r, q⟩ := h
    refine hs ⟨G, H, fun _ => False⟩ ds d r G H _ (sa_entry e a) _ (fun p vs G' H' σ' δ' e1 S' hp ap => ?_)
    obtain ⟨F, s1, s2, s3, s4⟩ := S'.sl
    exact q p vs G' H' e1 (fun b o hb => S'.rel.h b o hb (fun z => z)) S'.rel.s (fun b o hb hg => S'.rel.f b o hb hg) (s4 p (by simp)) (s3 p (by simp)).1 hp ap
theorem en_callN {ta : TA} {R : List D → List D → Prop} {E : XK} {ds l : List D} (h : EA K B δ ta ds) (hR : R ds l) : EN K B δ (tCall (spN K R) [] E ta) l := fun G H σ X S Q k =>
  h G H σ X S _ fun vs G1 H1 e1 e2 S1 a => by
    rw [List.append_nil]
    refine ⟨G1, ds, l, S1.rel.s, a, hR, fun p us G' H' f1 f2 f3 f4 hp hp' hu au => k p us G' H' (e1.trans f1) (e2.trans f2) ?_ hu au⟩
    have S2 := S1.after f1 f2 f3 f4
    obtain ⟨F, s1, s2, s3, s4⟩ := S2.sl
    obtain ⟨F', t1, t2, t3, t4⟩ := S1.sl
    have nH : H' p ≠ none := by rw [hu]; simp
    refine ⟨S2.rel, F', t1.mono f1 f2, ?_, fun c m => ?_, fun c m => ?_⟩
    · have np : p ∉ F' ++ X := fun m => (t3 p m).2 hp
      have pe : (F' ++ p :: X).Perm (p :: (F' ++ X)) := List.perm_middle
      rw [pe.nodup_iff]
      exact List.nodup_cons.mpr ⟨np, t2⟩
    · rcases (List.perm_middle (a := p) (l₁ := F') (l₂ := X)).mem_iff.mp m with m
      rcases List.mem_cons.mp m with rfl | m
      · exact ⟨hp', nH⟩
      · obtain ⟨q1, q2⟩ := t3 c m
        cases z : H1 c with
        | none => exact absurd z q2
        | some o => exact ⟨f4 c o z q1, by rw [f2 c o z]; simp⟩
    · rcases List.mem_cons.mp m with rfl | m
      · cases z : B.H0 c with
        | none => rfl
        | some o => exact absurd hp (S1.rel.t c (by rw [z]; simp))
      · exact t4 c m
/-! ### sum, max, index of a list of one's own -/
theorem ed_sumO {i : Nat} {ns : List Int} (h : δ[i]? = some (.own (dI ns))) : ED K B δ (tCB (rSum K) (tCons (tVar i) tNil)) (.int ns.sum) := fun G H σ X S Q k => by
  obtain ⟨p, vs, e1, e2, e3, _, _⟩ := S.own h
  refine ⟨_, e1, p, ns, rfl, .of ?_, k _ _ _ (Ex.refl _) (Ex.refl _) S .int⟩
  rw [← e3.ints_eq]
  exact e2
theorem ed_maxO {i : Nat} {ns : List Int} {m : Int} (h : δ[i]? = some (.own (dI ns))) (hm : m ∈ ns) (hle : ∀ y ∈ ns, y ≤ m) : ED K B δ (tCB (rMax K) (tCons (tVar i) tNil)) (.int m) := fun G H σ X S Q k => by
  obtain ⟨p, vs, e1, e2, e3, _, _⟩ := S.own h
  refine ⟨_, e1, p, ns, rfl, .of ?_, List.length_pos_of_mem hm, fun m' q1 q2 => ?_⟩
  · rw [← e3.ints_eq]
    exact e2
  · have : m' = m := Int.le_antisymm (hle m' q1) (q2 m hm)
    subst this
    exact k _ _ _ (Ex.refl _) (Ex.refl _) S .int
end
end Dg
namespace Dg
open PySem PySem.Spec PyProof.Rows L2
section
variable {K : PySem.W.Frag} {B : Bs} {G G' H H' : Hp} {σ : L2.St} {δ : List Sl} {X Y : List Addr} {ta tb tc te tx : TE} {tt : TT} {d e : D} {t u : TS} {P : Po}
theorem ed_indexO {i j : Nat} {ns : List Int} {m : Int} (h : δ[i]? = some (.own (dI ns))) (hm : ED K B δ te (.int m)) (hj : ns[j]? = some m) (hl : ∀ k, k < j → ns[k]? ≠ some m) :
    ED K B δ (tBM K "list" (rIndex K) (tVar i) (tCons te tNil)) (.int j) := fun G H σ X S Q k => by
  obtain ⟨p, vs, e1, e2, e3, _, _⟩ := S.own h
  refine ⟨_, e1, .inl ⟨rfl, _, .of e2⟩, ea_cons hm ea_nil G H σ X S _ fun xs G1 H1 f1 f2 S1 a => ?_⟩
  obtain ⟨x, rfl, a1⟩ := a.one
  have ex := a1.int_eq
  subst ex
  have ev := e3.ints_eq
  subst ev
  refine ⟨p, ns.map V.int, .int m, j, .int m, rfl, rfl, .of (f2 _ _ e2), rfl, ?_, ?_, ?_, fun q z hq hz => ?_, k _ _ _ f1 f2 S1 .int⟩
  · rw [List.all_map]
    exact List.all_eq_true.mpr fun _ _ => rfl
  · rw [List.getElem?_map, hj]
    rfl
  · show decide (m = m) = true
    simp
  · rw [List.getElem?_map] at hz
    cases w : ns[q]? with
    | none => rw [w] at hz; cases hz
    | some y =>
      rw [w] at hz
      cases hz
      show decide (y = m) = false
      have := hl q hq
      rw [w] at this
      simpa using this
/-- an item of a list within -/
theorem ed_ix2 {i k : Nat} {dss : List (List D)} {ds : List D} {z y : Int} (hi : δ[i]? = some (.ow2 dss)) (hz : ED K B δ tb (.int z)) (hy : ED K B δ tc (.int y)) (hk : ixN dss.length z = some k) (hd : dss[k]? = some ds) (hv : atI ds y = some d) :
    ED K B δ (tOp (rIxL K) (tOp (rIxL K) (tVar i) tb) tc) d := fun G H σ X S Q kk => by
  obtain ⟨p, qs, q0, vs, e1, e2, e3, e4, e5, e6, _⟩ := S.ow2 hi hd
  refine ⟨_, e1, hz G H σ X S _ fun v G1 H1 f1 f2 S1 a => ?_⟩
  refine ⟨p, _, z, .ref q0, rfl, a.int_eq, .of (f2 _ _ e2), ?_, hy G1 H1 σ X S1 _ fun w G2 H2 f3 f4 S2 b => ?_⟩
  · unfold L2.atI
    rw [List.length_map, e3, hk]
    show (qs.map V.ref)[k]? = _
    rw [List.getElem?_map, e4]
    rfl
  · obtain ⟨u, q1, q2⟩ := (e6.mono (f1.trans f3)).atI hv
    exact ⟨q0, vs, y, u, rfl, b.int_eq, .of (f4 _ _ (f2 _ _ e5)), q1, kk _ _ _ (f1.trans f3) (f2.trans f4) S2 q2⟩
theorem sd_setitem2 {i k j : Nat} {dss : List (List D)} {ds : List D} {z y : Int} (hi : δ[i]? = some (.ow2 dss)) (h : ED K B δ te d) (hz : ED K B δ tb (.int z)) (hy : ED K B δ tc (.int y)) (hk : ixN dss.length z = some k) (hd : dss[k]? = some ds) (hj : ixN ds.length y = some j)
    (q : P.n (δ.set i (.ow2 (dss.set k (ds.set j d))))) : SD K B δ (tAsg te (gSub (tOp (rIxL K) (tVar i) tb) tc rSetL)) P := fun G H σ S E k1 k2 k3 k4 =>
  h G H σ [] S _ fun v G0 H0 g1 g2 S0 av => by
    obtain ⟨p, qs, q0, vs, e1, e2, e3, e4, e5, e6, _⟩ := S0.ow2 hi hd
    refine ⟨_, e1, hz G0 H0 σ [] S0 _ fun v G1 H1 f1 f2 S1 a => ?_⟩
    refine ⟨p, _, z, .ref q0, rfl, a.int_eq, .of (f2 _ _ e2), ?_, hy G1 H1 σ [] S1 _ fun w G2 H2 f3 f4 S2 b => ?_⟩
    · unfold L2.atI
      rw [List.length_map, e3, hk]
      show (qs.map V.ref)[k]? = _
      rw [List.getElem?_map, e4]
      rfl
    · obtain ⟨p', qs', q', vs', g1', g2', g3', g4', g5', g6', w'⟩ := S2.ow2 hi hd
      rw [e1] at g1'
      cases g1'
      have eqs : qs' = qs := refs_inj (HO.lst.inj (Option.some.inj ((g2'.symm.trans (f4 _ _ (f2 _ _ e2))))))
      subst eqs
      rw [e4] at g4'
      cases g4'
      refine ⟨q0, vs', y, j, rfl, b.int_eq, g5', by rw [g6'.length]; exact hj, ?_⟩
      exact k1 _ _ _ _ ((g1.trans f1).trans f3) (w' _ _ (g6'.set (av.mono (f1.trans f3)) j)) q
/-- [[..] for x in ..] -/
def EN2 (K : PySem.W.Frag) (B : Bs) (δ : List Sl) (te : TE) (dss : List (List D)) : Prop := ∀ G H σ X, SA K B G H σ δ X → ∀ Q : VK, (∀ p qs G' H', Ex G G' → Ex H H' → SA K B G' H' σ δ (p :: (qs ++ X)) → H' p = some (.lst (qs.map V.ref)) → Paired (fun q ds => ∃ vs, H' q = some (.lst vs) ∧ Ats K G' vs ds) qs dss → Q (.ref p) H') → te σ H Q
theorem paired_mono {e : Ex G G'} {e' : Ex H H'} {qs : List Addr} {dss : List (List D)} (h : Paired (fun q ds => ∃ vs, H q = some (.lst vs) ∧ Ats K G vs ds) qs dss) : Paired (fun q ds => ∃ vs, H' q = some (.lst vs) ∧ Ats K G' vs ds) qs dss :=
  Paired.mapP h fun q ds ⟨vs, a, b⟩ => ⟨vs, e' _ _ a, b.mono e⟩
theorem sd_asgN2 {i : Nat} {dss : List (List D)} (h : EN2 K B δ te dss) (hi : i < δ.length) (q : P.n (δ.set i (.ow2 dss))) : SD K B δ (tAsg te (gName i)) P := fun G H σ S E k1 k2 k3 k4 =>
  h G H σ [] S _ fun p qs G' H' e1 e2 S' hp b => by
    refine k1 G' _ _ _ e1 ?_ q
    obtain ⟨F, s1, s2, s3, s4⟩ := S'.sl
    obtain ⟨o, F1, Fi, F2, f1, f2, x, k⟩ := s1.cut (i := i) (s := δ[i]) (by simp [hi])
    subst f1
    have k' := k H' (some (.ref p)) (.ow2 dss) (p :: qs) (fun a u e _ => e) (.ow2 (fun c m => s4 c (by simpa using m)) hp b)
    refine ⟨S'.rel, _, k', ?_, fun c m => s3 c ?_, fun c m => by simp at m⟩
    · have e : (F1 ++ ((p :: qs) ++ F2) ++ []).Perm (F1 ++ (F2 ++ p :: (qs ++ []))) := by
        rw [List.append_nil, List.append_nil]
        exact List.Perm.append_left F1 List.perm_append_comm
      rw [e.nodup_iff]
      simp only [List.append_assoc] at s2
      exact s2.sublist ((List.Sublist.refl F1).append (List.sublist_append_right Fi _))
    · simp only [List.mem_append, List.mem_cons, List.not_mem_nil, or_false] at m ⊢
      rcases m with m | (m | m) | m
      · exact .inl (.inl m)
      · exact .inr (.inl m)
      · exact .inr (.inr m)
      · exact .inl (.inr (.inr m))
theorem foot_sub : ∀ {σ : L2.St} {δ : List Sl} {F F' : List Addr} {G G' H H' : Hp} {j : Nat} {d : D} {s : Sl} {v : V}, SlsA K B G H σ δ F → δ[j]? = some s → s.flat = true → Ex H H' → SlsA K B G' H' (σ.set j (some v)) (δ.set j (.sh d)) F' → ∀ p ∈ F, p ∈ F' := by
  intro σ δ F F' G G' H H' j d s v a hj hf hH b
  induction a generalizing j F' with
  | nil => simp at hj
  | @cons o s0 σ δ F1 F2 x y ih =>
    cases j with
    | zero =>
      have e : s0 = s := by simpa using hj
      subst e
      have b' : SlsA K B G' H' (some v :: σ) (.sh d :: δ) F' := b
      cases b' with
      | cons x' y' =>
        have hx : F1 = [] := by
          cases x with
          | un => rfl
          | sh a => rfl
          | own => cases hf
          | ow2 => cases hf
          | st => cases hf
          | al => cases hf
          | oi => cases hf
        subst hx
        cases x'
        have same : ∀ {σ : L2.St} {δ : List Sl} {F F' : List Addr}, SlsA K B G H σ δ F → SlsA K B G' H' σ δ F' → F = F' := by
          intro σ δ F F' a
          induction a generalizing F' with
          | nil => intro b; cases b; rfl
          | cons x y ih =>
            intro b
            cases b with
            | cons x' y' =>
              rw [ih y']
              congr 1
              cases x with
              | un => cases x'; rfl
              | sh a => cases x'; rfl
              | own n a b => cases x'; rfl
              | ow2 n a b =>
                cases x' with
                | ow2 n' a' b' =>
                  have q := hH _ _ a
                  rw [a'] at q
                  have q1 : List.map V.ref _ = List.map V.ref _ := HO.lst.inj (Option.some.inj q)
                  have q2 := refs_inj q1
                  rw [q2]
              | st n a b => cases x'; rfl
              | al => cases x'; rfl
              | oi n a => cases x'; rfl
        intro p hp
        rw [← same y y']
        exact hp
    | succ j =>
      have b' : SlsA K B G' H' (o :: σ.set j (some v)) (s0 :: δ.set j (.sh d)) F' := b
      cases b' with
      | @cons _ _ _ _ F3 F4 x' y' =>
        intro p hp
        rcases List.mem_append.mp hp with hp | hp
        · have e : F1 = F3 := by
            cases x with
            | un => cases x'; rfl
            | sh a => cases x'; rfl
            | own n a b => cases x'; rfl
            | ow2 n a b =>
              cases x' with
              | ow2 n' a' b' =>
                have q := hH _ _ a
                rw [a'] at q
                have q1 : List.map V.ref _ = List.map V.ref _ := HO.lst.inj (Option.some.inj q)
                have q2 := refs_inj q1
                rw [q2]
            | st n a b => cases x'; rfl
            | al => cases x'; rfl
            | oi n a => cases x'; rfl
          rw [← e]
          exact List.mem_append_left _ hp
        · exact List.mem_append_right _ (ih (by simpa using hj) y' p hp)
theorem en2_lc {wi : TI} {n : Nat} {f : Nat → D} {g : Nat → List D} {j : Nat} {s : Sl} (w : DW K B δ wi n f) (hj : δ[j]? = some s) (hf : s.flat = true) (he : ∀ i, i < n → EN K B (δ.set j (.sh (f i))) te (g i)) (hz : n ≤ 16000000) :
    EN2 K B δ (tLc wi (gName j) tYes te [j]) ((List.range n).map g) := fun G H σ X S Q k => by
  have hlt : j < δ.length := (List.getElem?_eq_some_iff.mp hj).1
  refine w G H σ X S _ fun J G1 H1 e1 e2 S1 wk D hD => ?_
  refine lc_it wk (fun i H' => ∃ G' qs, Ex G1 G' ∧ Ex H1 H' ∧ SA K B G' H' σ δ (D :: (qs ++ X)) ∧ H' D = some (.lst (qs.map V.ref)) ∧ Paired (fun q ds => ∃ vs, H' q = some (.lst vs) ∧ Ats K G' vs ds) qs ((List.range i).map g)) ⟨G1, [], Ex.refl _, Ex.new hD, S1.mine hD, upd_same, .nil⟩
    (fun i H' _ ⟨G', qs, a, _, b, _⟩ => a.trans b.rel.s) ?_ ?_
  · rintro i x H2 H3 hi ⟨G', qs, a, aH, b, c, l⟩ y
    have fin : ∀ G2, Ex G' G2 → Ex H2 H3 → SA K B G2 H3 σ δ (D :: (qs ++ X)) → At K G2 x (f i) → gName j x (L2.wipe σ [j]) H3 fun σ2 H4 => L2.wipe σ2 [j] = L2.wipe σ [j] ∧ tYes σ2 H4 fun b H5 =>
        if b = true then te σ2 H5 fun y H6 => ∃ acc, H6 D = some (.lst acc) ∧ acc.length < sizeLine ∧ ∃ G' qs, Ex G1 G' ∧ Ex H1 (upd H6 D (.lst (acc ++ [y]))) ∧ SA K B G' (upd H6 D (.lst (acc ++ [y]))) σ δ (D :: (qs ++ X)) ∧ (upd H6 D (.lst (acc ++ [y]))) D = some (.lst (qs.map V.ref)) ∧ Paired (fun q ds => ∃ vs, (upd H6 D (.lst (acc ++ [y]))) q = some (.lst vs) ∧ Ats K G' vs ds) qs ((List.range (i + 1)).map g)
        else ∃ G' qs, Ex G1 G' ∧ Ex H1 H5 ∧ SA K B G' H5 σ δ (D :: (qs ++ X)) ∧ H5 D = some (.lst (qs.map V.ref)) ∧ Paired (fun q ds => ∃ vs, H5 q = some (.lst vs) ∧ Ats K G' vs ds) qs ((List.range (i + 1)).map g) := fun G2 ex2 exH S2 at2 => by
      refine ⟨?_, ?_⟩
      · show ((((L2.wipe σ []).set j none).set j (some x)).set j none) = (L2.wipe σ []).set j none
        rw [List.set_set, List.set_set]
      · show te _ H3 _
        refine he i hi G2 H3 _ (D :: (qs ++ X)) (S2.wipe hlt at2) _ fun p us G4 H4 e5 e6 S4 hp au => ?_
        -- the new list p, ahead of D
        obtain ⟨F0, u1, u2, u3, u4⟩ := S2.sl
        obtain ⟨F, s1, s2, s3, s4⟩ := S4.sl
        have wi' : (L2.wipe σ [j]).set j (some x) = σ.set j (some x) := by
          show ((L2.wipe σ []).set j none).set j (some x) = σ.set j (some x)
          rw [List.set_set]
          rfl
        have sub : ∀ q ∈ F0, q ∈ F := foot_sub u1 hj hf e6 (by rw [wi'] at s1; exact s1)
        have np : p ∉ F0 ++ D :: (qs ++ X) := fun m => by
          rw [List.nodup_append] at s2
          rcases List.mem_append.mp m with m | m
          · exact s2.2.2 p (sub p m) p (by simp) rfl
          · exact (List.nodup_cons.mp s2.2.1).1 m
        have here : ∀ q ∈ F0 ++ D :: (qs ++ X), G4 q = none ∧ H4 q ≠ none := fun q m => by
          rcases List.mem_append.mp m with m | m
          · exact s3 q (List.mem_append_left _ (sub q m))
          · exact s3 q (List.mem_append_right _ (List.mem_cons_of_mem _ m))
        have hpn := s3 p (by simp)
        have hpB := s4 p (by simp)
        have hD4 : H4 D = some (.lst (qs.map V.ref)) := e6 _ _ (exH _ _ c)
        have pD : p ≠ D := fun z => np (by rw [z]; simp)
        have nqD : D ∉ F0 ++ (qs ++ X) := fun m => by
          have pe : (F0 ++ D :: (qs ++ X)).Perm (D :: (F0 ++ (qs ++ X))) := List.perm_middle
          rw [pe.nodup_iff] at u2
          exact (List.nodup_cons.mp u2).1 m
        have hG4 : G4 D = none := (here D (by simp)).1
        have hBD : B.H0 D = none := u4 D (by simp)
        refine ⟨qs.map V.ref, hD4, sz_lt (by rw [List.length_map, paired_len l, List.length_map, List.length_range]; omega), G4, qs ++ [p], ((a.trans ex2).trans e5), fun q o hq => ?_, ?_, ?_, ?_⟩
        · rw [upd_ne (fun z => by rw [z, hD] at hq; cases hq)]
          exact e6 _ _ (exH _ _ (aH _ _ hq))
        · refine ⟨⟨S4.rel.g, fun q o hq hw => ?_, fun q o hq => ?_, S4.rel.f, fun q hq => ?_⟩, F0, (u1.mono e5 e6).at_ (fun q o hq m => ?_), ?_, fun q m => ?_, fun q m => ?_⟩
          · rw [upd_ne (fun z => by rw [z, hBD] at hq; cases hq)]
            exact S4.rel.h q o hq hw
          · rw [upd_ne (fun z => by rw [z, hG4] at hq; cases hq)]
            exact S4.rel.s q o hq
          · by_cases z : q = D
            · rw [z, upd_same]
              simp
            · rw [upd_ne z]
              exact S4.rel.t q hq
          · rw [upd_ne (fun z => nqD (by rw [← z]; exact List.mem_append_left _ m))]
            exact hq
          · have pe : (F0 ++ D :: (qs ++ [p] ++ X)).Perm (p :: (F0 ++ D :: (qs ++ X))) := by
              have e1 : D :: (qs ++ [p] ++ X) = (D :: qs) ++ p :: X := by simp
              have e2 : F0 ++ D :: (qs ++ X) = (F0 ++ D :: qs) ++ X := by simp
              rw [e1, e2, ← List.append_assoc]
              exact List.perm_middle
            rw [pe.nodup_iff]
            exact List.nodup_cons.mpr ⟨np, u2⟩
          · have m' : q = p ∨ q ∈ F0 ++ D :: (qs ++ X) := by
              simp only [List.mem_append, List.mem_cons, List.not_mem_nil, or_false] at m ⊢
              rcases m with m | m | (m | m) | m
              · exact .inr (.inl m)
              · exact .inr (.inr (.inl m))
              · exact .inr (.inr (.inr (.inl m)))
              · exact .inl m
              · exact .inr (.inr (.inr (.inr m)))
            have r : G4 q = none ∧ H4 q ≠ none := by
              rcases m' with rfl | m'
              · exact hpn
              · exact here q m'
            refine ⟨r.1, ?_⟩
            by_cases z : q = D
            · rw [z, upd_same]
              simp
            · rw [upd_ne z]
              exact r.2
          · simp only [List.mem_append, List.mem_cons, List.not_mem_nil, or_false] at m
            rcases m with m | (m | m) | m
            · exact u4 q (by simp [m])
            · exact u4 q (by simp [m])
            · rw [m]; exact hpB
            · exact u4 q (by simp [m])
        · rw [upd_same, List.map_append]
          rfl
        · rw [List.range_succ, List.map_append]
          refine paired_snoc (Paired.mapM l fun q m ds ⟨vs, h1, h2⟩ => ⟨vs, ?_, h2.mono (ex2.trans e5)⟩) ⟨us, ?_, au⟩
          · rw [upd_ne (fun z => nqD (by rw [← z]; simp [m]))]
            exact e6 _ _ (exH _ _ h1)
          · rw [upd_ne pD]
            exact hp
    rcases y with ⟨rfl, y⟩ | ⟨T, vs, ds, rfl, hT, rfl, y, ef⟩
    · exact fin G' (Ex.refl _) (Ex.refl _) b (y.mono a)
    · have hG := b.rel.s.none hT
      refine fin _ (Ex.new hG) (Ex.new hT) (b.fresh hT) ?_
      rw [ef]
      exact .tup upd_same ((y.mono a).mono (Ex.new hG))
  · rintro H' ⟨G', qs, a, aH, b, c, l⟩
    exact k D qs G' H' (e1.trans a) (e2.trans aH) b c l
end
end Dg
namespace Rl
open PySem L2 Dg
/-! ### plots -/
def VP (h : Nat) (ps : List (Int × Int)) : Prop := 3 ≤ h ∧ h ≤ 40 ∧ ps.length ≤ 60 ∧ ∀ p ∈ ps, p.1.natAbs < 10 ^ 18 ∧ p.2.natAbs < 10 ^ 18
theorem scale_bd {v lo hi : Int} {p : Nat} (h1 : lo ≤ v) (h2 : v ≤ hi) (hp : 1 ≤ p) : Vanbkh.scale v lo hi p < p ∧ (Vanbkh.scale v lo hi p : Int) = if hi = lo then 0 else (v - lo) * ((p : Int) - 1) / (hi - lo) := by
  unfold Vanbkh.scale
  split
  · exact ⟨by omega, rfl⟩
  · have pos : 0 < hi - lo := by omega
    have nn : 0 ≤ (v - lo) * ((p : Int) - 1) / (hi - lo) := Int.ediv_nonneg (Int.mul_nonneg (by omega) (by omega)) (by omega)
    have le : (v - lo) * ((p : Int) - 1) / (hi - lo) ≤ (p : Int) - 1 := by
      have h3 : (v - lo) * ((p : Int) - 1) ≤ (hi - lo) * ((p : Int) - 1) := Int.mul_le_mul_of_nonneg_right (by omega) (by omega)
      have h4 := Int.ediv_le_ediv pos h3
      rw [Int.mul_ediv_cancel_left _ (by omega)] at h4
      exact h4
    exact ⟨by omega, by omega⟩
def cnt (pos : List (Nat × Nat)) (c r : Nat) : Nat := (pos.filter fun q => q == (c, r)).length
theorem cnt_snoc (pos : List (Nat × Nat)) (c0 r0 c r : Nat) : cnt (pos ++ [(c0, r0)]) c r = cnt pos c r + if c = c0 ∧ r = r0 then 1 else 0 := by
  unfold cnt
  rw [List.filter_append, List.length_append]
  congr 1
  by_cases h : c = c0 ∧ r = r0
  · rw [if_pos h, h.1, h.2]
    simp
  · rw [if_neg h]
    have : ((c0, r0) == (c, r)) = false := by
      rw [beq_eq_false_iff_ne]
      intro z
      exact h ⟨(Prod.mk.inj z).1.symm, (Prod.mk.inj z).2.symm⟩
    rw [List.filter_cons_of_neg (by simp [this])]
    rfl
theorem cnt_le (pos : List (Nat × Nat)) (c r : Nat) : cnt pos c r ≤ pos.length := List.length_filter_le _ _
def rowC (pos : List (Nat × Nat)) (g r : Nat) : List Nat := (List.range g).map fun c => cnt pos c r
def gridD (pos : List (Nat × Nat)) (h g : Nat) : List (List D) := (List.range h).map fun r => dI (nI (rowC pos g r))
theorem rowC_get {pos : List (Nat × Nat)} {g r c : Nat} (h : c < g) : (dI (nI (rowC pos g r)))[c]? = some (.int (cnt pos c r : Nat)) := by
  unfold dI nI rowC
  rw [List.getElem?_map, List.getElem?_map, List.getElem?_map, List.getElem?_range h]
  rfl
theorem gridD_get {pos : List (Nat × Nat)} {h g r : Nat} (hr : r < h) : (gridD pos h g)[r]? = some (dI (nI (rowC pos g r))) := by
  unfold gridD
  rw [List.getElem?_map, List.getElem?_range hr]
  rfl
theorem gridD_snoc {pos : List (Nat × Nat)} {h g c0 r0 : Nat} (hc : c0 < g) (hr : r0 < h) : gridD (pos ++ [(c0, r0)]) h g = (gridD pos h g).set r0 ((dI (nI (rowC pos g r0))).set c0 (.int ((cnt pos c0 r0 : Nat) + 1))) := by
  apply List.ext_getElem?
  intro r
  by_cases q : r < h
  · rw [gridD_get q]
    by_cases z : r0 = r
    · subst z
      rw [List.getElem?_set_self (by simp [gridD, hr])]
      congr 1
      apply List.ext_getElem?
      intro c
      by_cases q2 : c < g
      · rw [rowC_get q2]
        by_cases z2 : c0 = c
        · subst z2
          rw [List.getElem?_set_self (by simp [rowC, nI, hc]), cnt_snoc, if_pos ⟨rfl, rfl⟩]
          rfl
        · rw [List.getElem?_set_ne z2, rowC_get q2, cnt_snoc, if_neg (fun w => z2 w.1.symm)]
          rfl
      · rw [List.getElem?_eq_none (by simp [rowC, nI]; omega), List.getElem?_eq_none (by simp [rowC, nI]; omega)]
    · rw [List.getElem?_set_ne z, gridD_get q]
      congr 2
      unfold rowC
      congr 1
      refine List.map_congr_left fun c _ => ?_
      rw [cnt_snoc, if_neg (fun w => z w.2.symm)]
      rfl
  · rw [List.getElem?_eq_none (by simp [gridD]; omega), List.getElem?_eq_none (by simp [gridD]; omega)]
theorem trim_snoc (l : List UInt8) (c : UInt8) : Vanbkh.trimEnd (l ++ [c]) = if c = 32 then Vanbkh.trimEnd l else l ++ [c] := by
  unfold Vanbkh.trimEnd
  rw [List.reverse_append]
  show ((c :: l.reverse).dropWhile _).reverse = _
  rw [List.dropWhile_cons]
  by_cases h : c = 32
  · rw [if_pos (by simp [h]), if_pos h]
  · rw [if_neg (by simp [h]), if_neg h]
    simp
theorem trim_take (l : List UInt8) : l.take (Vanbkh.trimEnd l).length = Vanbkh.trimEnd l ∧ (Vanbkh.trimEnd l).length ≤ l.length := by
  unfold Vanbkh.trimEnd
  have h : (l.reverse.dropWhile fun c => c == 32) <:+ l.reverse := List.dropWhile_suffix _
  have h2 : (l.reverse.dropWhile fun c => c == 32).reverse <+: l := by
    have := List.reverse_prefix.mpr h
    rw [List.reverse_reverse] at this
    exact this
  exact ⟨(List.prefix_iff_eq_take.mp h2).symm, h2.length_le⟩
theorem mark_bi (n : Nat) : bi (Vanbkh.pointMark n) = if n = 0 then 32 else if n = 1 then 42 else if n ≤ 9 then 48 + (n : Int) else 35 := by
  unfold Vanbkh.pointMark
  by_cases h0 : n = 0
  · subst h0; rfl
  · by_cases h1 : n = 1
    · subst h1; rfl
    · rw [if_neg (by simpa using h0), if_neg (by simpa using h1), if_neg h0, if_neg h1]
      by_cases h9 : n ≤ 9
      · rw [if_pos h9, if_pos h9, bi_ofNat (by omega)]
        omega
      · rw [if_neg h9, if_neg h9]
        rfl
theorem mark_sp (n : Nat) : Vanbkh.pointMark n = 32 ↔ n = 0 := by
  have e := mark_bi n
  constructor
  · intro h
    rw [h] at e
    have e' : (32 : Int) = if n = 0 then 32 else if n = 1 then 42 else if n ≤ 9 then 48 + (n : Int) else 35 := e
    split at e'
    · assumption
    · split at e'
      · omega
      · split at e' <;> omega
  · intro h
    subst h
    rfl
def pX0 (ps : List (Int × Int)) : Int := Vanbkh.least (ps.map fun p => p.1)
def pX1 (ps : List (Int × Int)) : Int := Vanbkh.greatest (ps.map fun p => p.1)
def pY0 (ps : List (Int × Int)) : Int := Vanbkh.least (ps.map fun p => p.2)
def pY1 (ps : List (Int × Int)) : Int := Vanbkh.greatest (ps.map fun p => p.2)
def pLab (ps : List (Int × Int)) : Nat := max (Vanbkh.decimal (pY0 ps)).length (Vanbkh.decimal (pY1 ps)).length
def pPos (h g : Nat) (ps : List (Int × Int)) : List (Nat × Nat) := ps.map fun p => (Vanbkh.scale p.1 (pX0 ps) (pX1 ps) g, Vanbkh.scale p.2 (pY0 ps) (pY1 ps) h)
def pLabel (h : Nat) (ps : List (Int × Int)) (r : Nat) : List UInt8 := if r + 1 == h then Vanbkh.decimal (pY1 ps) else if r == 0 then Vanbkh.decimal (pY0 ps) else []
def pLine (h g lab : Nat) (ps : List (Int × Int)) (r : Nat) : List UInt8 := Vanbkh.trimEnd (Vanbkh.padLeft lab (pLabel h ps r) ++ [124] ++ (rowC (pPos h g ps) g r).map Vanbkh.pointMark)
def pLine0 (h g lab : Nat) (ps : List (Int × Int)) (r : Nat) : List UInt8 := Vanbkh.trimEnd (Vanbkh.padLeft lab (pLabel h ps r) ++ [124] ++ (List.range g).map fun c => Vanbkh.pointMark (cnt (pPos h g ps) c r))
def pScale (w lab : Nat) (ps : List (Int × Int)) : List (List UInt8) := if (Vanbkh.decimal (pX0 ps)).length + (Vanbkh.decimal (pX1 ps)).length < w - lab - 1
  then [Vanbkh.spaces (lab + 1) ++ Vanbkh.decimal (pX0 ps) ++ Vanbkh.spaces (w - lab - 1 - (Vanbkh.decimal (pX0 ps)).length - (Vanbkh.decimal (pX1 ps)).length) ++ Vanbkh.decimal (pX1 ps)]
  else [Vanbkh.truncate w (Vanbkh.spaces (lab + 1) ++ Vanbkh.decimal (pX0 ps)), Vanbkh.truncate w (Vanbkh.spaces (lab + 1) ++ Vanbkh.decimal (pX1 ps))]
theorem plot_eq (w h : Nat) (ps : List (Int × Int)) (hne : ps ≠ []) (hw : ¬ w < pLab ps + 9) : Vanbkh.plotLines w h ps = ((List.range h).reverse.map (pLine h (w - pLab ps - 1) (pLab ps) ps)) ++ [Vanbkh.spaces (pLab ps) ++ [43] ++ List.replicate (w - pLab ps - 1) 45] ++ pScale w (pLab ps) ps := by
  have h1 : ¬ ps.isEmpty = true := by simpa using hne
  show (if ps.isEmpty = true then [Vanbkh.ascii "(no points)"] else if w < pLab ps + 9 then [Vanbkh.ascii "(too narrow)"] else ((List.range h).reverse.map (pLine0 h (w - pLab ps - 1) (pLab ps) ps)) ++ [Vanbkh.spaces (pLab ps) ++ [43] ++ List.replicate (w - pLab ps - 1) 45] ++ pScale w (pLab ps) ps) = _
  rw [if_neg h1, if_neg hw]
  have : pLine0 h (w - pLab ps - 1) (pLab ps) ps = pLine h (w - pLab ps - 1) (pLab ps) ps := by
    funext r
    unfold pLine0 pLine rowC
    rw [List.map_map]
    rfl
  rw [this]
theorem ys_bd {h : Nat} {ps : List (Int × Int)} (v : VP h ps) (hne : ps ≠ []) : (pX0 ps).natAbs < 10 ^ 18 ∧ (pX1 ps).natAbs < 10 ^ 18 ∧ (pY0 ps).natAbs < 10 ^ 18 ∧ (pY1 ps).natAbs < 10 ^ 18 := by
  have n1 : (ps.map fun p => p.1) ≠ [] := by simpa using hne
  have n2 : (ps.map fun p => p.2) ≠ [] := by simpa using hne
  refine ⟨?_, ?_, ?_, ?_⟩
  · obtain ⟨p, hp, e⟩ := List.mem_map.mp (least_spec n1).1
    unfold pX0
    rw [← e]
    exact (v.2.2.2 p hp).1
  · obtain ⟨p, hp, e⟩ := List.mem_map.mp (greatest_spec n1).1
    unfold pX1
    rw [← e]
    exact (v.2.2.2 p hp).1
  · obtain ⟨p, hp, e⟩ := List.mem_map.mp (least_spec n2).1
    unfold pY0
    rw [← e]
    exact (v.2.2.2 p hp).2
  · obtain ⟨p, hp, e⟩ := List.mem_map.mp (greatest_spec n2).1
    unfold pY1
    rw [← e]
    exact (v.2.2.2 p hp).2
theorem dec18 {z : Int} (h : z.natAbs < 10 ^ 18) : (Vanbkh.decimal z).length ≤ 19 := decimal_len h (by decide)
theorem z40 {z : Int} (h : z.natAbs < 10 ^ 18) : z.natAbs < 10 ^ 40 := Nat.lt_trans h (by decide)
theorem down_rg {h : Nat} (h1 : 1 ≤ h) (h2 : h ≤ 40) : RgC ((h : Int) - 1) (-1) (-1) h := by
  have sz : Builtin.Range.rangeSize ((h : Int) - 1) (-1) (-1) = h := by
    unfold Builtin.Range.rangeSize
    rw [if_neg (by omega)]
    split
    · rw [show (-(-1 : Int)) = 1 from rfl, Int.ediv_one]
      omega
    · omega
  refine ⟨by decide, by decide, ?_, sz⟩
  unfold Builtin.Range.small
  rw [sz]
  simp only [Builtin.Range.rangeFitsLong, Bool.and_eq_true, Bool.or_eq_true, decide_eq_true_eq, beq_iff_eq]
  refine ⟨by omega, .inr ?_⟩
  rw [if_neg (by omega)]
  simp only [decide_eq_true_eq, Bool.and_eq_true]
  omega
end Rl
namespace Rl
open PySem L2 Dg
/-! ### items, documents, pages -/
def VI : Vanbkh.Item → Prop
  | .heading k t => (1 ≤ k ∧ k ≤ 3) ∧ t.length ≤ 200
  | .paragraph t => t.length ≤ 200
  | .table t => VT t
  | .plot h ps => VP h ps
  | .check _ t => t.length ≤ 200
  | .bars l => VB l
theorem narrow_fits {w : Nat} : ∀ (n : Nat) {ws : List Nat}, 6 * ws.length + 1 ≤ w → Vanbkh.lineWidth ws ≤ n + w → Vanbkh.lineWidth (Vanbkh.narrow w n ws) ≤ w
  | 0, ws, _, h => by
    show Vanbkh.lineWidth ws ≤ w
    omega
  | n + 1, ws, hw, h => by
    by_cases q : Vanbkh.lineWidth ws ≤ w
    · rw [narrow_done q]
      exact q
    · rw [narrow_step q]
      obtain ⟨b1, b2⟩ := widest_big q hw
      obtain ⟨j, e1, e2, e3, e4⟩ := narrowFirst_eq _ ws (maximum_mem b2)
      have hl := narrowFirst_len (Vanbkh.maximum ws) ws
      refine narrow_fits n (by rw [hl]; exact hw) ?_
      have := e4 (by omega)
      unfold Vanbkh.lineWidth at h ⊢
      rw [hl]
      omega
theorem widths_fit {t : Vanbkh.Table} (h : VT t) {w : Nat} (h1 : 20 ≤ w) (h2 : w ≤ 120) : Vanbkh.lineWidth (Vanbkh.columnWidths w t) ≤ w := by
  obtain ⟨v1, v2, v3⟩ := vis_bd h1 h2 h.lo
  have hl : ((Vanbkh.naturalWidths t).take (Vanbkh.visibleColumns w t.headers.length)).length = Vanbkh.visibleColumns w t.headers.length := by
    rw [List.length_take, naturals_len]
    omega
  exact narrow_fits _ (by rw [hl]; exact v3) (by omega)
theorem flat_eq {α : Type} {f : α → List UInt8} {g : α → Nat} : ∀ {l : List α}, (∀ x ∈ l, (f x).length ≤ g x + 3) → (l.flatMap f).length ≤ (l.map g).sum + 3 * l.length
  | [], _ => by simp
  | x :: l, h => by
    have h1 := h x (by simp)
    have := flat_eq (l := l) fun y hy => h y (by simp [hy])
    simp only [List.flatMap_cons, List.length_append, List.map_cons, List.sum_cons, List.length_cons]
    omega
theorem ruler_w (ws : List Nat) : (Vanbkh.ruler ws).length ≤ Vanbkh.lineWidth ws := by
  unfold Vanbkh.ruler Vanbkh.lineWidth
  have := flat_eq (f := fun n => 43 :: List.replicate (n + 2) (45 : UInt8)) (g := id) (l := ws) fun x _ => by simp
  rw [List.map_id] at this
  rw [List.length_append]
  show _ + 1 ≤ _
  omega
theorem zip_sum : ∀ (ws : List Nat) (r : List Vanbkh.Cell), ((ws.zip r).map Prod.fst).sum ≤ ws.sum ∧ (ws.zip r).length ≤ ws.length
  | [], _ => by simp
  | _ :: _, [] => by simp
  | w :: ws, c :: r => by
    have := zip_sum ws r
    simp only [List.zip_cons_cons, List.map_cons, List.sum_cons, List.length_cons]
    omega
theorem rowLine_w {ws : List Nat} (r : List Vanbkh.Cell) (h : ∀ x ∈ ws, 1 ≤ x) : (Vanbkh.rowLine ws r).length ≤ Vanbkh.lineWidth ws := by
  unfold Vanbkh.rowLine Vanbkh.lineWidth
  have := flat_eq (f := fun x : Nat × Vanbkh.Cell => [124, 32] ++ Vanbkh.alignCell x.1 x.2 ++ [32]) (g := Prod.fst) (l := ws.zip r) fun x hx => by
    have hm : x.1 ∈ ws := (List.of_mem_zip hx).1
    have := align_len x.2 (h x.1 hm)
    rw [List.length_append, List.length_append, this]
    show 2 + x.1 + 1 ≤ _
    omega
  have z := zip_sum ws r
  rw [List.length_append]
  show _ + 1 ≤ _
  omega
/-- the lines of an item: at least one, at most 202, each within the width -/
def Fits (w : Nat) (ls : List (List UInt8)) : Prop := 1 ≤ ls.length ∧ ls.length ≤ 202 ∧ ∀ l ∈ ls, l.length ≤ w
theorem table_fits {t : Vanbkh.Table} (h : VT t) {w : Nat} (h1 : 20 ≤ w) (h2 : w ≤ 120) : Fits w (Vanbkh.tableLines w t) ∧ 4 ≤ (Vanbkh.tableLines w t).length ∧ (Vanbkh.tableLines w t).length ≤ 29 := by
  have hf := widths_fit h h1 h2
  obtain ⟨c1, c2⟩ := widths_bd h h1 h2
  have hrs := h.rs
  have r1 := ruler_w (Vanbkh.columnWidths w t)
  have key : ∀ l ∈ Vanbkh.tableWith (Vanbkh.columnWidths w t) t, l.length ≤ w := fun l hl => by
    unfold Vanbkh.tableWith at hl
    simp only [List.mem_append, List.mem_cons, List.not_mem_nil, or_false, List.mem_map] at hl
    rcases hl with ((rfl | rfl | rfl) | ⟨r, _, rfl⟩) | rfl
    · omega
    · have := rowLine_w (ws := Vanbkh.columnWidths w t) (t.headers.map .text) fun x hx => (c2 x hx).1
      omega
    · omega
    · have := rowLine_w (ws := Vanbkh.columnWidths w t) r fun x hx => (c2 x hx).1
      omega
    · omega
  have hl : (Vanbkh.tableWith (Vanbkh.columnWidths w t) t).length = t.rows.length + 4 := by
    unfold Vanbkh.tableWith
    simp
  have e : Vanbkh.tableLines w t = Vanbkh.tableWith (Vanbkh.columnWidths w t) t ++ (if (Vanbkh.columnWidths w t).length < t.headers.length then [Vanbkh.ascii "(+" ++ Vanbkh.decimal ((t.headers.length - (Vanbkh.columnWidths w t).length : Nat) : Int) ++ Vanbkh.ascii ")"] else []) := rfl
  have hi := h.hi
  rw [e]
  split
  · have dl := decimal_len (z := ((t.headers.length - (Vanbkh.columnWidths w t).length : Nat) : Int)) (k := 1) (by omega) (by decide)
    refine ⟨⟨?_, ?_, fun l hl => ?_⟩, ?_, ?_⟩
    · rw [List.length_append]; omega
    · rw [List.length_append]; simp only [List.length_cons, List.length_nil]; omega
    · rcases List.mem_append.mp hl with hl | hl
      · exact key l hl
      · have : l = Vanbkh.ascii "(+" ++ Vanbkh.decimal ((t.headers.length - (Vanbkh.columnWidths w t).length : Nat) : Int) ++ Vanbkh.ascii ")" := by simpa using hl
        rw [this, List.length_append, List.length_append]
        show 2 + _ + 1 ≤ w
        omega
    · rw [List.length_append]; omega
    · rw [List.length_append]; simp only [List.length_cons, List.length_nil]; omega
  · rw [List.append_nil]
    exact ⟨⟨by omega, by omega, key⟩, by omega, by omega⟩
theorem plot_fits {h : Nat} {ps : List (Int × Int)} (v : VP h ps) {w : Nat} (h1 : 20 ≤ w) (h2 : w ≤ 120) : Fits w (Vanbkh.plotLines w h ps) := by
  by_cases hne : ps = []
  · subst hne
    have e : Vanbkh.plotLines w h [] = [Vanbkh.ascii "(no points)"] := rfl
    rw [e]
    refine ⟨by simp, by simp, fun l hl => ?_⟩
    have : l = Vanbkh.ascii "(no points)" := by simpa using hl
    rw [this]
    exact Nat.le_trans (by decide : _ ≤ 20) h1
  · by_cases hw : w < pLab ps + 9
    · have h3 : ¬ ps.isEmpty = true := by simpa using hne
      have e : Vanbkh.plotLines w h ps = [Vanbkh.ascii "(too narrow)"] := by
        show (if ps.isEmpty = true then _ else if w < pLab ps + 9 then [Vanbkh.ascii "(too narrow)"] else _) = _
        rw [if_neg h3, if_pos hw]
      rw [e]
      refine ⟨by simp, by simp, fun l hl => ?_⟩
      have : l = Vanbkh.ascii "(too narrow)" := by simpa using hl
      rw [this]
      exact Nat.le_trans (by decide : _ ≤ 20) h1
    · rw [plot_eq w h ps hne hw]
      obtain ⟨y1, y2, y3, y4⟩ := ys_bd v hne
      have psl : (pScale w (pLab ps) ps).length ≤ 2 := by
        unfold pScale
        split <;> simp
      have h40 := v.2.1
      refine ⟨?_, ?_, fun l hl => ?_⟩
      · simp only [List.length_append, List.length_cons, List.length_nil]
        omega
      · simp only [List.length_append, List.length_cons, List.length_nil, List.length_map, List.length_reverse, List.length_range]
        omega
      · rcases List.mem_append.mp hl with hl | hl
        · rcases List.mem_append.mp hl with hl | hl
          · obtain ⟨r, _, rfl⟩ := List.mem_map.mp hl
            unfold pLine
            refine Nat.le_trans (trim_take _).2 ?_
            have pl : (pLabel h ps r).length ≤ pLab ps := by
              unfold pLabel pLab
              split
              · omega
              · split
                · omega
                · exact Nat.zero_le _
            have := padL_len pl
            simp only [List.length_append, List.length_cons, List.length_nil, List.length_map, rowC, List.length_range, this]
            omega
          · have : l = Vanbkh.spaces (pLab ps) ++ [43] ++ List.replicate (w - pLab ps - 1) 45 := by simpa using hl
            rw [this]
            simp [Vanbkh.spaces]
            omega
        · unfold pScale at hl
          split at hl
          · have : l = Vanbkh.spaces (pLab ps + 1) ++ Vanbkh.decimal (pX0 ps) ++ Vanbkh.spaces (w - pLab ps - 1 - (Vanbkh.decimal (pX0 ps)).length - (Vanbkh.decimal (pX1 ps)).length) ++ Vanbkh.decimal (pX1 ps) := by simpa using hl
            rw [this]
            simp only [List.length_append, Vanbkh.spaces, List.length_replicate]
            omega
          · simp only [List.mem_cons, List.not_mem_nil, or_false] at hl
            rcases hl with rfl | rfl
            · exact truncate_len _ (by omega)
            · exact truncate_len _ (by omega)
theorem item_fits {x : Vanbkh.Item} (v : VI x) {w : Nat} (h1 : 20 ≤ w) (h2 : w ≤ 120) : Fits w (Vanbkh.itemLines w x) := by
  cases x with
  | heading k t =>
    have tl := truncate_len (n := w) (Vanbkh.singleLine t) (by omega)
    have tl2 := truncate_len (n := w) (Vanbkh.ascii "# " ++ Vanbkh.singleLine t) (by omega)
    show Fits w (Vanbkh.headingLines w k t)
    unfold Vanbkh.headingLines
    simp only
    split
    · refine ⟨by simp, by simp, fun l hl => ?_⟩
      simp only [List.mem_cons, List.not_mem_nil, or_false] at hl
      rcases hl with rfl | rfl
      · exact tl
      · rw [List.length_replicate]; exact tl
    · split
      · refine ⟨by simp, by simp, fun l hl => ?_⟩
        simp only [List.mem_cons, List.not_mem_nil, or_false] at hl
        rcases hl with rfl | rfl
        · exact tl
        · rw [List.length_replicate]; exact tl
      · refine ⟨by simp, by simp, fun l hl => ?_⟩
        simp only [List.mem_cons, List.not_mem_nil, or_false] at hl
        rw [hl]; exact tl2
  | paragraph t =>
    have hp := para_len (w := w) (by omega) t
    have hv : t.length ≤ 200 := v
    refine ⟨?_, ?_, hp.2⟩
    · show 1 ≤ (Vanbkh.paragraphLines w t).length
      unfold Vanbkh.paragraphLines
      have sp := split_sum 10 t
      cases q : Vanbkh.splitAtByte 10 t with
      | nil => rw [q] at sp; simp at sp
      | cons p ps =>
        rw [List.flatMap_cons, List.length_append, wrap_eq]
        split
        · simp
        · omega
    · show (Vanbkh.paragraphLines w t).length ≤ 202
      omega
  | table t => exact (table_fits v h1 h2).1
  | plot h ps => exact plot_fits v h1 h2
  | check p t =>
    have tl := truncate_len (n := w) ((if p then Vanbkh.ascii "[ok] " else Vanbkh.ascii "[no] ") ++ Vanbkh.singleLine t) (by omega)
    refine ⟨by show 1 ≤ 1; omega, by show 1 ≤ 202; omega, fun l hl => ?_⟩
    have hl' : l ∈ [Vanbkh.truncate w ((if p then Vanbkh.ascii "[ok] " else Vanbkh.ascii "[no] ") ++ Vanbkh.singleLine t)] := hl
    simp only [List.mem_cons, List.not_mem_nil, or_false] at hl'
    rw [hl']; exact tl
  | bars l =>
    have hb := barLines_len h1 (l := l) v
    refine ⟨?_, ?_, hb.2⟩
    · show 1 ≤ (Vanbkh.barLines w l).length
      by_cases q : l = []
      · subst q
        exact Nat.le_refl 1
      · rw [barLines_eq w l q, List.length_map]
        exact List.length_pos_iff.mpr q
    · show (Vanbkh.barLines w l).length ≤ 202
      omega
/-- lines put behind others -/
def mBehind (b l : List (List UInt8)) : List (List UInt8) := if b.length = 0 then l else b ++ [[]] ++ l
def mDoc (w : Nat) (xs : List Vanbkh.Item) : List (List UInt8) := xs.foldl (fun b x => mBehind b (Vanbkh.itemLines w x)) []
theorem mDoc_snoc (w : Nat) (xs : List Vanbkh.Item) (x : Vanbkh.Item) : mDoc w (xs ++ [x]) = mBehind (mDoc w xs) (Vanbkh.itemLines w x) := by
  unfold mDoc
  rw [List.foldl_append]
  rfl
theorem behind_fold {w : Nat} : ∀ (xs : List Vanbkh.Item) (b : List (List UInt8)), b.length ≠ 0 → (∀ x ∈ xs, (Vanbkh.itemLines w x).length ≠ 0) → xs.foldl (fun b x => mBehind b (Vanbkh.itemLines w x)) b = if xs = [] then b else b ++ [[]] ++ Vanbkh.documentLines w xs
  | [], b, _, _ => rfl
  | x :: xs, b, hb, h => by
    rw [List.foldl_cons, if_neg (by simp)]
    have e : mBehind b (Vanbkh.itemLines w x) = b ++ [[]] ++ Vanbkh.itemLines w x := by
      unfold mBehind
      rw [if_neg hb]
    rw [e, behind_fold xs _ (by simp) fun y hy => h y (by simp [hy])]
    cases xs with
    | nil => rfl
    | cons y ys =>
      rw [if_neg (by simp)]
      show _ = b ++ [[]] ++ (Vanbkh.itemLines w x ++ [[]] ++ Vanbkh.documentLines w (y :: ys))
      simp
theorem mDoc_eq {w : Nat} (xs : List Vanbkh.Item) (h : ∀ x ∈ xs, (Vanbkh.itemLines w x).length ≠ 0) : mDoc w xs = Vanbkh.documentLines w xs := by
  cases xs with
  | nil => rfl
  | cons x xs =>
    show xs.foldl (fun b x => mBehind b (Vanbkh.itemLines w x)) (mBehind [] (Vanbkh.itemLines w x)) = _
    have e : mBehind [] (Vanbkh.itemLines w x) = Vanbkh.itemLines w x := rfl
    rw [e, behind_fold xs _ (h x (by simp)) fun y hy => h y (by simp [hy])]
    cases xs with
    | nil => rfl
    | cons y ys => rw [if_neg (by simp)]; rfl
theorem mDoc_bd {w : Nat} (h1 : 20 ≤ w) (h2 : w ≤ 120) : ∀ (n : Nat) (xs : List Vanbkh.Item), xs.length = n → (∀ x ∈ xs, VI x) → (mDoc w xs).length ≤ 203 * xs.length ∧ ∀ l ∈ mDoc w xs, l.length ≤ w
  | 0, xs, h, _ => by
    have : xs = [] := List.length_eq_zero_iff.mp h
    subst this
    exact ⟨by simp [mDoc], by simp [mDoc]⟩
  | n + 1, xs, h, hx => by
    have ne : xs ≠ [] := by intro z; rw [z] at h; cases h
    obtain ⟨m, x, rfl⟩ : ∃ m x, xs = m ++ [x] := ⟨xs.dropLast, xs.getLast ne, (List.dropLast_concat_getLast ne).symm⟩
    obtain ⟨i1, i2⟩ := mDoc_bd h1 h2 n m (by simpa using h) (fun y hy => hx y (by simp [hy]))
    obtain ⟨f1, f2, f3⟩ := item_fits (hx x (by simp)) h1 h2
    rw [mDoc_snoc]
    unfold mBehind
    split
    · refine ⟨by simp; omega, f3⟩
    · refine ⟨by simp; omega, fun l hl => ?_⟩
      simp only [List.mem_append, List.mem_cons, List.not_mem_nil, or_false] at hl
      rcases hl with (hl | rfl) | hl
      · exact i2 l hl
      · exact Nat.zero_le _
      · exact f3 l hl
end Rl
namespace Rl
open PySem L2 Dg
/-! ### pages -/
theorem portions_eq {n : Nat} (hn : 0 < n) (head : List (List UInt8)) : ∀ (k : Nat) {l : List (List UInt8)}, l ≠ [] → l.length ≤ k → Vanbkh.portions head n k l = (mCut n l).map (head ++ ·)
  | 0, l, h, hk => absurd (List.length_eq_zero_iff.mp (by omega)) h
  | k + 1, l, h, hk => by
    rw [mCut_cons hn h]
    unfold Vanbkh.portions
    have hl : 0 < l.length := List.length_pos_iff.mpr h
    by_cases q : l.length ≤ n
    · rw [if_pos q, List.drop_eq_nil_of_le q, mCut_nil hn, List.take_of_length_le q]
      rfl
    · rw [if_neg q, List.map_cons]
      congr 1
      exact portions_eq hn head k (fun z => by
        have := congrArg List.length z
        rw [List.length_drop, List.length_nil] at this
        omega) (by rw [List.length_drop]; omega)
theorem mCut_one {α : Type} {n : Nat} (hn : 0 < n) {l : List α} (h : l ≠ []) (hl : l.length ≤ n) : mCut n l = [l] := by
  rw [mCut_cons hn h, List.drop_eq_nil_of_le hl, mCut_nil hn, List.take_of_length_le hl]
theorem mCut_count {α : Type} {n m k : Nat} (hn : 2 ≤ n) (hk : k ≤ n) (hk0 : 0 < k) {l : List α} (hl : l.length ≤ m + 1) : (mCut n l).length ≤ m / k + 1 := by
  unfold mCut
  rw [List.length_map, List.length_range]
  have h1 : (l.length + n - 1) / n ≤ (m + n) / n := Nat.div_le_div_right (by omega)
  rw [Nat.add_div_right _ (by omega)] at h1
  have h2 : m / n ≤ m / k := Nat.div_le_div_left hk hk0
  omega
def isTab : Vanbkh.Item → Bool
  | .table _ => true
  | _ => false
theorem split_tab {w h : Nat} {x : Vanbkh.Item} (v : VI x) (h1 : 20 ≤ w) (h2 : w ≤ 120) (hh : 5 ≤ h) (ht : isTab x = true) : Vanbkh.splitItem w h x = (mCut (h - 3) ((Vanbkh.itemLines w x).drop 3)).map ((Vanbkh.itemLines w x).take 3 ++ ·) ∧ 4 ≤ (Vanbkh.itemLines w x).length ∧ (Vanbkh.itemLines w x).length ≤ 29 := by
  cases x with
  | table t =>
    obtain ⟨f, f1, f2⟩ := table_fits v h1 h2
    refine ⟨?_, f1, f2⟩
    show Vanbkh.portions ((Vanbkh.tableLines w t).take 3) (h - 3) (Vanbkh.tableLines w t).length ((Vanbkh.tableLines w t).drop 3) = _
    rw [portions_eq (by omega) _ _ (fun z => by
      have := congrArg List.length z
      rw [List.length_drop, List.length_nil] at this
      omega) (by rw [List.length_drop]; omega)]
    rfl
  | heading _ _ => cases ht
  | paragraph _ => cases ht
  | plot _ _ => cases ht
  | check _ _ => cases ht
  | bars _ => cases ht
theorem split_non {w h : Nat} {x : Vanbkh.Item} (v : VI x) (h1 : 20 ≤ w) (h2 : w ≤ 120) (hh : 5 ≤ h) (ht : isTab x = false) : Vanbkh.splitItem w h x = mCut h (Vanbkh.itemLines w x) := by
  obtain ⟨f1, f2, f3⟩ := item_fits v h1 h2
  have e : Vanbkh.splitItem w h x = Vanbkh.portions [] h (Vanbkh.itemLines w x).length (Vanbkh.itemLines w x) := by
    cases x with
    | table t => cases ht
    | heading _ _ => rfl
    | paragraph _ => rfl
    | plot _ _ => rfl
    | check _ _ => rfl
    | bars _ => rfl
  rw [e, portions_eq (by omega) [] _ (fun z => by rw [z] at f1; simp at f1) (Nat.le_refl _)]
  show (mCut h (Vanbkh.itemLines w x)).map (fun l => l) = _
  rw [List.map_id']
theorem split_one {w h : Nat} {x : Vanbkh.Item} (v : VI x) (h1 : 20 ≤ w) (h2 : w ≤ 120) (hh : 5 ≤ h) (hl : (Vanbkh.itemLines w x).length ≤ h) : Vanbkh.splitItem w h x = [Vanbkh.itemLines w x] := by
  obtain ⟨f1, f2, f3⟩ := item_fits v h1 h2
  cases ht : isTab x with
  | true =>
    obtain ⟨e, f4, f5⟩ := split_tab v h1 h2 hh ht
    rw [e, mCut_one (by omega) (fun z => by
      have := congrArg List.length z
      rw [List.length_drop, List.length_nil] at this
      omega) (by rw [List.length_drop]; omega), List.map_cons, List.take_append_drop]
    rfl
  | false =>
    rw [split_non v h1 h2 hh ht, mCut_one (by omega) (fun z => by rw [z] at f1; simp at f1) hl]
theorem split_bd {w h : Nat} {x : Vanbkh.Item} (v : VI x) (h1 : 20 ≤ w) (h2 : w ≤ 120) (hh : 5 ≤ h) : Vanbkh.splitItem w h x ≠ [] ∧ (Vanbkh.splitItem w h x).length ≤ 41 ∧ ∀ p ∈ Vanbkh.splitItem w h x, p.length ≤ h ∧ ∀ l ∈ p, l.length ≤ w := by
  obtain ⟨f1, f2, f3⟩ := item_fits v h1 h2
  have cutm : ∀ {n : Nat} {l : List (List UInt8)}, ∀ p ∈ mCut n l, ∀ y ∈ p, y ∈ l := fun p hp y hy => by
    unfold mCut at hp
    obtain ⟨i, _, rfl⟩ := List.mem_map.mp hp
    exact List.mem_of_mem_drop (List.mem_of_mem_take hy)
  cases ht : isTab x with
  | true =>
    obtain ⟨e, f4, f5⟩ := split_tab v h1 h2 hh ht
    have ne : (Vanbkh.itemLines w x).drop 3 ≠ [] := fun z => by
      have := congrArg List.length z
      rw [List.length_drop, List.length_nil] at this
      omega
    rw [e]
    refine ⟨?_, ?_, fun p hp => ?_⟩
    · rw [mCut_cons (by omega) ne]
      simp
    · rw [List.length_map]
      have := mCut_count (n := h - 3) (m := 25) (k := 2) (by omega) (by omega) (by omega) (l := (Vanbkh.itemLines w x).drop 3) (by rw [List.length_drop]; omega)
      omega
    · obtain ⟨q, hq, rfl⟩ := List.mem_map.mp hp
      have := (mCut_len (n := h - 3) (by omega) ((Vanbkh.itemLines w x).drop 3)).2 q hq
      refine ⟨by rw [List.length_append, List.length_take]; omega, fun l hl => ?_⟩
      rcases List.mem_append.mp hl with hl | hl
      · exact f3 l (List.mem_of_mem_take hl)
      · exact f3 l (List.mem_of_mem_drop (cutm q hq l hl))
  | false =>
    rw [split_non v h1 h2 hh ht]
    refine ⟨?_, ?_, fun p hp => ?_⟩
    · rw [mCut_cons (by omega) (fun z => by rw [z] at f1; simp at f1)]
      simp
    · have := mCut_count (n := h) (m := 201) (k := 5) (by omega) hh (by omega) (l := Vanbkh.itemLines w x) (by omega)
      omega
    · exact ⟨(mCut_len (n := h) (by omega) _).2 p hp, fun l hl => f3 l (cutm p hp l hl)⟩
def pgStep (w h : Nat) (s : List (List (List UInt8)) × List (List UInt8)) (x : Vanbkh.Item) : List (List (List UInt8)) × List (List UInt8) :=
  if (mBehind s.2 (Vanbkh.itemLines w x)).length ≤ h then (s.1, mBehind s.2 (Vanbkh.itemLines w x))
  else ((if 0 < s.2.length then s.1 ++ [s.2] else s.1) ++ (Vanbkh.splitItem w h x).dropLast, (Vanbkh.splitItem w h x).getLastD [])
theorem pgStep_eq {w h : Nat} {x : Vanbkh.Item} (v : VI x) (h1 : 20 ≤ w) (h2 : w ≤ 120) (hh : 5 ≤ h) (s : List (List (List UInt8)) × List (List UInt8)) : Vanbkh.addToPages w h s x = pgStep w h s x := by
  have eb : (if s.2.isEmpty = true then Vanbkh.itemLines w x else s.2 ++ [[]] ++ Vanbkh.itemLines w x) = mBehind s.2 (Vanbkh.itemLines w x) := by
    unfold mBehind
    cases s.2 with
    | nil => rfl
    | cons a r => rfl
  have ef : (if s.2.isEmpty = true then s.1 else s.1 ++ [s.2]) = (if 0 < s.2.length then s.1 ++ [s.2] else s.1) := by
    cases s.2 with
    | nil => rfl
    | cons a r => rfl
  show (if (if s.2.isEmpty = true then Vanbkh.itemLines w x else s.2 ++ [[]] ++ Vanbkh.itemLines w x).length ≤ h then (s.1, (if s.2.isEmpty = true then Vanbkh.itemLines w x else s.2 ++ [[]] ++ Vanbkh.itemLines w x)) else
    (if (Vanbkh.itemLines w x).length ≤ h then ((if s.2.isEmpty = true then s.1 else s.1 ++ [s.2]), Vanbkh.itemLines w x) else ((if s.2.isEmpty = true then s.1 else s.1 ++ [s.2]) ++ (Vanbkh.splitItem w h x).dropLast, (Vanbkh.splitItem w h x).getLast?.getD []))) = _
  rw [eb, ef]
  unfold pgStep
  split
  · rfl
  · split
    · rename_i q
      rw [split_one v h1 h2 hh q]
      simp
    · rw [List.getLastD_eq_getLast?]
def pgFold (w h : Nat) (xs : List Vanbkh.Item) : List (List (List UInt8)) × List (List UInt8) := xs.foldl (pgStep w h) ([], [])
theorem pgFold_snoc (w h : Nat) (xs : List Vanbkh.Item) (x : Vanbkh.Item) : pgFold w h (xs ++ [x]) = pgStep w h (pgFold w h xs) x := by
  unfold pgFold
  rw [List.foldl_append]
  rfl
theorem pages_eq {w h : Nat} (h1 : 20 ≤ w) (h2 : w ≤ 120) (hh : 5 ≤ h) (xs : List Vanbkh.Item) (hv : ∀ x ∈ xs, VI x) : Vanbkh.pages w h xs = if 0 < (pgFold w h xs).2.length then (pgFold w h xs).1 ++ [(pgFold w h xs).2] else (pgFold w h xs).1 := by
  have key : ∀ (xs : List Vanbkh.Item) (s : List (List (List UInt8)) × List (List UInt8)), (∀ x ∈ xs, VI x) → xs.foldl (Vanbkh.addToPages w h) s = xs.foldl (pgStep w h) s := by
    intro xs
    induction xs with
    | nil => intro s _; rfl
    | cons x xs ih =>
      intro s hx
      rw [List.foldl_cons, List.foldl_cons, pgStep_eq (hx x (by simp)) h1 h2 hh]
      exact ih _ (fun y hy => hx y (by simp [hy]))
  have e : xs.foldl (Vanbkh.addToPages w h) ([], []) = pgFold w h xs := key xs _ hv
  show (if (xs.foldl (Vanbkh.addToPages w h) ([], [])).2.isEmpty = true then (xs.foldl (Vanbkh.addToPages w h) ([], [])).1 else (xs.foldl (Vanbkh.addToPages w h) ([], [])).1 ++ [(xs.foldl (Vanbkh.addToPages w h) ([], [])).2]) = _
  rw [e]
  cases (pgFold w h xs).2 with
  | nil => rfl
  | cons a r => rfl
theorem pgFold_bd {w h : Nat} (h1 : 20 ≤ w) (h2 : w ≤ 120) (hh : 5 ≤ h) : ∀ (n : Nat) (xs : List Vanbkh.Item), xs.length = n → (∀ x ∈ xs, VI x) → (pgFold w h xs).1.length ≤ 42 * xs.length ∧ ((pgFold w h xs).2.length ≤ h ∧ ∀ l ∈ (pgFold w h xs).2, l.length ≤ w) ∧ ∀ p ∈ (pgFold w h xs).1, p.length ≤ h ∧ ∀ l ∈ p, l.length ≤ w
  | 0, xs, hn, _ => by
    have : xs = [] := List.length_eq_zero_iff.mp hn
    subst this
    exact ⟨by simp [pgFold], ⟨by simp [pgFold], by simp [pgFold]⟩, by simp [pgFold]⟩
  | n + 1, xs, hn, hx => by
    have ne : xs ≠ [] := by intro z; rw [z] at hn; cases hn
    obtain ⟨m, x, rfl⟩ : ∃ m x, xs = m ++ [x] := ⟨xs.dropLast, xs.getLast ne, (List.dropLast_concat_getLast ne).symm⟩
    obtain ⟨i1, i2, i3⟩ := pgFold_bd h1 h2 hh n m (by simpa using hn) (fun y hy => hx y (by simp [hy]))
    have v := hx x (by simp)
    obtain ⟨f1, f2, f3⟩ := item_fits v h1 h2
    obtain ⟨s1, s2, s3⟩ := split_bd (h := h) v h1 h2 hh
    rw [pgFold_snoc]
    unfold pgStep
    split
    · rename_i q
      refine ⟨by simp; omega, ⟨q, fun l hl => ?_⟩, i3⟩
      have hl' : l ∈ mBehind (pgFold w h m).2 (Vanbkh.itemLines w x) := hl
      unfold mBehind at hl'
      split at hl'
      · exact f3 l hl'
      · simp only [List.mem_append, List.mem_cons, List.not_mem_nil, or_false] at hl'
        rcases hl' with (hl' | rfl) | hl'
        · exact i2.2 l hl'
        · exact Nat.zero_le _
        · exact f3 l hl'
    · have lst : (Vanbkh.splitItem w h x).getLastD [] ∈ Vanbkh.splitItem w h x := by
        rw [List.getLastD_eq_getLast?, List.getLast?_eq_some_getLast s1]
        exact List.getLast_mem s1
      refine ⟨?_, s3 _ lst, fun p hp => ?_⟩
      · rw [List.length_append, List.length_append, List.length_dropLast]
        split
        · rw [List.length_append]
          simp only [List.length_cons, List.length_nil]
          omega
        · simp only [List.length_cons, List.length_nil]
          omega
      · rcases List.mem_append.mp hp with hp | hp
        · split at hp
          · rcases List.mem_append.mp hp with hp | hp
            · exact i3 p hp
            · have : p = (pgFold w h m).2 := by simpa using hp
              rw [this]
              exact i2
          · exact i3 p hp
        · exact s3 p ((List.dropLast_sublist _).subset hp)
/-! lines encoded -/
theorem withLength_eq (x : List UInt8) : Vanbkh.withLength x = (x.length : Int) :: bI x := rfl
theorem encLines_len {w : Nat} : ∀ {ls : List (List UInt8)}, (∀ l ∈ ls, l.length ≤ w) → (ls.flatMap Vanbkh.withLength).length ≤ (w + 1) * ls.length
  | [], _ => by simp
  | l :: ls, h => by
    have h1 := h l (by simp)
    have ih := encLines_len (ls := ls) fun y hy => h y (by simp [hy])
    rw [List.flatMap_cons, List.length_append, withLength_eq, List.length_cons, bI_length, List.length_cons, Nat.mul_add]
    omega
end Rl
namespace Rl
open PySem L2 Dg
/-! ### showing -/
def qA (xs : List Vanbkh.Item) (c : Vanbkh.Call) : List Int := VanbkhNeutral.encode (Vanbkh.query ⟨xs⟩ c)
def VS (xs : List Vanbkh.Item) : Prop := (∀ x ∈ xs, VI x) ∧ xs.length ≤ 12
def hasI (n : Nat) (i : Int) : Bool := decide (0 ≤ i) && decide (i ≤ (n : Int) - 1)
theorem itemAt_none {xs : List Vanbkh.Item} {i : Int} (h : hasI xs.length i = false) : Vanbkh.itemAt ⟨xs⟩ i = none := by
  unfold Vanbkh.itemAt
  unfold hasI at h
  rw [Bool.and_eq_false_iff, decide_eq_false_iff_not, decide_eq_false_iff_not] at h
  split
  · rfl
  · exact List.getElem?_eq_none (by show xs.length ≤ _; omega)
theorem itemAt_some {xs : List Vanbkh.Item} {i : Int} (h : hasI xs.length i = true) : ∃ x, Vanbkh.itemAt ⟨xs⟩ i = some x ∧ atI xs i = some x ∧ x ∈ xs ∧ xs[i.toNat]? = some x ∧ 0 ≤ i ∧ i.toNat < xs.length := by
  unfold hasI at h
  simp only [Bool.and_eq_true, decide_eq_true_eq] at h
  have hl : i.toNat < xs.length := by omega
  refine ⟨xs[i.toNat], ?_, atI_lt h.1 (List.getElem?_eq_getElem hl), List.getElem_mem hl, List.getElem?_eq_getElem hl, h.1, hl⟩
  unfold Vanbkh.itemAt
  rw [if_neg (by omega)]
  exact List.getElem?_eq_getElem hl
theorem invalidW (w : Int) : Vanbkh.isInvalidWidth w = !(decide (20 ≤ w) && decide (w ≤ 120)) := rfl
theorem validW {w : Int} (h : (decide (20 ≤ w) && decide (w ≤ 120)) = true) : 20 ≤ w.toNat ∧ w.toNat ≤ 120 ∧ w = (w.toNat : Nat) := by
  simp only [Bool.and_eq_true, decide_eq_true_eq] at h
  omega
def encRows (rs : List (List Vanbkh.Cell)) : List Int := rs.flatMap fun r => r.flatMap Vanbkh.encodeCell
theorem encodeTable_eq (t : Vanbkh.Table) : Vanbkh.encodeTable t = [(t.headers.length : Int), (t.rows.length : Int)] ++ encRows (mRowsH t) := by
  unfold Vanbkh.encodeTable encRows mRowsH
  rw [List.flatMap_cons, List.flatMap_map, List.append_assoc]
  rfl
theorem encodeCell_len {c : Vanbkh.Cell} (h : Vanbkh.isValidCell c = true) : (Vanbkh.encodeCell c).length ≤ 202 := by
  cases c with
  | number z => exact (by decide : 2 ≤ 202)
  | text t =>
    have := valid_text h
    show (1 :: Vanbkh.withLength t).length ≤ 202
    rw [withLength_eq, List.length_cons, List.length_cons, bI_length]
    omega
theorem flat_leI {α : Type} {f : α → List Int} {c : Nat} : ∀ {l : List α}, (∀ x ∈ l, (f x).length ≤ c) → (l.flatMap f).length ≤ c * l.length
  | [], _ => by simp
  | x :: l, h => by
    have h1 := h x (by simp)
    have := flat_leI (l := l) fun y hy => h y (by simp [hy])
    simp only [List.flatMap_cons, List.length_append, List.length_cons, Nat.mul_add]
    omega
def cwA (w : Int) : Vanbkh.Item → Vanbkh.Answer
  | .table t => .numbers (Vanbkh.ofNat (Vanbkh.columnWidths w.toNat t).length :: (Vanbkh.columnWidths w.toNat t).map Vanbkh.ofNat)
  | _ => .error (-12)
theorem qA_widths (xs : List Vanbkh.Item) (i w : Int) : qA xs (.columnWidths i w) = VanbkhNeutral.encode (match Vanbkh.itemAt ⟨xs⟩ i with | none => .error (-11) | some x => if Vanbkh.isInvalidWidth w = true then .error (-14) else cwA w x) := by
  show VanbkhNeutral.encode (Vanbkh.onItem ⟨xs⟩ i w fun x => match x with | .table t => .numbers (Vanbkh.ofNat (Vanbkh.columnWidths w.toNat t).length :: (Vanbkh.columnWidths w.toNat t).map Vanbkh.ofNat) | _ => .error (-12)) = _
  unfold Vanbkh.onItem
  cases Vanbkh.itemAt ⟨xs⟩ i with
  | none => rfl
  | some x => cases x <;> rfl
inductive Shows : Int → List Int → Vanbkh.Call → Prop
  | item (i w : Int) : Shows 10 [i, w] (.itemLines i w)
  | doc (w : Int) : Shows 11 [w] (.documentLines w)
  | pages (w h : Int) : Shows 12 [w, h] (.pages w h)
  | widths (i w : Int) : Shows 13 [i, w] (.columnWidths i w)
  | kinds : Shows 15 [] .kinds
  | cells (i : Int) : Shows 16 [i] (.cells i)
def dCall (n : Int) (is ls : List Int) : D := .obj "Call" [("number", .int n), ("integers", .lst (dI is)), ("listed", .lst (dI ls))]
end Rl
namespace Rl
open PySem L2 Dg
theorem rowsOf_eq {n : Nat} (hn : 0 < n) : ∀ (k : Nat) (l : List Vanbkh.Cell), l.length ≤ k → Vanbkh.rowsOf n k l = mCut n l
  | 0, l, h => by
    have : l = [] := List.length_eq_zero_iff.mp (by omega)
    subst this
    rw [mCut_nil hn]
    rfl
  | k + 1, l, h => by
    unfold Vanbkh.rowsOf
    cases l with
    | nil => rw [mCut_nil hn]; rfl
    | cons a r =>
      rw [mCut_cons hn (by simp)]
      show (if false = true then [] else _) = _
      rw [if_neg (by simp)]
      congr 1
      exact rowsOf_eq hn k _ (by rw [List.length_drop, List.length_cons] at *; omega)
theorem mTxt_valid {n : Int} {r : List Int} {c : Vanbkh.Cell} (h : mTxt n r = some c) : Vanbkh.isValidCell c = true := by
  unfold mTxt at h
  split at h
  · rename_i q
    cases h
    simp only [Bool.and_eq_true] at q
    exact validText_of (by rw [mIsText_eq]; exact q.2)
  · cases h
theorem mStep_valid {r r' : List Int} {c : Vanbkh.Cell} (hv : ∀ x ∈ r, Vanbkh.isValidNumber x = true) (h : mStep r = some (c, r')) : Vanbkh.isValidCell c = true := by
  match r, h with
  | a :: b :: q, h =>
    rw [mStep_two] at h
    split at h
    · cases h
      exact hv b (by simp)
    · split at h
      · cases z : mTxt b q with
        | none => rw [z] at h; cases h
        | some c' =>
          rw [z] at h
          cases h
          exact mTxt_valid z
      · cases h
theorem cells_ok : ∀ (k : Nat) (l : List Int) (cs : List Vanbkh.Cell), (∀ x ∈ l, Vanbkh.isValidNumber x = true) → Vanbkh.cellsFrom k l = some cs → cs.length ≤ k ∧ ∀ c ∈ cs, Vanbkh.isValidCell c = true := by
  intro k
  induction k with
  | zero =>
    intro l cs hv h
    cases l with
    | nil =>
      have h' : some ([] : List Vanbkh.Cell) = some cs := h
      have : cs = [] := (Option.some.inj h').symm
      subst this
      simp
    | cons a r => cases h
  | succ k ih =>
    intro l cs hv h
    by_cases ne : l = []
    · subst ne
      have h' : some ([] : List Vanbkh.Cell) = some cs := h
      have : cs = [] := (Option.some.inj h').symm
      subst this
      simp
    · rw [cellsFrom_step ne hv] at h
      cases q : mStep l with
      | none => rw [q] at h; cases h
      | some cr =>
        obtain ⟨c, r'⟩ := cr
        rw [q] at h
        obtain ⟨p, e3, _, _⟩ := mStep_enc q
        have h2 : (Vanbkh.cellsFrom k r').map (c :: ·) = some cs := h
        cases z : Vanbkh.cellsFrom k r' with
        | none => rw [z] at h2; cases h2
        | some cs' =>
          rw [z] at h2
          cases h2
          obtain ⟨i1, i2⟩ := ih r' cs' (fun x hx => hv x (by rw [e3]; simp [hx])) z
          refine ⟨by simp; omega, fun y hy => ?_⟩
          rcases List.mem_cons.mp hy with rfl | hy
          · exact mStep_valid hv q
          · exact i2 y hy
theorem heads_text {cs : List Vanbkh.Cell} (h : cs.any Vanbkh.isNumber = false) : (cs.map Vanbkh.textOf).map Vanbkh.Cell.text = cs := by
  rw [List.map_map]
  conv => rhs; rw [← List.map_id cs]
  refine List.map_congr_left fun c hc => ?_
  cases c with
  | text t => rfl
  | number z =>
    have := List.any_eq_false.mp h _ hc
    exact absurd rfl this
end Rl
namespace Rl
open PySem L2 Dg
/-! ### what calls keep -/
theorem cut_exact {α : Type} {n : Nat} (hn : 0 < n) : ∀ (k : Nat) (l : List α), l.length = n * k → (mCut n l).length = k ∧ ∀ p ∈ mCut n l, p.length = n ∧ ∀ c ∈ p, c ∈ l
  | 0, l, h => by
    have : l = [] := List.length_eq_zero_iff.mp (by simpa using h)
    subst this
    rw [mCut_nil hn]
    exact ⟨rfl, by simp⟩
  | k + 1, l, h => by
    rw [Nat.mul_add, Nat.mul_one] at h
    have hne : l ≠ [] := fun z => by rw [z, List.length_nil] at h; omega
    rw [mCut_cons hn hne]
    obtain ⟨i1, i2⟩ := cut_exact hn k (l.drop n) (by rw [List.length_drop]; omega)
    refine ⟨by rw [List.length_cons, i1], fun p hp => ?_⟩
    rcases List.mem_cons.mp hp with rfl | hp
    · exact ⟨by rw [List.length_take]; omega, fun c hc => List.mem_of_mem_take hc⟩
    · obtain ⟨j1, j2⟩ := i2 p hp
      exact ⟨j1, fun c hc => List.mem_of_mem_drop (j2 c hc)⟩
theorem table_VT {cs : List Vanbkh.Cell} {n : Nat} (h1 : 1 ≤ n) (h8 : n ≤ 8) (hv : ∀ c ∈ cs, Vanbkh.isValidCell c = true) (hm : cs.length % n = 0) (hne : cs ≠ []) (hle : cs.length ≤ 25 * n) (ht : (cs.take n).any Vanbkh.isNumber = false) :
    VT { headers := (cs.take n).map Vanbkh.textOf, rows := mCut n (cs.drop n) } := by
  obtain ⟨k, hk⟩ : ∃ k, cs.length = n * k := ⟨cs.length / n, (Nat.mul_div_cancel' (Nat.dvd_of_mod_eq_zero hm)).symm⟩
  have hpos : 0 < cs.length := List.length_pos_iff.mpr hne
  obtain ⟨j, rfl⟩ : ∃ j, k = j + 1 := ⟨k - 1, by
    cases k with
    | zero => rw [Nat.mul_zero] at hk; omega
    | succ k => omega⟩
  rw [Nat.mul_add, Nat.mul_one] at hk
  have hj : j ≤ 24 := by
    have : n * j + n ≤ 25 * n := by omega
    have h2 : n * j ≤ n * 24 := by omega
    exact Nat.le_of_mul_le_mul_left h2 (by omega)
  obtain ⟨c1, c2⟩ := cut_exact (n := n) (by omega) j (cs.drop n) (by rw [List.length_drop]; omega)
  have hl : ((cs.take n).map Vanbkh.textOf).length = n := by rw [List.length_map, List.length_take]; omega
  refine ⟨by show 1 ≤ ((cs.take n).map Vanbkh.textOf).length; omega, by show ((cs.take n).map Vanbkh.textOf).length ≤ 8; omega, by show (mCut n (cs.drop n)).length ≤ 24; omega, fun r hr => ?_⟩
  have hr' : r ∈ ((cs.take n).map Vanbkh.textOf).map Vanbkh.Cell.text :: mCut n (cs.drop n) := hr
  show r.length = ((cs.take n).map Vanbkh.textOf).length ∧ _
  rw [hl]
  rcases List.mem_cons.mp hr' with rfl | hr'
  · rw [heads_text ht]
    exact ⟨by rw [List.length_take]; omega, fun c hc => hv c (List.mem_of_mem_take hc)⟩
  · obtain ⟨q1, q2⟩ := c2 r hr'
    exact ⟨q1, fun c hc => hv c (List.mem_of_mem_drop (q2 c hc))⟩
theorem select_VT {t : Vanbkh.Table} (v : VT t) {ks : List Int} (h1 : 1 ≤ ks.length) (h8 : ks.length ≤ 8) (hk : ∀ k ∈ ks, 0 ≤ k ∧ k < t.headers.length) : VT (Vanbkh.selectColumns (ks.map Int.toNat) t) := by
  have pick : ∀ {α : Type} (r : List α), r.length = t.headers.length → ∀ js : List Int, (∀ k ∈ js, 0 ≤ k ∧ k < t.headers.length) → ((js.map Int.toNat).filterMap fun k => r[k]?).length = js.length ∧ ∀ c ∈ (js.map Int.toNat).filterMap fun k => r[k]?, c ∈ r := by
    intro α r hr js
    induction js with
    | nil => intro _; exact ⟨rfl, by simp⟩
    | cons k js ih =>
      intro h
      have hkk := h k (by simp)
      have hl : k.toNat < r.length := by omega
      obtain ⟨i1, i2⟩ := ih fun j hj => h j (by simp [hj])
      rw [List.map_cons, List.filterMap_cons, List.getElem?_eq_getElem hl]
      refine ⟨by show _ + 1 = _ + 1; rw [i1], fun c hc => ?_⟩
      have hc' : c ∈ r[k.toNat] :: ((js.map Int.toNat).filterMap fun k => r[k]?) := hc
      rcases List.mem_cons.mp hc' with rfl | hc'
      · exact List.getElem_mem hl
      · exact i2 c hc'
  have ph := pick t.headers rfl ks hk
  have vrs := v.rs
  refine ⟨?_, ?_, ?_, fun r hr => ?_⟩
  · show 1 ≤ ((ks.map Int.toNat).filterMap fun k => t.headers[k]?).length
    omega
  · show ((ks.map Int.toNat).filterMap fun k => t.headers[k]?).length ≤ 8
    omega
  · show (t.rows.map _).length ≤ 24
    rw [List.length_map]
    exact vrs
  · show r.length = ((ks.map Int.toNat).filterMap fun k => t.headers[k]?).length ∧ _
    rw [ph.1]
    have hr' : r ∈ (((ks.map Int.toNat).filterMap fun k => t.headers[k]?).map Vanbkh.Cell.text) :: t.rows.map (fun r => (ks.map Int.toNat).filterMap fun k => r[k]?) := hr
    rcases List.mem_cons.mp hr' with rfl | hr'
    · refine ⟨by rw [List.length_map, ph.1], fun c hc => ?_⟩
      obtain ⟨x, hx, rfl⟩ := List.mem_map.mp hc
      exact (v.row (t.headers.map .text) (by simp [mRowsH])).2 _ (List.mem_map_of_mem (ph.2 x hx))
    · obtain ⟨r0, hr0, rfl⟩ := List.mem_map.mp hr'
      have q := v.row r0 (by simp [mRowsH, hr0])
      have p0 := pick r0 q.1 ks hk
      exact ⟨p0.1, fun c hc => q.2 c (p0.2 c hc)⟩
end Rl
namespace Rl
open PySem L2 Dg
theorem keep_app {s : List Vanbkh.Item} (hs : VS s) {errors : List (Bool × Int)} {x : Vanbkh.Item} (hx : Vanbkh.firstError errors = none → s.length < 12 ∧ VI x) : VS (Vanbkh.appendItem ⟨s⟩ errors x).1.items := by
  unfold Vanbkh.appendItem
  cases q : Vanbkh.firstError errors with
  | some n => exact hs
  | none =>
    obtain ⟨h1, h2⟩ := hx q
    refine ⟨fun y hy => ?_, ?_⟩
    · have hy' : y ∈ s ++ [x] := hy
      rcases List.mem_append.mp hy' with hy' | hy'
      · exact hs.1 y hy'
      · have : y = x := by simpa using hy'
        rw [this]
        exact h2
    · show (s ++ [x]).length ≤ 12
      rw [List.length_append]
      show s.length + 1 ≤ 12
      omega
theorem first_none : ∀ {l : List (Bool × Int)}, Vanbkh.firstError l = none → ∀ p ∈ l, p.1 = false
  | [], _, p, hp => by simp at hp
  | (c, n) :: r, h, p, hp => by
    have h' : (if c = true then some n else Vanbkh.firstError r) = none := h
    cases c with
    | true => cases h'
    | false =>
      rcases List.mem_cons.mp hp with rfl | hp
      · rfl
      · exact first_none (l := r) h' p hp
theorem full12 {s : List Vanbkh.Item} (h : Vanbkh.isFull ⟨s⟩ = false) : s.length < 12 := by
  have h' : decide (12 ≤ s.length) = false := h
  have := of_decide_eq_false h'
  omega
theorem text200 {l : List Int} (h : (!Vanbkh.isText l) = false) : (Vanbkh.bytesOf l).length ≤ 200 := by
  have h2 : Vanbkh.isText l = true := by simpa using h
  rw [← mIsText_eq] at h2
  have := text_len h2
  unfold Vanbkh.bytesOf
  rw [List.length_map]
  exact this
theorem pts_mem : ∀ (n : Nat) (l : List Int), l.length ≤ n → ∀ p ∈ Vanbkh.pointsOf l, p.1 ∈ l ∧ p.2 ∈ l
  | 0, l, h, p, hp => by
    have : l = [] := List.length_eq_zero_iff.mp (by omega)
    subst this
    simp [Vanbkh.pointsOf] at hp
  | n + 1, l, h, p, hp => by
    match l, h, hp with
    | [], _, hp => simp [Vanbkh.pointsOf] at hp
    | [a], _, hp => simp [Vanbkh.pointsOf] at hp
    | a :: b :: r, h, hp =>
      have hp' : p ∈ (a, b) :: Vanbkh.pointsOf r := hp
      rcases List.mem_cons.mp hp' with rfl | hp'
      · simp
      · have := pts_mem n r (by simp at h; omega) p hp'
        exact ⟨by simp [this.1], by simp [this.2]⟩
theorem pts_len : ∀ (n : Nat) (l : List Int), l.length ≤ n → 2 * (Vanbkh.pointsOf l).length ≤ l.length
  | 0, l, h => by
    have : l = [] := List.length_eq_zero_iff.mp (by omega)
    subst this
    simp [Vanbkh.pointsOf]
  | n + 1, l, h => by
    match l, h with
    | [], _ => simp [Vanbkh.pointsOf]
    | [a], _ => simp [Vanbkh.pointsOf]
    | a :: b :: r, h =>
      have := pts_len n r (by simp at h; omega)
      show 2 * ((Vanbkh.pointsOf r).length + 1) ≤ r.length + 2
      omega
theorem keep_heading {s : List Vanbkh.Item} (hs : VS s) (k : Int) (l : List Int) : VS (Vanbkh.step ⟨s⟩ (.addHeading k l)).1.items :=
  keep_app hs fun h => by
    have f := first_none h
    have f1 := full12 (f (Vanbkh.isFull ⟨s⟩, -1) (by simp))
    have f2 : (!Vanbkh.isBetween k 1 3) = false := f (!Vanbkh.isBetween k 1 3, -2) (by simp)
    have f3 := text200 (f (!Vanbkh.isText l, -3) (by simp))
    unfold Vanbkh.isBetween at f2
    simp only [Bool.not_eq_false', Bool.and_eq_true, decide_eq_true_eq] at f2
    exact ⟨f1, ⟨by omega, by omega⟩, f3⟩
theorem keep_para {s : List Vanbkh.Item} (hs : VS s) (l : List Int) : VS (Vanbkh.step ⟨s⟩ (.addParagraph l)).1.items :=
  keep_app hs fun h => by
    have f := first_none h
    exact ⟨full12 (f (Vanbkh.isFull ⟨s⟩, -1) (by simp)), text200 (f (!Vanbkh.isText l, -3) (by simp))⟩
theorem keep_check {s : List Vanbkh.Item} (hs : VS s) (k : Int) (l : List Int) : VS (Vanbkh.step ⟨s⟩ (.addCheck k l)).1.items :=
  keep_app hs fun h => by
    have f := first_none h
    exact ⟨full12 (f (Vanbkh.isFull ⟨s⟩, -1) (by simp)), text200 (f (!Vanbkh.isText l, -3) (by simp))⟩
theorem keep_plot {s : List Vanbkh.Item} (hs : VS s) (k : Int) (l : List Int) : VS (Vanbkh.step ⟨s⟩ (.addPlot k l)).1.items :=
  keep_app hs fun h => by
    have f := first_none h
    have f1 := full12 (f (Vanbkh.isFull ⟨s⟩, -1) (by simp))
    have f2 : (!Vanbkh.isBetween k 3 40) = false := f (!Vanbkh.isBetween k 3 40, -7) (by simp)
    have f3 : (l.length % 2 != 0 || decide (2 * Vanbkh.maxPoints < l.length)) = false := f (l.length % 2 != 0 || decide (2 * Vanbkh.maxPoints < l.length), -8) (by simp)
    have f4 : (l.any fun z => !Vanbkh.isBetween z (1 - Vanbkh.limit) (Vanbkh.limit - 1)) = false := f (l.any fun z => !Vanbkh.isBetween z (1 - Vanbkh.limit) (Vanbkh.limit - 1), -9) (by simp)
    unfold Vanbkh.isBetween at f2
    simp only [Bool.not_eq_false', Bool.and_eq_true, decide_eq_true_eq] at f2
    unfold Vanbkh.maxPoints at f3
    simp only [Bool.or_eq_false_iff, decide_eq_false_iff_not] at f3
    have pl := pts_len _ l (Nat.le_refl _)
    have zb : ∀ z ∈ l, z.natAbs < 10 ^ 18 := fun z hz => by
      have := List.any_eq_false.mp f4 z hz
      unfold Vanbkh.isBetween Vanbkh.limit at this
      simp at this
      omega
    exact ⟨f1, by omega, by omega, by omega, fun p hp => by
      have := pts_mem _ l (Nat.le_refl _) p hp
      exact ⟨zb _ this.1, zb _ this.2⟩⟩
theorem keep_table {s : List Vanbkh.Item} (hs : VS s) (k : Int) {l : List Int} (hv : ∀ x ∈ l, Vanbkh.isValidNumber x = true) : VS (Vanbkh.step ⟨s⟩ (.addTable k l)).1.items :=
  keep_app hs fun h => by
    have f := first_none h
    have f1 := full12 (f (Vanbkh.isFull ⟨s⟩, -1) (by simp))
    have f2 : (!Vanbkh.isBetween k 1 (Vanbkh.ofNat Vanbkh.maxColumns)) = false := f _ (.tail _ (.head _))
    have f4 : (((Vanbkh.decodeCells l).getD []).length % k.toNat != 0 || ((Vanbkh.decodeCells l).getD []).isEmpty || decide ((Vanbkh.maxRows + 1) * k.toNat < ((Vanbkh.decodeCells l).getD []).length)) = false := f _ (.tail _ (.tail _ (.tail _ (.head _))))
    have f5 : (((Vanbkh.decodeCells l).getD []).take k.toNat).any Vanbkh.isNumber = false := f _ (.tail _ (.tail _ (.tail _ (.tail _ (.head _)))))
    have f2' : (!(decide (1 ≤ k) && decide (k ≤ 8))) = false := f2
    simp only [Bool.not_eq_false', Bool.and_eq_true, decide_eq_true_eq] at f2'
    refine ⟨f1, ?_⟩
    cases q : Vanbkh.decodeCells l with
    | none => rw [q] at f4; simp at f4
    | some cs =>
      rw [q, Option.getD_some] at f4 f5
      obtain ⟨cl, cv⟩ := cells_ok _ l cs hv q
      simp only [Bool.or_eq_false_iff, decide_eq_false_iff_not] at f4
      have hne : cs ≠ [] := fun z => by rw [z] at f4; simp at f4
      have hm : cs.length % k.toNat = 0 := by simpa using f4.1.1
      have hle : cs.length ≤ 25 * k.toNat := by
        have h25 : ¬ (24 + 1) * k.toNat < cs.length := f4.2
        omega
      rw [Option.getD_some, rowsOf_eq (n := k.toNat) (by omega) cs.length (cs.drop k.toNat) (by rw [List.length_drop]; omega)]
      exact table_VT (by omega) (by omega) cv hm hne hle f5
end Rl
namespace Rl
open PySem L2 Dg
theorem bars_mem : ∀ (n : Nat) (cs : List Vanbkh.Cell) (l : List (List UInt8 × Int)), cs.length ≤ n → Vanbkh.barsOf cs = some l → cs.length = 2 * l.length ∧ ∀ b ∈ l, Vanbkh.Cell.text b.1 ∈ cs
  | 0, cs, l, h, e => by
    have : cs = [] := List.length_eq_zero_iff.mp (by omega)
    subst this
    cases e
    simp
  | n + 1, cs, l, h, e => by
    match cs, h, e with
    | [], _, e => cases e; simp
    | [a], _, e => cases a <;> cases e
    | .text t :: .number z :: r, h, e =>
      have e' : (Vanbkh.barsOf r).map (fun l => (t, z) :: l) = some l := e
      cases q : Vanbkh.barsOf r with
      | none => rw [q] at e'; cases e'
      | some l' =>
        rw [q] at e'
        cases e'
        obtain ⟨i1, i2⟩ := bars_mem n r l' (by simp at h; omega) q
        refine ⟨by simp; omega, fun b hb => ?_⟩
        rcases List.mem_cons.mp hb with rfl | hb
        · simp
        · have := i2 b hb
          simp [this]
    | .text t :: .text u :: r, _, e => cases e
    | .number z :: b :: r, _, e => cases b <;> cases e
theorem keep_bars {s : List Vanbkh.Item} (hs : VS s) {l : List Int} (hv : ∀ x ∈ l, Vanbkh.isValidNumber x = true) : VS (Vanbkh.step ⟨s⟩ (.addBars l)).1.items :=
  keep_app hs fun h => by
    have f := first_none h
    have f1 := full12 (f (Vanbkh.isFull ⟨s⟩, -1) (by simp))
    have f3 : (((Vanbkh.decodeCells l).getD []).length % 2 != 0 || decide (2 * Vanbkh.maxBars < ((Vanbkh.decodeCells l).getD []).length)) = false := f _ (.tail _ (.tail _ (.head _)))
    have f4 : (Vanbkh.barsOf ((Vanbkh.decodeCells l).getD [])).isNone = false := f _ (.tail _ (.tail _ (.tail _ (.head _))))
    have f5 : (((Vanbkh.barsOf ((Vanbkh.decodeCells l).getD [])).getD []).any fun x => !Vanbkh.isBetween x.2 0 (Vanbkh.limit - 1)) = false := f _ (.tail _ (.tail _ (.tail _ (.tail _ (.head _)))))
    refine ⟨f1, ?_⟩
    have cv : ∀ c ∈ (Vanbkh.decodeCells l).getD [], Vanbkh.isValidCell c = true := by
      cases q : Vanbkh.decodeCells l with
      | none => simp
      | some cs => exact (cells_ok _ l cs hv q).2
    generalize (Vanbkh.decodeCells l).getD [] = cs at *
    cases q : Vanbkh.barsOf cs with
    | none => rw [q] at f4; cases f4
    | some L =>
      rw [q, Option.getD_some] at f5
      obtain ⟨b1, b2⟩ := bars_mem _ cs L (Nat.le_refl _) q
      unfold Vanbkh.maxBars at f3
      simp only [Bool.or_eq_false_iff, decide_eq_false_iff_not] at f3
      show VB L
      refine ⟨by omega, fun b hb => ?_⟩
      have t1 : Vanbkh.isValidText b.1 = true := cv _ (b2 b hb)
      have z1 := List.any_eq_false.mp f5 b hb
      unfold Vanbkh.isBetween Vanbkh.limit at z1
      simp at z1
      exact ⟨valid_text t1, by omega, by omega⟩
theorem keep_sub {s t : List Vanbkh.Item} (hs : VS s) (hm : ∀ x ∈ t, x ∈ s) (hl : t.length ≤ 12) : VS t := ⟨fun x hx => hs.1 x (hm x hx), hl⟩
theorem keep_set {s : List Vanbkh.Item} (hs : VS s) (k : Nat) {x : Vanbkh.Item} (hx : VI x) : VS (s.set k x) := ⟨fun y hy => by
  rcases List.mem_or_eq_of_mem_set hy with h | h
  · exact hs.1 y h
  · rw [h]; exact hx, by rw [List.length_set]; exact hs.2⟩
theorem keep_read {s : List Vanbkh.Item} (hs : VS s) (l : List Int) : VS (Vanbkh.step ⟨s⟩ (.readTable l)).1.items := by
  have e : Vanbkh.step ⟨s⟩ (.readTable l) = if Vanbkh.isFull ⟨s⟩ = true then (⟨s⟩, .error (-1)) else match Vanbkh.readBytes l with | none => (⟨s⟩, .error (-16)) | some x => ({ items := s ++ [.table x] }, .numbers [Vanbkh.ofNat s.length]) := rfl
  rw [e]
  by_cases hf : Vanbkh.isFull ⟨s⟩ = true
  · rw [if_pos hf]
    exact hs
  · rw [if_neg hf]
    cases q : Vanbkh.readBytes l with
    | none => exact hs
    | some t =>
      have v : VT t := by
        unfold Vanbkh.readBytes at q
        split at q
        · unfold Vanbkh.parseTable at q
          simp only at q
          split at q
          · cases q
          · split at q
            · rename_i h2
              cases q
              simp only [Bool.and_eq_true] at h2
              exact vt_of h2.1
            · cases q
        · cases q
      refine ⟨fun y hy => ?_, ?_⟩
      · have hy' : y ∈ s ++ [.table t] := hy
        rcases List.mem_append.mp hy' with hy' | hy'
        · exact hs.1 y hy'
        · have : y = .table t := by simpa using hy'
          rw [this]
          exact v
      · show (s ++ [Vanbkh.Item.table t]).length ≤ 12
        have := full12 (s := s) (by simpa using hf)
        rw [List.length_append]
        show s.length + 1 ≤ 12
        omega
theorem keep_remove {s : List Vanbkh.Item} (hs : VS s) (i : Int) : VS (Vanbkh.step ⟨s⟩ (.remove i)).1.items := by
  have e : Vanbkh.step ⟨s⟩ (.remove i) = match Vanbkh.itemAt ⟨s⟩ i with | none => (⟨s⟩, .error (-11)) | some _ => ({ items := Vanbkh.without s i.toNat }, .numbers [0]) := rfl
  rw [e]
  cases Vanbkh.itemAt ⟨s⟩ i with
  | none => exact hs
  | some x =>
    refine keep_sub hs (fun y hy => ?_) ?_
    · have hy' : y ∈ s.take i.toNat ++ s.drop (i.toNat + 1) := hy
      rcases List.mem_append.mp hy' with h | h
      · exact List.mem_of_mem_take h
      · exact List.mem_of_mem_drop h
    · show (s.take i.toNat ++ s.drop (i.toNat + 1)).length ≤ 12
      have := hs.2
      rw [List.length_append, List.length_take, List.length_drop]
      omega
theorem keep_move {s : List Vanbkh.Item} (hs : VS s) (i j : Int) : VS (Vanbkh.step ⟨s⟩ (.move i j)).1.items := by
  have e : Vanbkh.step ⟨s⟩ (.move i j) = if ((Vanbkh.itemAt ⟨s⟩ i).isNone || (Vanbkh.itemAt ⟨s⟩ j).isNone) = true then (⟨s⟩, .error (-11)) else ({ items := Vanbkh.moved s i.toNat j.toNat }, .numbers [0]) := rfl
  rw [e]
  split
  · exact hs
  · show VS (Vanbkh.moved s i.toNat j.toNat)
    unfold Vanbkh.moved
    cases q : s[i.toNat]? with
    | none => exact hs
    | some x =>
      have hx := List.mem_of_getElem? q
      have hl := (List.getElem?_eq_some_iff.mp q).1
      have wm : ∀ y ∈ Vanbkh.without s i.toNat, y ∈ s := fun y hy => by
        unfold Vanbkh.without at hy
        rcases List.mem_append.mp hy with h | h
        · exact List.mem_of_mem_take h
        · exact List.mem_of_mem_drop h
      have wl : (Vanbkh.without s i.toNat).length + 1 = s.length := by
        unfold Vanbkh.without
        rw [List.length_append, List.length_take, List.length_drop]
        omega
      refine keep_sub hs (fun y hy => ?_) ?_
      · rcases List.mem_append.mp hy with h | h
        · exact wm y (List.mem_of_mem_take h)
        · rcases List.mem_cons.mp h with rfl | h
          · exact hx
          · exact wm y (List.mem_of_mem_drop h)
      · have := hs.2
        rw [List.length_append, List.length_cons, List.length_take, List.length_drop]
        omega
theorem keep_onTable {s : List Vanbkh.Item} (hs : VS s) (i : Int) (errors : Vanbkh.Table → List (Bool × Int)) (f : Vanbkh.Table → Vanbkh.Table) (hf : ∀ t, VT t → Vanbkh.firstError (errors t) = none → VT (f t)) : VS (Vanbkh.onTable ⟨s⟩ i errors f).1.items := by
  unfold Vanbkh.onTable
  cases q : Vanbkh.itemAt ⟨s⟩ i with
  | none => exact hs
  | some x =>
    have hx : x ∈ s := by
      unfold Vanbkh.itemAt at q
      split at q
      · cases q
      · exact List.mem_of_getElem? q
    cases x with
    | table t =>
      show VS (match Vanbkh.firstError (errors t) with | some n => (⟨s⟩, .error n) | none => ({ items := s.set i.toNat (.table (f t)) }, .numbers [0]) : Vanbkh.State × Vanbkh.Answer).1.items
      cases w : Vanbkh.firstError (errors t) with
      | some n => exact hs
      | none => exact keep_set hs i.toNat (hf t (hs.1 _ hx) w)
    | heading _ _ => exact hs
    | paragraph _ => exact hs
    | plot _ _ => exact hs
    | check _ _ => exact hs
    | bars _ => exact hs
theorem keep_select {s : List Vanbkh.Item} (hs : VS s) (i : Int) (ks : List Int) : VS (Vanbkh.step ⟨s⟩ (.select i ks)).1.items :=
  keep_onTable hs i _ _ fun t v h => by
    have f := first_none h
    have f1 : (ks.isEmpty || decide (Vanbkh.maxColumns < ks.length)) = false := f _ (.head _)
    have f2 : (ks.any fun k => !Vanbkh.isBetween k 0 (Vanbkh.ofNat t.headers.length - 1)) = false := f _ (.tail _ (.head _))
    unfold Vanbkh.maxColumns at f1
    simp only [Bool.or_eq_false_iff, decide_eq_false_iff_not] at f1
    refine select_VT v ?_ (by omega) (fun k hk => ?_)
    · cases ks with
      | nil => cases f1.1
      | cons a r => simp
    · have := List.any_eq_false.mp f2 k hk
      unfold Vanbkh.isBetween Vanbkh.ofNat at this
      simp at this
      omega
theorem insert_perm (pr : Vanbkh.Cell → Vanbkh.Cell → Bool) (k : Nat) (r : List Vanbkh.Cell) : ∀ l : List (List Vanbkh.Cell), (Vanbkh.insertRow pr k r l).Perm (r :: l)
  | [] => List.Perm.refl _
  | q :: l => by
    unfold Vanbkh.insertRow
    split
    · split
      · exact (List.Perm.cons q (insert_perm pr k r l)).trans (List.Perm.swap r q l)
      · exact List.Perm.refl _
    · exact List.Perm.refl _
theorem sort_perm (d : Bool) (k : Nat) : ∀ l : List (List Vanbkh.Cell), (Vanbkh.sortRows d k l).Perm l
  | [] => List.Perm.refl _
  | r :: l => by
    have ih := sort_perm d k l
    show (Vanbkh.insertRow _ k r (Vanbkh.sortRows d k l)).Perm (r :: l)
    exact (insert_perm _ k r _).trans (List.Perm.cons r ih)
theorem sort_VT {t : Vanbkh.Table} (v : VT t) (d : Bool) (k : Nat) : VT { t with rows := Vanbkh.sortRows d k t.rows } := by
  have pm := sort_perm d k t.rows
  refine ⟨v.lo, v.hi, ?_, fun r hr => ?_⟩
  · show (Vanbkh.sortRows d k t.rows).length ≤ 24
    rw [pm.length_eq]
    exact v.rs
  · have hr' : r ∈ t.headers.map Vanbkh.Cell.text :: Vanbkh.sortRows d k t.rows := hr
    refine v.row r ?_
    rcases List.mem_cons.mp hr' with rfl | h
    · exact List.mem_cons_self
    · exact List.mem_cons_of_mem _ (pm.mem_iff.mp h)
theorem keep_sort {s : List Vanbkh.Item} (hs : VS s) (i c d : Int) : VS (Vanbkh.step ⟨s⟩ (.sort i c d)).1.items :=
  keep_onTable hs i _ _ fun t v _ => sort_VT v (d == 1) c.toNat
theorem keep_all {s : List Vanbkh.Item} (hs : VS s) (c : Vanbkh.Call) (hv : ∀ l, (∃ n, c = .addTable n l) ∨ c = .addBars l → ∀ x ∈ l, Vanbkh.isValidNumber x = true) : VS (Vanbkh.step ⟨s⟩ c).1.items := by
  cases c with
  | addHeading k l => exact keep_heading hs k l
  | addParagraph l => exact keep_para hs l
  | addTable n l => exact keep_table hs n (hv l (.inl ⟨n, rfl⟩))
  | addPlot h l => exact keep_plot hs h l
  | addCheck p l => exact keep_check hs p l
  | addBars l => exact keep_bars hs (hv l (.inr rfl))
  | remove i => exact keep_remove hs i
  | move i j => exact keep_move hs i j
  | sort i c d => exact keep_sort hs i c d
  | select i ks => exact keep_select hs i ks
  | itemLines i w => exact hs
  | documentLines w => exact hs
  | pages w h => exact hs
  | columnWidths i w => exact hs
  | readTable l => exact keep_read hs l
  | kinds => exact hs
  | cells i => exact hs
end Rl
namespace Rl
open PySem L2 Dg
/-! ### the full text of a valid table, read by the specification -/
theorem sp_cons (c x : UInt8) (r : List UInt8) : Vanbkh.splitAtByte c (x :: r) = match Vanbkh.splitAtByte c r with
    | [] => [[x]]
    | p :: ps => if x == c then [] :: p :: ps else (x :: p) :: ps := by rw [Vanbkh.splitAtByte] <;> rfl
theorem sp_ne (c : UInt8) : ∀ r : List UInt8, ∃ p ps, Vanbkh.splitAtByte c r = p :: ps
  | [] => ⟨[], [], rfl⟩
  | x :: r => by
    obtain ⟨p, ps, e⟩ := sp_ne c r
    rw [sp_cons, e]
    dsimp only
    split
    · exact ⟨_, _, rfl⟩
    · exact ⟨_, _, rfl⟩
theorem sp_at (c : UInt8) (r : List UInt8) : Vanbkh.splitAtByte c (c :: r) = [] :: Vanbkh.splitAtByte c r := by
  obtain ⟨p, ps, e⟩ := sp_ne c r
  rw [sp_cons, e]
  simp
theorem sp_in {c x : UInt8} (h : x ≠ c) {r : List UInt8} {p : List UInt8} {ps : List (List UInt8)} (e : Vanbkh.splitAtByte c r = p :: ps) : Vanbkh.splitAtByte c (x :: r) = (x :: p) :: ps := by
  rw [sp_cons, e]
  have : (x == c) = false := beq_eq_false_iff_ne.mpr h
  simp [this]
theorem sp_no {c : UInt8} : ∀ {x : List UInt8}, c ∉ x → ∀ r : List UInt8, Vanbkh.splitAtByte c (x ++ c :: r) = x :: Vanbkh.splitAtByte c r
  | [], _, r => sp_at c r
  | a :: x, h, r => sp_in (fun z => h (by rw [z]; simp)) (sp_no (x := x) (fun m => h (List.mem_cons_of_mem _ m)) r)
theorem sp_one {c : UInt8} : ∀ {x : List UInt8}, c ∉ x → Vanbkh.splitAtByte c x = [x]
  | [], _ => rfl
  | a :: x, h => sp_in (fun z => h (by rw [z]; simp)) (sp_one (x := x) fun m => h (List.mem_cons_of_mem _ m))
theorem sp_join {c : UInt8} : ∀ {ls : List (List UInt8)}, ls ≠ [] → (∀ l ∈ ls, c ∉ l) → Vanbkh.splitAtByte c (Vanbkh.join [c] ls) = ls
  | [], h, _ => absurd rfl h
  | [x], _, h => sp_one (h x (by simp))
  | x :: y :: r, _, h => by
    have ih := sp_join (c := c) (ls := y :: r) (by simp) fun l hl => h l (List.mem_cons_of_mem _ hl)
    show Vanbkh.splitAtByte c (x ++ [c] ++ Vanbkh.join [c] (y :: r)) = _
    rw [List.append_assoc]
    show Vanbkh.splitAtByte c (x ++ c :: Vanbkh.join [c] (y :: r)) = _
    rw [sp_no (h x (by simp)), ih]
/-! what printed cells hold -/
theorem esc_mem {c d : UInt8} (h : d ∈ Vanbkh.escape c) : d ≠ 10 ∧ d ≠ 124 := by
  have key : ∀ c : UInt8, (Vanbkh.escape c).all (fun d => d != 10 && d != 124) = true := fun c => u8_all (P := fun c => (Vanbkh.escape c).all (fun d => d != 10 && d != 124) = true) (by decide +kernel) c
  have := List.all_eq_true.mp (key c) d h
  simpa using this
theorem plain_mem {t : List UInt8} (h : Vanbkh.isPlain t = true) {d : UInt8} (hd : d ∈ t) : d ≠ 10 ∧ d ≠ 124 ∧ d ≠ 34 := by
  unfold Vanbkh.isPlain at h
  simp only [Bool.and_eq_true, Bool.not_eq_true'] at h
  have := List.any_eq_false.mp h.1.1.1.2 d hd
  unfold Vanbkh.needsEscape at this
  simp at this
  exact ⟨this.1.1.1.1, this.1.2, this.1.1.1.2⟩
theorem dec_mem {z : Int} {d : UInt8} (h : d ∈ Vanbkh.decimal z) : d = 45 ∨ (48 ≤ d.toNat ∧ d.toNat ≤ 57) := by
  rw [decimal_eq] at h
  split at h
  · exact .inr (decN_dig h)
  · rcases List.mem_cons.mp h with h | h
    · exact .inl h
    · exact .inr (decN_dig h)
theorem dec_mem' {z : Int} {d : UInt8} (h : d ∈ Vanbkh.decimal z) : d ≠ 10 ∧ d ≠ 124 ∧ d ≠ 32 ∧ d ≠ 34 := by
  rcases dec_mem h with rfl | h
  · decide
  · refine ⟨?_, ?_, ?_, ?_⟩ <;> (rintro rfl; exact absurd h (by decide))
theorem print_mem (c : Vanbkh.Cell) {d : UInt8} (h : d ∈ Vanbkh.printCell c) : d ≠ 10 ∧ d ≠ 124 := by
  cases c with
  | number z => exact ⟨(dec_mem' h).1, (dec_mem' h).2.1⟩
  | text t =>
    have h' : d ∈ Vanbkh.printText t := h
    unfold Vanbkh.printText at h'
    split at h'
    · rename_i q
      exact ⟨(plain_mem q h').1, (plain_mem q h').2.1⟩
    · simp only [List.mem_append, List.mem_singleton, List.mem_flatMap] at h'
      rcases h' with (rfl | ⟨c, _, h'⟩) | rfl
      · decide
      · exact esc_mem h'
      · decide
/-- neither begins nor ends with a space, is not empty -/
structure Tight (l : List UInt8) : Prop where
  ne : l ≠ []
  hd : l.head? ≠ some 32
  tl : l.getLast? ≠ some 32
theorem print_tight (c : Vanbkh.Cell) : Tight (Vanbkh.printCell c) := by
  cases c with
  | number z =>
    have ne : Vanbkh.decimal z ≠ [] := List.length_pos_iff.mp (decimal_pos z)
    refine ⟨ne, fun e => ?_, fun e => ?_⟩
    · exact (dec_mem' (z := z) (List.mem_of_mem_head? (by rw [show (Vanbkh.decimal z).head? = some 32 from e]; simp))).2.2.1 rfl
    · exact (dec_mem' (z := z) (List.mem_of_mem_getLast? (by rw [show (Vanbkh.decimal z).getLast? = some 32 from e]; simp))).2.2.1 rfl
  | text t =>
    show Tight (Vanbkh.printText t)
    unfold Vanbkh.printText
    split
    · rename_i q
      unfold Vanbkh.isPlain at q
      simp only [Bool.and_eq_true, Bool.not_eq_true', bne_iff_ne, ne_eq] at q
      exact ⟨fun z => by rw [z] at q; simp at q, q.1.1.2, q.1.2⟩
    · refine ⟨by simp, by simp, ?_⟩
      rw [List.getLast?_append]
      simp
theorem trimEnd_tight {l : List UInt8} (h : Tight l) (n : Nat) : Vanbkh.trimEnd (l ++ List.replicate n 32) = l := by
  unfold Vanbkh.trimEnd
  rw [List.reverse_append, List.reverse_replicate]
  have e1 : ∀ n (m : List UInt8), (List.replicate n (32 : UInt8) ++ m).dropWhile (fun c => c == 32) = m.dropWhile fun c => c == 32 := by
    intro n m
    induction n with
    | zero => rfl
    | succ n ih =>
      rw [List.replicate_succ, List.cons_append, List.dropWhile_cons]
      simpa using ih
  rw [e1]
  have e2 : l.reverse.dropWhile (fun c => c == 32) = l.reverse := by
    have hh : l.reverse.head? ≠ some 32 := by rw [List.head?_reverse]; exact h.tl
    cases q : l.reverse with
    | nil => rfl
    | cons a r =>
      rw [q] at hh
      have : (a == 32) = false := beq_eq_false_iff_ne.mpr fun z => hh (by simp [z])
      rw [List.dropWhile_cons, this]
      simp
  rw [e2, List.reverse_reverse]
theorem dropHead_tight {l : List UInt8} (h : Tight l) (n : Nat) (m : List UInt8) : (List.replicate n 32 ++ (l ++ m)).dropWhile (fun c => c == 32) = l ++ m := by
  induction n with
  | zero =>
    show (l ++ m).dropWhile _ = _
    cases q : l with
    | nil => exact absurd q h.ne
    | cons a r =>
      have hh := h.hd
      rw [q] at hh
      have : (a == 32) = false := beq_eq_false_iff_ne.mpr fun z => hh (by simp [z])
      rw [List.cons_append, List.dropWhile_cons, this]
      simp
  | succ n ih =>
    rw [List.replicate_succ, List.cons_append, List.dropWhile_cons]
    simpa using ih
theorem trim_tight {l : List UInt8} (h : Tight l) (n m : Nat) : Vanbkh.trim (List.replicate n 32 ++ (l ++ List.replicate m 32)) = l := by
  unfold Vanbkh.trim
  rw [dropHead_tight h, trimEnd_tight h]
/-- a cell's field: its printed form among spaces -/
theorem align_is {n : Nat} {c : Vanbkh.Cell} (h : (Vanbkh.printCell c).length ≤ n) : ∃ a b, Vanbkh.alignCell n c = List.replicate a 32 ++ (Vanbkh.printCell c ++ List.replicate b 32) := by
  have e : Vanbkh.truncate n (Vanbkh.printCell c) = Vanbkh.printCell c := by
    unfold Vanbkh.truncate
    rw [if_pos h]
  unfold Vanbkh.alignCell
  rw [e]
  split
  · exact ⟨n - (Vanbkh.printCell c).length, 0, by simp [Vanbkh.padLeft, Vanbkh.spaces]⟩
  · exact ⟨0, n - (Vanbkh.printCell c).length, by simp [Vanbkh.padRight, Vanbkh.spaces]⟩
theorem unesc_cons (c : UInt8) (r : List UInt8) : Vanbkh.unescape (Vanbkh.escape c ++ r) = if c = 34 ∨ c = 92 ∨ c = 10 ∨ c = 124 ∨ c = 126 then (Vanbkh.unescape r).map (c :: ·) else Vanbkh.unescape (c :: r) := by
  unfold Vanbkh.escape
  by_cases h1 : c = 34
  · subst h1; simp [Vanbkh.unescape]
  by_cases h2 : c = 92
  · subst h2; simp [Vanbkh.unescape]
  by_cases h3 : c = 10
  · subst h3; simp [Vanbkh.unescape]
  by_cases h4 : c = 124
  · subst h4; simp [Vanbkh.unescape]
  by_cases h5 : c = 126
  · subst h5; simp [Vanbkh.unescape]
  simp [h1, h2, h3, h4, h5]
theorem unesc_other {c : UInt8} (h1 : c ≠ 34) (h2 : c ≠ 92) (r : List UInt8) : Vanbkh.unescape (c :: r) = (Vanbkh.unescape r).map (c :: ·) := by
  rw [Vanbkh.unescape] <;> simp_all
theorem unesc_all : ∀ t : List UInt8, Vanbkh.unescape (t.flatMap Vanbkh.escape ++ [34]) = some t
  | [] => by simp [Vanbkh.unescape]
  | c :: t => by
    rw [List.flatMap_cons, List.append_assoc, unesc_cons]
    split
    · rw [unesc_all t]
      rfl
    · rename_i h
      simp only [not_or] at h
      rw [unesc_other h.1 h.2.1, unesc_all t]
      rfl
theorem parse_printed (c : Vanbkh.Cell) : (match Vanbkh.parseNumber (Vanbkh.printCell c) with
    | some z => Vanbkh.Cell.number z
    | none => match Vanbkh.printCell c with
      | 34 :: r => .text ((Vanbkh.unescape r).getD [])
      | t => .text t) = c := by
  cases c with
  | number z =>
    show (match Vanbkh.parseNumber (Vanbkh.decimal z) with | some z => Vanbkh.Cell.number z | none => _) = _
    rw [parse_decimal]
  | text t =>
    show (match Vanbkh.parseNumber (Vanbkh.printText t) with | some z => Vanbkh.Cell.number z | none => match Vanbkh.printText t with | 34 :: r => .text ((Vanbkh.unescape r).getD []) | t => .text t) = _
    unfold Vanbkh.printText
    by_cases h : Vanbkh.isPlain t = true
    · rw [if_pos h]
      have hn : Vanbkh.parseNumber t = none := by
        unfold Vanbkh.isPlain at h
        simp only [Bool.and_eq_true] at h
        simpa using h.2
      rw [hn]
      cases t with
      | nil => rfl
      | cons a r =>
        have ha : a ≠ 34 := (plain_mem h (by simp)).2.2
        show (match a :: r with | 34 :: r => Vanbkh.Cell.text ((Vanbkh.unescape r).getD []) | t => .text t) = _
        split
        · rename_i q
          exact absurd (List.cons.inj q).1 ha
        · rfl
    · rw [if_neg h]
      have hn : Vanbkh.parseNumber ([34] ++ t.flatMap Vanbkh.escape ++ [34]) = none := by
        have := parse_some ([34] ++ t.flatMap Vanbkh.escape ++ [34])
        have q : mIsDec (bI ([34] ++ t.flatMap Vanbkh.escape ++ [34])) = false := by
          unfold mIsDec
          rw [digs_bI]
          have e : (([34] ++ t.flatMap Vanbkh.escape ++ [34]).head? == some 45) = false := by simp
          rw [e]
          simp [bI, bi]
        rw [q] at this
        simpa using this
      rw [hn]
      show Vanbkh.Cell.text ((Vanbkh.unescape (t.flatMap Vanbkh.escape ++ [34])).getD []) = _
      rw [unesc_all]
      rfl
theorem readCell_align {n : Nat} {c : Vanbkh.Cell} (h : (Vanbkh.printCell c).length ≤ n) (hv : Vanbkh.isValidCell c = true) : Vanbkh.readCell (Vanbkh.alignCell n c) = c := by
  obtain ⟨a, b, e⟩ := align_is h
  have et : Vanbkh.trim (Vanbkh.alignCell n c) = Vanbkh.printCell c := by rw [e, trim_tight (print_tight c)]
  have hl := printCell_len hv
  unfold Vanbkh.readCell Vanbkh.maxPrintedCell
  rw [et, if_neg (by omega)]
  unfold Vanbkh.parseCell
  rw [et]
  exact parse_printed c
/-! rulers, contents -/
theorem ruler_dash : ∀ (k m : Nat) (r : List UInt8), Vanbkh.rulerWidths m (List.replicate k 45 ++ 43 :: r) = (m + k - 2) :: Vanbkh.rulerWidths 0 r
  | 0, m, r => by simp [Vanbkh.rulerWidths]
  | k + 1, m, r => by
    rw [List.replicate_succ, List.cons_append]
    show Vanbkh.rulerWidths (m + 1) (List.replicate k 45 ++ 43 :: r) = _
    rw [ruler_dash k (m + 1) r]
    congr 1
    omega
theorem ruler_read : ∀ ws : List Nat, ws ≠ [] → Vanbkh.rulerWidths 0 ((Vanbkh.ruler ws).drop 1) = ws
  | [], h => absurd rfl h
  | [n], _ => by
    have e : (Vanbkh.ruler [n]).drop 1 = List.replicate (n + 2) 45 ++ 43 :: [] := by simp [Vanbkh.ruler]
    rw [e, ruler_dash]
    show [0 + (n + 2) - 2] = _
    congr 1
    omega
  | n :: m :: ws, _ => by
    have ih := ruler_read (m :: ws) (by simp)
    have e : (Vanbkh.ruler (n :: m :: ws)).drop 1 = List.replicate (n + 2) 45 ++ 43 :: (Vanbkh.ruler (m :: ws)).drop 1 := by
      unfold Vanbkh.ruler
      simp
    rw [e, ruler_dash, ih]
    congr 1
    omega
theorem contents_row : ∀ (ws : List Nat) (cs : List Vanbkh.Cell), cs.length = ws.length → (∀ x ∈ ws, 1 ≤ x) → Vanbkh.cellContents ws (Vanbkh.rowLine ws cs) = (ws.zip cs).map fun x => Vanbkh.alignCell x.1 x.2
  | [], [], _, _ => rfl
  | [], _ :: _, h, _ => by cases h
  | _ :: _, [], h, _ => by cases h
  | n :: ws, c :: cs, h, h1 => by
    have ih := contents_row ws cs (by simpa using h) fun x hx => h1 x (by simp [hx])
    have la := align_len c (h1 n (by simp))
    have e : Vanbkh.rowLine (n :: ws) (c :: cs) = ([124, 32] ++ Vanbkh.alignCell n c ++ [32]) ++ Vanbkh.rowLine ws cs := by
      unfold Vanbkh.rowLine
      rw [List.zip_cons_cons, List.flatMap_cons, List.append_assoc]
    show ((Vanbkh.rowLine (n :: ws) (c :: cs)).drop 2).take n :: Vanbkh.cellContents ws ((Vanbkh.rowLine (n :: ws) (c :: cs)).drop (n + 3)) = Vanbkh.alignCell n c :: _
    have e2 : (Vanbkh.rowLine (n :: ws) (c :: cs)).drop 2 = Vanbkh.alignCell n c ++ ([32] ++ Vanbkh.rowLine ws cs) := by
      rw [e]
      simp
    have e3 : (Vanbkh.rowLine (n :: ws) (c :: cs)).drop (n + 3) = Vanbkh.rowLine ws cs := by
      rw [e]
      exact List.drop_left' (by simp [la])
    rw [e2, e3, ih, List.take_left' la]
    rfl
/-- each cell is printed within its column's width -/
theorem natural_fits {t : Vanbkh.Table} (h : VT t) {r : List Vanbkh.Cell} (hr : r ∈ mRowsH t) {c : Nat} {n : Nat} {x : Vanbkh.Cell} (hn : (Vanbkh.naturalWidths t)[c]? = some n) (hx : r[c]? = some x) : (Vanbkh.printCell x).length ≤ n := by
  have hl := (h.row r hr).1
  have hc : c < r.length := (List.getElem?_eq_some_iff.mp hx).1
  have e : n = Vanbkh.naturalWidth t c := by
    unfold Vanbkh.naturalWidths at hn
    rw [List.getElem?_map, List.getElem?_range (by omega)] at hn
    exact (Option.some.inj hn).symm
  rw [e, natural_eq h (by omega)]
  refine maximum_le (List.mem_map.mpr ⟨r, hr, ?_⟩)
  rw [List.getD_eq_getElem?_getD, hx]
  rfl
theorem row_read {t : Vanbkh.Table} (h : VT t) {r : List Vanbkh.Cell} (hr : r ∈ mRowsH t) : (Vanbkh.cellContents (Vanbkh.naturalWidths t) (Vanbkh.rowLine (Vanbkh.naturalWidths t) r)).map Vanbkh.readCell = r := by
  have hl := h.row r hr
  have hw := naturals_bd h
  rw [contents_row _ _ (by rw [naturals_len]; exact hl.1) (fun x hx => (hw x hx).1), List.map_map]
  apply List.ext_getElem
  · simp [naturals_len, hl.1]
  · intro i h1 h2
    have h3 : i < (Vanbkh.naturalWidths t).length := by rw [naturals_len]; omega
    simp only [List.getElem_map, List.getElem_zip, Function.comp]
    exact readCell_align (natural_fits h hr (List.getElem?_eq_getElem h3) (List.getElem?_eq_getElem h2)) (hl.2 _ (List.getElem_mem h2))
theorem ruler_no10 (ws : List Nat) : (10 : UInt8) ∉ Vanbkh.ruler ws := by
  unfold Vanbkh.ruler
  simp only [List.mem_append, List.mem_flatMap, List.mem_cons, List.mem_replicate, List.not_mem_nil, or_false, not_or, not_exists, not_and]
  exact ⟨fun n _ => ⟨by decide, fun _ => by decide⟩, by decide⟩
theorem align_mem {n : Nat} {c : Vanbkh.Cell} (h : (Vanbkh.printCell c).length ≤ n) {d : UInt8} (hd : d ∈ Vanbkh.alignCell n c) : d ≠ 10 ∧ d ≠ 124 := by
  obtain ⟨a, b, e⟩ := align_is h
  rw [e] at hd
  simp only [List.mem_append, List.mem_replicate] at hd
  rcases hd with ⟨_, rfl⟩ | hd | ⟨_, rfl⟩
  · decide
  · exact print_mem c hd
  · decide
theorem zip_fits {t : Vanbkh.Table} (h : VT t) {r : List Vanbkh.Cell} (hr : r ∈ mRowsH t) {x : Nat × Vanbkh.Cell} (hx : x ∈ (Vanbkh.naturalWidths t).zip r) : (Vanbkh.printCell x.2).length ≤ x.1 := by
  obtain ⟨i, hi, e⟩ := List.mem_iff_getElem.mp hx
  rw [List.length_zip] at hi
  rw [List.getElem_zip] at e
  subst e
  exact natural_fits h hr (List.getElem?_eq_getElem (by omega)) (List.getElem?_eq_getElem (by omega))
theorem row_no10 {t : Vanbkh.Table} (h : VT t) {r : List Vanbkh.Cell} (hr : r ∈ mRowsH t) : (10 : UInt8) ∉ Vanbkh.rowLine (Vanbkh.naturalWidths t) r := by
  unfold Vanbkh.rowLine
  simp only [List.mem_append, List.mem_flatMap, List.mem_cons, List.not_mem_nil, or_false, not_or, not_exists, not_and]
  refine ⟨fun x hx => ⟨⟨⟨by decide, by decide⟩, fun m => (align_mem (zip_fits h hr hx) m).1 rfl⟩, by decide⟩, by decide⟩
theorem lines_no10 {t : Vanbkh.Table} (h : VT t) : ∀ l ∈ Vanbkh.tableWith (Vanbkh.naturalWidths t) t, (10 : UInt8) ∉ l := fun l hl => by
  unfold Vanbkh.tableWith at hl
  simp only [List.mem_append, List.mem_cons, List.not_mem_nil, or_false, List.mem_map] at hl
  rcases hl with ((rfl | rfl | rfl) | ⟨r, hr, rfl⟩) | rfl
  · exact ruler_no10 _
  · exact row_no10 h (r := t.headers.map .text) (by simp [mRowsH])
  · exact ruler_no10 _
  · exact row_no10 h (by simp [mRowsH, hr])
  · exact ruler_no10 _
theorem text_lines {t : Vanbkh.Table} (h : VT t) : Vanbkh.splitAtByte 10 (Vanbkh.tableText t) = Vanbkh.tableWith (Vanbkh.naturalWidths t) t := by
  unfold Vanbkh.tableText
  exact sp_join (by simp [Vanbkh.tableWith]) (lines_no10 h)
theorem valid_of {t : Vanbkh.Table} (h : VT t) : Vanbkh.isValidTable t = true := by
  unfold Vanbkh.isValidTable Vanbkh.maxColumns Vanbkh.maxRows
  simp only [Bool.and_eq_true, decide_eq_true_eq, List.all_eq_true, beq_iff_eq]
  refine ⟨⟨⟨⟨h.lo, h.hi⟩, h.rs⟩, fun x hx => ?_⟩, fun r hr => h.row r (by simp [mRowsH, hr])⟩
  exact (h.row (t.headers.map .text) (by simp [mRowsH])).2 (.text x) (List.mem_map_of_mem hx)
theorem parse_text {t : Vanbkh.Table} (h : VT t) : Vanbkh.parseTable (Vanbkh.tableText t) = some t := by
  have hw := naturals_len t
  have hlo := h.lo
  have hhi := h.hi
  have hrs := h.rs
  have wne : Vanbkh.naturalWidths t ≠ [] := fun z => by rw [z] at hw; simp at hw; omega
  have e0 : ((Vanbkh.tableWith (Vanbkh.naturalWidths t) t).headD []) = Vanbkh.ruler (Vanbkh.naturalWidths t) := rfl
  have el : (Vanbkh.tableWith (Vanbkh.naturalWidths t) t).length = t.rows.length + 4 := by simp [Vanbkh.tableWith]
  unfold Vanbkh.parseTable
  simp only [text_lines h]
  rw [e0, ruler_read _ wne, el, hw, if_neg (by
    have h1 : decide (Vanbkh.maxColumns < t.headers.length) = false := decide_eq_false (by unfold Vanbkh.maxColumns; omega)
    have h2 : decide (Vanbkh.maxRows + 4 < t.rows.length + 4) = false := decide_eq_false (by unfold Vanbkh.maxRows; omega)
    rw [h1, h2]
    simp)]
  have ec : Vanbkh.tableCandidate (Vanbkh.tableWith (Vanbkh.naturalWidths t) t) = t := by
    unfold Vanbkh.tableCandidate
    simp only [e0, ruler_read _ wne]
    have e1 : ((Vanbkh.tableWith (Vanbkh.naturalWidths t) t)[1]?).getD [] = Vanbkh.rowLine (Vanbkh.naturalWidths t) (t.headers.map .text) := rfl
    have e3 : ((Vanbkh.tableWith (Vanbkh.naturalWidths t) t).drop 3).dropLast = t.rows.map (Vanbkh.rowLine (Vanbkh.naturalWidths t)) := by
      show (t.rows.map (Vanbkh.rowLine (Vanbkh.naturalWidths t)) ++ [Vanbkh.ruler (Vanbkh.naturalWidths t)]).dropLast = _
      rw [List.dropLast_concat]
    rw [e1, e3]
    have h1 := row_read h (r := t.headers.map .text) (by simp [mRowsH])
    have h1' : (Vanbkh.cellContents (Vanbkh.naturalWidths t) (Vanbkh.rowLine (Vanbkh.naturalWidths t) (t.headers.map .text))).map (fun l => Vanbkh.textOf (Vanbkh.readCell l)) = t.headers := by
      have e : (fun l => Vanbkh.textOf (Vanbkh.readCell l)) = Vanbkh.textOf ∘ Vanbkh.readCell := rfl
      rw [e, ← List.map_map, h1, List.map_map]
      have : Vanbkh.textOf ∘ Vanbkh.Cell.text = id := rfl
      rw [this, List.map_id]
    have h2 : (t.rows.map (Vanbkh.rowLine (Vanbkh.naturalWidths t))).map (fun r => (Vanbkh.cellContents (Vanbkh.naturalWidths t) r).map Vanbkh.readCell) = t.rows := by
      rw [List.map_map]
      conv => rhs; rw [← List.map_id t.rows]
      exact List.map_congr_left fun r hr => row_read h (by simp [mRowsH, hr])
    rw [h1', h2]
  rw [ec, valid_of h]
  simp
end Rl
namespace Rl
open PySem L2 Dg
/-! ### the full text of a valid table, read by the program -/
theorem val_fold : ∀ (l : List UInt8) (n : Nat), (∀ c ∈ l, 48 ≤ c.toNat ∧ c.toNat ≤ 57) → (bI l).foldl (fun a x => 10 * a + x - 48) (n : Int) = ((foldD l n : Nat) : Int)
  | [], n, _ => rfl
  | c :: l, n, h => by
    have hc := h c (by simp)
    have ih := val_fold l (10 * n + (c.toNat - 48)) fun d hd => h d (by simp [hd])
    show (bI l).foldl _ (10 * (n : Int) + bi c - 48) = ((foldD l (10 * n + (c.toNat - 48)) : Nat) : Int)
    rw [← ih]
    congr 1
    unfold bi
    omega
theorem val_dec (n : Nat) : mVal (bI (decN n)) = n := by
  have := val_fold (decN n) 0 fun c hc => decN_dig hc
  rw [foldD_decN] at this
  exact this
theorem dec_head (n : Nat) : (decN n).head? ≠ some 45 := fun e => by
  have : (45 : UInt8) ∈ decN n := List.mem_of_mem_head? (by rw [e]; simp)
  have q := decN_dig this
  exact absurd q (by decide)
theorem digs_dec (z : Int) : mDigs (bI (Vanbkh.decimal z)) = bI (decN z.natAbs) := by
  rw [digs_bI, decimal_eq]
  by_cases h : 0 ≤ z
  · rw [if_pos h]
    have e : ((decN z.toNat).head? == some 45) = false := beq_eq_false_iff_ne.mpr (dec_head _)
    rw [e, if_neg (by simp)]
    rw [show z.toNat = z.natAbs by omega]
  · rw [if_neg h]
    simp only [List.head?_cons, beq_self_eq_true, if_true, List.drop_succ_cons, List.drop_zero]
    rw [show (-z).toNat = z.natAbs by omega]
theorem read_number {z : Int} (h : Vanbkh.isValidNumber z = true) : mReadCell (bI (Vanbkh.decimal z)) = some (.number z) := by
  have hd : mIsDec (bI (Vanbkh.decimal z)) = true := by
    have := parse_some (Vanbkh.decimal z)
    rw [parse_decimal] at this
    simpa using this
  unfold mReadCell
  rw [if_pos hd]
  unfold mReadNum
  have hv := valid_num h
  have hl : (decN z.natAbs).length ≤ 30 := (decN_len _ (by decide)).mpr hv
  rw [digs_dec, bI_length, if_neg (by omega), val_dec]
  congr 2
  rw [decimal_eq]
  by_cases q : 0 ≤ z
  · rw [if_pos q]
    have e : ¬ (bI (decN z.toNat)).head? = some 45 := fun e => by
      cases r : decN z.toNat with
      | nil => exact decN_ne _ r
      | cons a l =>
        rw [r] at e
        have e' : bi a = bi 45 := Option.some.inj e
        exact dec_head z.toNat (by rw [r, bi_inj e']; rfl)
    rw [if_neg e]
    omega
  · rw [if_neg q, if_pos (show (bI (45 :: decN (-z).toNat)).head? = some 45 from rfl)]
    omega
theorem unesc_bI : ∀ t : List UInt8, mUnesc (bI (t.flatMap Vanbkh.escape)) = some (bI t)
  | [] => rfl
  | c :: t => by
    have ih := unesc_bI t
    rw [List.flatMap_cons, bI_append, esc_get]
    by_cases h : Vanbkh.needsEscape c = true
    · rw [if_pos h]
      have key : ∀ c : UInt8, Vanbkh.needsEscape c = true → dESCAPED.lookup ((dESCAPES.lookup (bi c)).getD (bi c)) = some (bi c) := fun c => u8_all (P := fun c => Vanbkh.needsEscape c = true → dESCAPED.lookup ((dESCAPES.lookup (bi c)).getD (bi c)) = some (bi c)) (by decide +kernel) c
      show mUnesc (92 :: (dESCAPES.lookup (bi c)).getD (bi c) :: bI (t.flatMap Vanbkh.escape)) = _
      have e : ∀ (e : Int) (r : List Int), mUnesc (92 :: e :: r) = (match dESCAPED.lookup e with | none => none | some b => (mUnesc r).map (b :: ·)) := fun _ _ => rfl
      rw [e, key c h, ih]
      rfl
    · rw [if_neg h]
      have h2 : dESCAPES.lookup (bi c) = none := by
        have := esc_in c
        rw [Bool.not_eq_true] at h
        rw [h] at this
        simpa using this
      have h3 : ¬ bi c = 92 := fun z => by
        have : c = 92 := bi_inj (e := 92) z
        subst this
        exact h rfl
      rw [h2]
      show mUnesc (bi c :: bI (t.flatMap Vanbkh.escape)) = _
      have e : mUnesc (bi c :: bI (t.flatMap Vanbkh.escape)) = (mUnesc (bI (t.flatMap Vanbkh.escape))).map (bi c :: ·) := by
        cases bI (t.flatMap Vanbkh.escape) with
        | nil =>
          show (if bi c = 92 then none else some [bi c]) = some [bi c]
          rw [if_neg h3]
        | cons a r =>
          show (if bi c = 92 then _ else _) = _
          rw [if_neg h3]
      rw [e, ih]
      rfl
theorem mIsText_bI {t : List UInt8} (h : Vanbkh.isValidText t = true) : mIsText (bI t) = true := by
  have hl := valid_text h
  unfold mIsText
  rw [bI_length, if_neg (by omega)]
  unfold Vanbkh.isValidText at h
  simp only [Bool.and_eq_true, List.all_eq_true] at h
  rw [List.all_eq_true]
  intro x hx
  obtain ⟨c, hc, rfl⟩ := List.mem_map.mp hx
  have key : ∀ c : UInt8, mIsTB (bi c) = Vanbkh.isTextByte c := fun c => u8_all (P := fun c => mIsTB (bi c) = Vanbkh.isTextByte c) (by decide +kernel) c
  rw [key]
  exact h.2 c hc
theorem read_printed {c : Vanbkh.Cell} (hv : Vanbkh.isValidCell c = true) : mReadCell (bI (Vanbkh.printCell c)) = some c := by
  cases c with
  | number z => exact read_number hv
  | text t =>
    have ht : mIsText (bI t) = true := mIsText_bI hv
    show mReadCell (bI (Vanbkh.printText t)) = _
    unfold mReadCell
    have hd : mIsDec (bI (Vanbkh.printText t)) = false := by
      unfold Vanbkh.printText
      by_cases h : Vanbkh.isPlain t = true
      · rw [if_pos h]
        have := parse_some t
        unfold Vanbkh.isPlain at h
        simp only [Bool.and_eq_true] at h
        rw [h.2] at this
        simpa using this
      · rw [if_neg h]
        unfold mIsDec
        rw [digs_bI]
        have e : (([34] ++ t.flatMap Vanbkh.escape ++ [34]).head? == some 45) = false := by simp
        rw [e]
        simp [bI, bi]
    rw [if_neg (by rw [hd]; simp)]
    unfold mReadTxt
    have hi : mInner (bI (Vanbkh.printText t)) = some (bI t) := by
      unfold mInner Vanbkh.printText
      by_cases h : Vanbkh.isPlain t = true
      · rw [if_pos h, if_neg]
        intro e
        cases t with
        | nil => cases e
        | cons a r =>
          have e' : bi a = bi 34 := Option.some.inj e
          exact (plain_mem h (d := a) (by simp)).2.2 (bi_inj e')
      · rw [if_neg h]
        have e : bI ([34] ++ t.flatMap Vanbkh.escape ++ [34]) = 34 :: (bI (t.flatMap Vanbkh.escape) ++ [34]) := by
          rw [bI_append, bI_append]
          rfl
        rw [e, if_pos (show (34 :: (bI (t.flatMap Vanbkh.escape) ++ [34])).head? = some 34 from rfl)]
        show mUnesc ((bI (t.flatMap Vanbkh.escape) ++ [34]).take ((34 :: (bI (t.flatMap Vanbkh.escape) ++ [34])).length - 1 - 1)) = _
        rw [List.take_left' (by simp), unesc_bI]
    rw [hi]
    show (if mIsText (bI t) then some (Vanbkh.Cell.text (Vanbkh.bytesOf (bI t))) else none) = _
    rw [if_pos ht, bytesOf_bI]
theorem isSp_bi (c : UInt8) : isSp (bi c) = (c == 32) := by
  unfold isSp
  rw [Bool.eq_iff_iff]
  simp only [decide_eq_true_eq, beq_iff_eq]
  exact bi_eq c 32
theorem dropSp : ∀ l : List UInt8, (bI l).dropWhile isSp = bI (l.dropWhile fun c => c == 32)
  | [] => rfl
  | c :: l => by
    show (bi c :: bI l).dropWhile isSp = _
    rw [List.dropWhile_cons, List.dropWhile_cons, isSp_bi]
    split
    · exact dropSp l
    · rfl
theorem bI_rev (l : List UInt8) : (bI l).reverse = bI l.reverse := List.map_reverse.symm
theorem strip_bI (l : List UInt8) : mStrip (bI l) = bI (Vanbkh.trim l) := by
  unfold mStrip Vanbkh.trim Vanbkh.trimEnd
  rw [dropSp, bI_rev, dropSp, bI_rev]
theorem cellOf_field {n : Nat} {c : Vanbkh.Cell} (h : (Vanbkh.printCell c).length ≤ n) (hv : Vanbkh.isValidCell c = true) : mCellOf (bI ([32] ++ Vanbkh.alignCell n c ++ [32])) = some c := by
  obtain ⟨a, b, e⟩ := align_is h
  have e2 : ([32] ++ Vanbkh.alignCell n c ++ [32] : List UInt8) = List.replicate (a + 1) 32 ++ (Vanbkh.printCell c ++ List.replicate (b + 1) 32) := by
    rw [e, List.replicate_succ, List.replicate_succ' (n := b)]
    simp
  unfold mCellOf
  rw [strip_bI, e2, trim_tight (print_tight c)]
  exact read_printed hv
theorem split_row : ∀ (xs : List (Nat × Vanbkh.Cell)), (∀ x ∈ xs, (Vanbkh.printCell x.2).length ≤ x.1) →
    Vanbkh.splitAtByte 124 ((xs.flatMap fun x => [124, 32] ++ Vanbkh.alignCell x.1 x.2 ++ [32]) ++ [124]) = [] :: (xs.map fun x => [32] ++ Vanbkh.alignCell x.1 x.2 ++ [32]) ++ [[]]
  | [], _ => rfl
  | x :: xs, h => by
    have ih := split_row xs fun y hy => h y (by simp [hy])
    have no : (124 : UInt8) ∉ ([32] ++ Vanbkh.alignCell x.1 x.2 ++ [32]) := by
      simp only [List.mem_append, List.mem_singleton, not_or]
      exact ⟨⟨by decide, fun m => (align_mem (h x (by simp)) m).2 rfl⟩, by decide⟩
    have e : ((x :: xs).flatMap fun x => [124, 32] ++ Vanbkh.alignCell x.1 x.2 ++ [32]) ++ [124] = [] ++ 124 :: (([32] ++ Vanbkh.alignCell x.1 x.2 ++ [32]) ++ ((xs.flatMap fun x => [124, 32] ++ Vanbkh.alignCell x.1 x.2 ++ [32]) ++ [124])) := by
      rw [List.flatMap_cons]
      simp
    rw [e, sp_no (by simp)]
    have e2 : ∀ (p : List UInt8), (124 : UInt8) ∉ p → ∀ m : List UInt8, ∀ ps, Vanbkh.splitAtByte 124 m = [] :: ps → Vanbkh.splitAtByte 124 (p ++ m) = p :: ps := by
      intro p
      induction p with
      | nil => intro _ m ps hm; exact hm
      | cons a p ihp =>
        intro hp m ps hm
        exact sp_in (fun z => hp (by rw [z]; simp)) (ihp (fun z => hp (List.mem_cons_of_mem _ z)) m ps hm)
    rw [e2 _ no _ _ ih]
    rfl
theorem fields_row {t : Vanbkh.Table} (h : VT t) {r : List Vanbkh.Cell} (hr : r ∈ mRowsH t) : mFields (bI (Vanbkh.rowLine (Vanbkh.naturalWidths t) r)) = ((Vanbkh.naturalWidths t).zip r).map fun x => bI ([32] ++ Vanbkh.alignCell x.1 x.2 ++ [32]) := by
  have es : mSplit 124 (bI (Vanbkh.rowLine (Vanbkh.naturalWidths t) r)) = (([] :: (((Vanbkh.naturalWidths t).zip r).map fun x : Nat × Vanbkh.Cell => [32] ++ Vanbkh.alignCell x.1 x.2 ++ [32]) ++ [[]]) : List (List UInt8)).map bI := by
    have := mSplit_bI 124 (Vanbkh.rowLine (Vanbkh.naturalWidths t) r)
    have e : bi 124 = 124 := rfl
    rw [e] at this
    rw [this]
    congr 1
    exact split_row _ fun x hx => zip_fits h hr hx
  unfold mFields
  rw [es]
  simp only [List.map_append, List.map_cons, List.map_nil, List.cons_append, List.drop_succ_cons, List.drop_zero, List.length_cons, List.length_append, List.length_map, List.length_nil]
  rw [List.take_left' (by simp), List.map_map]
  rfl
theorem mAll_of {α : Type} : ∀ l : List α, mAll (l.map some) = some l := fun l => by
  unfold mAll
  have e1 : (l.map some).any Option.isNone = false := by
    rw [List.any_map]
    exact List.any_eq_false.mpr fun _ _ => by simp
  rw [if_neg (by rw [e1]; simp)]
  congr 1
  induction l with
  | nil => rfl
  | cons a l ih => simp
theorem readRow_row {t : Vanbkh.Table} (h : VT t) {r : List Vanbkh.Cell} (hr : r ∈ mRowsH t) : mReadRow (bI (Vanbkh.rowLine (Vanbkh.naturalWidths t) r)) = some r := by
  have hl := h.row r hr
  have hlo := h.lo
  have hhi := h.hi
  have hn := naturals_len t
  unfold mReadRow
  rw [fields_row h hr, List.length_map, List.length_zip, hn, hl.1, Nat.min_self, if_pos (by simp; omega), List.map_map]
  have e : ((Vanbkh.naturalWidths t).zip r).map (mCellOf ∘ fun x => bI ([32] ++ Vanbkh.alignCell x.1 x.2 ++ [32])) = r.map some := by
    apply List.ext_getElem
    · simp [hn, hl.1]
    · intro i h1 h2
      have h3 : i < r.length := by simpa using h2
      simp only [List.getElem_map, List.getElem_zip, Function.comp]
      exact cellOf_field (natural_fits h hr (List.getElem?_eq_getElem (by rw [hn]; omega)) (List.getElem?_eq_getElem h3)) (hl.2 _ (List.getElem_mem h3))
  rw [e, mAll_of]
theorem readRows_text {t : Vanbkh.Table} (h : VT t) : mReadRows ((Vanbkh.tableWith (Vanbkh.naturalWidths t) t).map bI) = some (mRowsH t) := by
  have hrs := h.rs
  have el : (Vanbkh.tableWith (Vanbkh.naturalWidths t) t).length = t.rows.length + 4 := by simp [Vanbkh.tableWith]
  have er : mRowLines ((Vanbkh.tableWith (Vanbkh.naturalWidths t) t).map bI) = (mRowsH t).map fun r => bI (Vanbkh.rowLine (Vanbkh.naturalWidths t) r) := by
    unfold mRowLines mRowsH
    rw [List.length_map, el, ← List.map_drop]
    have e1 : ((Vanbkh.tableWith (Vanbkh.naturalWidths t) t).map bI).getD 1 [] = bI (Vanbkh.rowLine (Vanbkh.naturalWidths t) (t.headers.map .text)) := rfl
    have e3 : (Vanbkh.tableWith (Vanbkh.naturalWidths t) t).drop 3 = t.rows.map (Vanbkh.rowLine (Vanbkh.naturalWidths t)) ++ [Vanbkh.ruler (Vanbkh.naturalWidths t)] := rfl
    rw [e1, e3, List.map_append, List.take_left' (by simp), List.map_map, List.map_cons]
    rfl
  unfold mReadRows
  rw [List.length_map, el, if_pos (by simp; omega), er, List.map_map]
  have ea : (mRowsH t).map (mReadRow ∘ fun r => bI (Vanbkh.rowLine (Vanbkh.naturalWidths t) r)) = (mRowsH t).map some := List.map_congr_left fun r hr => readRow_row h hr
  rw [ea, mAll_of]
  show (if (mRowsH t).any (fun r => !decide (r.length = ((mRowsH t).headD []).length)) then none else some (mRowsH t)) = _
  have e4 : ((mRowsH t).headD []).length = t.headers.length := List.length_map _
  have e5 : (mRowsH t).any (fun r => !decide (r.length = ((mRowsH t).headD []).length)) = false := List.any_eq_false.mpr fun r hr => by
    rw [e4, (h.row r hr).1]
    simp
  rw [if_neg (by rw [e5]; simp)]
theorem mTable_rows (t : Vanbkh.Table) : mTable (mRowsH t) = t := by
  unfold mTable mRowsH
  show ({ headers := (t.headers.map Vanbkh.Cell.text).map Vanbkh.textOf, rows := t.rows } : Vanbkh.Table) = t
  rw [List.map_map]
  have : Vanbkh.textOf ∘ Vanbkh.Cell.text = id := rfl
  rw [this, List.map_id]
theorem readFull_text {t : Vanbkh.Table} (h : VT t) : mReadFull (bI (Vanbkh.tableText t)) = some t := by
  unfold mReadFull
  have es : mSplit 10 (bI (Vanbkh.tableText t)) = (Vanbkh.tableWith (Vanbkh.naturalWidths t) t).map bI := by
    have := mSplit_bI 10 (Vanbkh.tableText t)
    have e : bi 10 = 10 := rfl
    rw [e, text_lines h] at this
    exact this
  rw [es, readRows_text h]
  show (if !(((mRowsH t).headD []).all fun c => !Vanbkh.isNumber c) then none else if bI (Vanbkh.tableText (mTable (mRowsH t))) = bI (Vanbkh.tableText t) then some (mTable (mRowsH t)) else none) = _
  have e1 : (((mRowsH t).headD []).all fun c => !Vanbkh.isNumber c) = true := by
    show ((t.headers.map Vanbkh.Cell.text).all fun c => !Vanbkh.isNumber c) = true
    rw [List.all_map]
    exact List.all_eq_true.mpr fun _ _ => rfl
  rw [e1, mTable_rows]
  simp
theorem readFull_eq (l : List Int) : mReadFull l = Vanbkh.readBytes l := by
  cases q : mReadFull l with
  | some t =>
    have q' := q
    unfold mReadFull at q'
    split at q'
    · cases q'
    · rename_i rows hrows
      split at q'
      · cases q'
      · rename_i hh
        split at q'
        · rename_i he
          cases q'
          obtain ⟨v, _⟩ := mTable_VT hrows (by simpa using hh)
          rw [← he]
          unfold Vanbkh.readBytes
          have hb : (bI (Vanbkh.tableText (mTable rows))).all (fun n => Vanbkh.isBetween n 0 255) = true := List.all_eq_true.mpr fun x hx => by
            obtain ⟨c, _, rfl⟩ := List.mem_map.mp hx
            have h1 := bi_lo c
            have h2 := bi_hi c
            unfold Vanbkh.isBetween
            simp
            omega
          rw [if_pos hb, bytesOf_bI, parse_text v]
        · cases q'
  | none =>
    cases w : Vanbkh.readBytes l with
    | none => rfl
    | some t =>
      exfalso
      unfold Vanbkh.readBytes at w
      split at w
      · rename_i hb
        have el : bI (Vanbkh.bytesOf l) = l := bI_bytesOf fun x hx => by
          have := List.all_eq_true.mp hb x hx
          unfold Vanbkh.isBetween at this
          simp at this
          omega
        unfold Vanbkh.parseTable at w
        simp only at w
        split at w
        · cases w
        · split at w
          · rename_i hc
            simp only [Bool.and_eq_true, beq_iff_eq] at hc
            have v := vt_of hc.1
            have := readFull_text v
            rw [hc.2, el, q] at this
            cases this
          · cases w
      · cases w
end Rl
namespace Rl
open PySem PySem.Calls PyProof.Rows PySem.W
/-! ### cells as keys of a sort -/
def kD : Vanbkh.Cell → PyData
  | .number z => .tuple [.int 0, .int z]
  | .text t => .tuple [.int 1, .tuple ((bI t).map PyData.int)]
def kT (c : Vanbkh.Cell) : List (Int ⊕ List Nat) := keyToks (kD c)
theorem kD_form (c : Vanbkh.Cell) : ∃ x r, kD c = .tuple (x :: r) := by
  cases c with
  | number z => exact ⟨_, _, rfl⟩
  | text t => exact ⟨_, _, rfl⟩
theorem kD_depth (c : Vanbkh.Cell) : (kD c).depth ≤ 2 := by
  cases c with
  | number z =>
    show PyData.depthAll [.int 0, .int z] + 1 ≤ 2
    simp [PyData.depthAll, PyData.depth]
  | text t =>
    show PyData.depthAll [.int 1, .tuple ((bI t).map PyData.int)] + 1 ≤ 2
    have e : PyData.depthAll ((bI t).map PyData.int) = 0 := PySem.W.depth_ints _
    simp [PyData.depthAll, PyData.depth, e]
theorem alike_num (a b : Int) : alike (kD (.number a)) (kD (.number b)) = true := by simp [kD, alike, alikeAll]
theorem alike_txt (a b : List UInt8) : alike (kD (.text a)) (kD (.text b)) = true := by
  have := alike_ints (bI a) (bI b)
  simp [kD, alike, alikeAll, this]
theorem alike_self (c : Vanbkh.Cell) : alike (kD c) (kD c) = true := by
  cases c with
  | number z => exact alike_num _ _
  | text t => exact alike_txt _ _
theorem kD_one {h : Heap} {v : Value} {c c' : Vanbkh.Cell} {as as' : List Addr} (r : Reads h v (kD c) as) (r' : Reads h v (kD c') as') : kD c = kD c' := by
  have clash : ∀ {z : Int} {t : List UInt8} {as as' : List Addr}, Reads h v (kD (.number z)) as → Reads h v (kD (.text t)) as' → False := by
    intro z t as as' r r'
    cases r with
    | tuple h1 h2 h3 h4 =>
      cases r' with
      | tuple k1 k2 k3 k4 =>
        rw [h1] at k1
        cases k1
        rw [h3] at k3
        cases k3
        generalize hq : (Array.toList _) = q at h4 k4
        cases h4 with
        | cons a b =>
          cases k4 with
          | cons a' b' =>
            cases a
            cases a'
  cases c with
  | number z => cases c' with
    | number y => exact alike_unique _ _ _ _ _ (alike_num z y) r r'
    | text t => exact (clash r r').elim
  | text t => cases c' with
    | number y => exact (clash r' r).elim
    | text u => exact alike_unique _ _ _ _ _ (alike_txt t u) r r'
theorem key_some {h : Heap} {cs : List Vanbkh.Cell} {v : Value} {c : Vanbkh.Cell} {as : List Addr} (hc : c ∈ cs) (r : Reads h v (kD c) as) : (dataKind h (cs.map kD)).keyOf v = some (kT c) := by
  have q : ∃ d, d ∈ cs.map kD ∧ ∃ as, Reads h v d as := ⟨kD c, List.mem_map_of_mem hc, as, r⟩
  have e : (dataKind h (cs.map kD)).keyOf v = some (keyToks q.choose) := by
    show (open Classical in if q : ∃ d, d ∈ cs.map kD ∧ ∃ as, Reads h v d as then some (keyToks q.choose) else none) = _
    rw [dif_pos q]
  obtain ⟨h1, as', h2⟩ := q.choose_spec
  obtain ⟨c', _, e'⟩ := List.mem_map.mp h1
  rw [← e'] at h2
  rw [e, ← e', kD_one h2 r]
  rfl
section
variable {prog : Program} {w : World} {A : Around} {s : Shared}
theorem cells_sort {vs : List Value} {cs : List Vanbkh.Cell} (e : EachIs (fun v c => ∃ as, Reads s.heap v (kD c) as) vs cs) (hu : A.units + 4 < cLine) : SortsAt prog w A s (dataKind s.heap (cs.map kD)) vs := by
  refine ⟨fun v hv => ?_, tuples' true, ?_, fun h2 E Q hq => ?_⟩
  · obtain ⟨c, hc, as, r⟩ := e.left v hv
    exact ⟨_, key_some hc r⟩
  · intro E x y a b Q ha hb hq
    obtain ⟨d, as, hd, ra, rfl⟩ := dataKind_inv ha
    obtain ⟨d', as', hd', rb, rfl⟩ := dataKind_inv hb
    obtain ⟨c, _, rfl⟩ := List.mem_map.mp hd
    obtain ⟨c', _, rfl⟩ := List.mem_map.mp hd'
    have dp := kD_depth c
    have room : A.units + min (kD c).depth (kD c').depth < cLine := Nat.lt_of_le_of_lt (Nat.add_le_add_left (Nat.le_trans (Nat.min_le_left _ _) dp) _) (by omega)
    have hq' : Q (dataLt (kD c) (kD c')) s := hq
    clear hq
    cases c with
    | number z =>
      cases c' with
      | number y =>
        cases ra with
        | tuple h1 h2 h3 h4 =>
          cases rb with
          | tuple k1 k2 k3 k4 =>
            have n1 := SeqAt.ReadsAll.length _ _ _ h4
            have n2 := SeqAt.ReadsAll.length _ _ _ k4
            refine kat_lt h1 h3 k1 k3 (katLex_alike _ _ 0 _ _ _ _ h4 k4 (by simp [alike, alikeAll]) (by have q := SeqAt.room_in room; omega) (fun _ _ x r t ex => ?_) (by rw [← n1, ← n2]; simp) hq')
            obtain ⟨rfl, rfl⟩ := List.cons.inj ex
            simp
      | text u =>
        cases ra with
        | tuple h1 h2 h3 h4 =>
          cases rb with
          | tuple k1 k2 k3 k4 =>
            have hq2 : Q (dataLt (.int 0) (.int 1)) s := by
              have e : dataLt (kD (.number z)) (kD (.text u)) = dataLt (.int 0) (.int 1) := by
                unfold kD
                rw [dataLt_tuple, dataLt_all_no (by simp [alike]) (by simp [PyData.eqv])]
              rw [e] at hq'
              exact hq'
            refine kat_lt h1 h3 k1 k3 ?_
            generalize (Array.toList _) = p at h4 ⊢
            generalize (Array.toList _) = q at k4 ⊢
            cases h4 with
            | cons r rs =>
              cases k4 with
              | cons r' rs' =>
                rw [List.zip_cons_cons]
                refine kat_cons (eqAt_alike (.int 0) (.int 1) A s _ _ _ _ r r' (by simp [alike]) (by simp [PyData.depth]; omega) prog w _ _ ?_)
                have e0 : PyData.eqv (.int 0) (.int 1) = false := by simp [PyData.eqv]
                rw [e0]
                exact kat_no (oneLt_alike (fun _ t => by simp) r r' (by simp [alike]) (by simp) (by simp [PyData.depth]; omega) hq2)
    | text t =>
      cases c' with
      | number y =>
        cases ra with
        | tuple h1 h2 h3 h4 =>
          cases rb with
          | tuple k1 k2 k3 k4 =>
            have hq2 : Q (dataLt (.int 1) (.int 0)) s := by
              have e : dataLt (kD (.text t)) (kD (.number y)) = dataLt (.int 1) (.int 0) := by
                unfold kD
                rw [dataLt_tuple, dataLt_all_no (by simp [alike]) (by simp [PyData.eqv])]
              rw [e] at hq'
              exact hq'
            refine kat_lt h1 h3 k1 k3 ?_
            generalize (Array.toList _) = p at h4 ⊢
            generalize (Array.toList _) = q at k4 ⊢
            cases h4 with
            | cons r rs =>
              cases k4 with
              | cons r' rs' =>
                rw [List.zip_cons_cons]
                refine kat_cons (eqAt_alike (.int 1) (.int 0) A s _ _ _ _ r r' (by simp [alike]) (by simp [PyData.depth]; omega) prog w _ _ ?_)
                have e0 : PyData.eqv (.int 1) (.int 0) = false := by simp [PyData.eqv]
                rw [e0]
                exact kat_no (oneLt_alike (fun _ t => by simp) r r' (by simp [alike]) (by simp) (by simp [PyData.depth]; omega) hq2)
      | text u =>
        cases ra with
        | tuple h1 h2 h3 h4 =>
          cases rb with
          | tuple k1 k2 k3 k4 =>
            have n1 := SeqAt.ReadsAll.length _ _ _ h4
            have n2 := SeqAt.ReadsAll.length _ _ _ k4
            have ai := alike_ints (bI t) (bI u)
            refine kat_lt h1 h3 k1 k3 (katLex_alike _ _ 0 _ _ _ _ h4 k4 (by simp [alike, alikeAll, ai]) (by have q := SeqAt.room_in room; omega) (fun _ _ x r t ex => ?_) (by rw [← n1, ← n2]; simp) hq')
            obtain ⟨rfl, rfl⟩ := List.cons.inj ex
            simp
  · obtain ⟨fs, t1, t2, t3⟩ := each_katTups (h := s.heap) (ds := cs.map kD) (each_map kD e) (fun d hd => by
      obtain ⟨c, _, rfl⟩ := List.mem_map.mp hd
      exact kD_form c)
    refine kat_kind (T := .type "int") t1 (by omega) (fun f hf => ?_) (beq_self_eq_true _) hq
    obtain ⟨x, r, as, m1, m2⟩ := t3 f hf
    obtain ⟨c, _, ec⟩ := List.mem_map.mp m1
    have ex : dataType x = .type "int" := by
      cases c with
      | number z => cases ec; rfl
      | text u => cases ec; rfl
    rw [← ex]
    exact looks_reads m2
end
end Rl
namespace Rl
open PySem PySem.Calls PyProof.Rows PySem.W
/-! ### the order of cells -/
theorem bi_lt (c e : UInt8) : (bi c < bi e) ↔ c < e := by
  unfold bi
  rw [UInt8.lt_iff_toNat_lt]
  omega
theorem less_eq : ∀ t u : List UInt8, Vanbkh.lessText t u = decide (bI t < bI u)
  | [], [] => by simp [Vanbkh.lessText, bI]
  | [], b :: u => by simp [Vanbkh.lessText, bI]
  | a :: t, [] => by simp [Vanbkh.lessText, bI]
  | a :: t, b :: u => by
    have ih := less_eq t u
    show (decide (a < b) || (a == b && Vanbkh.lessText t u)) = decide (bi a :: bI t < bi b :: bI u)
    rw [ih, Bool.eq_iff_iff]
    simp only [Bool.or_eq_true, Bool.and_eq_true, decide_eq_true_eq, beq_iff_eq, List.cons_lt_cons_iff, bi_lt, bi_eq]
theorem cell_lt (c c' : Vanbkh.Cell) : dataLt (kD c) (kD c') = Vanbkh.lessCell c c' := by
  cases c with
  | number z =>
    cases c' with
    | number y =>
      show dataLt (.tuple [.int 0, .int z]) (.tuple [.int 0, .int y]) = decide (z < y)
      rw [dataLt_ii]
      simp
    | text u =>
      unfold kD
      rw [dataLt_tuple, dataLt_all_no (by simp [alike]) (by simp [PyData.eqv]), dataLt_int]
      rfl
  | text t =>
    cases c' with
    | number y =>
      unfold kD
      rw [dataLt_tuple, dataLt_all_no (by simp [alike]) (by simp [PyData.eqv]), dataLt_int]
      rfl
    | text u =>
      have ai := alike_ints (bI t) (bI u)
      show dataLt (.tuple [.int 1, .tuple ((bI t).map PyData.int)]) (.tuple [.int 1, .tuple ((bI u).map PyData.int)]) = Vanbkh.lessText t u
      rw [dataLt_pair (by simp [alike]) (by simp [alike, ai]), if_pos (by simp [PyData.eqv]), less_eq]
      have e1 : PyData.eqv (.tuple ((bI t).map PyData.int)) (.tuple ((bI u).map PyData.int)) = decide (bI t = bI u) := Dg.eqv_ints _ _
      have e2 : dataLt (.tuple ((bI t).map PyData.int)) (.tuple ((bI u).map PyData.int)) = decide (bI t < bI u) := by
        rw [dataLt_tuple]
        exact dataLt_ints _ _
      rw [e1, e2]
      split
      · rename_i h
        have h' : bI t = bI u := of_decide_eq_true h
        rw [h', decide_eq_false (List.lt_irrefl _)]
      · rfl
theorem kT_lt (c c' : Vanbkh.Cell) : (listOrd itemOrd).blt (kT c) (kT c') = Vanbkh.lessCell c c' := cell_lt c c'
/-! sorted rows -/
def rowLe (d : Bool) (k : Nat) (r q : List Vanbkh.Cell) : Bool := sortLe (listOrd itemOrd) d (fun r : List Vanbkh.Cell => kT (r.getD k (.number 0))) r q
theorem rowLe_up (k : Nat) (r q : List Vanbkh.Cell) : rowLe false k r q = !Vanbkh.lessCell (q.getD k (.number 0)) (r.getD k (.number 0)) := by
  unfold rowLe sortLe
  show (!(listOrd itemOrd).blt _ _) = _
  rw [kT_lt]
theorem rowLe_down (k : Nat) (r q : List Vanbkh.Cell) : rowLe true k r q = !Vanbkh.lessCell (r.getD k (.number 0)) (q.getD k (.number 0)) := by
  unfold rowLe sortLe
  show (!(listOrd itemOrd).blt _ _) = _
  rw [kT_lt]
theorem insert_eq {d : Bool} {k : Nat} {r : List Vanbkh.Cell} (hr : k < r.length) : ∀ {l1 l2 : List (List Vanbkh.Cell)}, (∀ q ∈ l1 ++ l2, k < q.length) → (∀ q ∈ l1, rowLe d k r q = false) → (∀ q ∈ l2, rowLe d k r q = true) →
    Vanbkh.insertRow (fun x y => if d then Vanbkh.lessCell y x else Vanbkh.lessCell x y) k r (l1 ++ l2) = l1 ++ r :: l2
  | [], [], _, _, _ => rfl
  | [], q :: l2, h, _, h2 => by
    have hq := h q (by simp)
    have e := h2 q (by simp)
    show Vanbkh.insertRow _ k r (q :: l2) = _
    unfold Vanbkh.insertRow
    rw [List.getElem?_eq_getElem hr, List.getElem?_eq_getElem hq]
    have er : r.getD k (.number 0) = r[k] := by rw [List.getD_eq_getElem?_getD, List.getElem?_eq_getElem hr]; rfl
    have eq : q.getD k (.number 0) = q[k] := by rw [List.getD_eq_getElem?_getD, List.getElem?_eq_getElem hq]; rfl
    cases d with
    | false =>
      rw [rowLe_up, er, eq] at e
      have e' : Vanbkh.lessCell q[k] r[k] = false := by simpa using e
      simp [e']
    | true =>
      rw [rowLe_down, er, eq] at e
      have e' : Vanbkh.lessCell r[k] q[k] = false := by simpa using e
      simp [e']
  | q :: l1, l2, h, h1, h2 => by
    have hq := h q (by simp)
    have e := h1 q (by simp)
    have ih := insert_eq hr (l1 := l1) (l2 := l2) (fun q m => h q (by simp at m ⊢; exact .inr m)) (fun q m => h1 q (List.mem_cons_of_mem _ m)) h2
    show Vanbkh.insertRow _ k r (q :: (l1 ++ l2)) = _
    unfold Vanbkh.insertRow
    rw [List.getElem?_eq_getElem hr, List.getElem?_eq_getElem hq]
    have er : r.getD k (.number 0) = r[k] := by rw [List.getD_eq_getElem?_getD, List.getElem?_eq_getElem hr]; rfl
    have eq : q.getD k (.number 0) = q[k] := by rw [List.getD_eq_getElem?_getD, List.getElem?_eq_getElem hq]; rfl
    cases d with
    | false =>
      rw [rowLe_up, er, eq] at e
      have e' : Vanbkh.lessCell q[k] r[k] = true := by simpa using e
      simp only [e', if_true, Bool.false_eq_true, if_false]
      exact congrArg (q :: ·) ih
    | true =>
      rw [rowLe_down, er, eq] at e
      have e' : Vanbkh.lessCell r[k] q[k] = true := by simpa using e
      simp only [e', if_true]
      exact congrArg (q :: ·) ih
theorem sortRows_eq (d : Bool) (k : Nat) : ∀ l : List (List Vanbkh.Cell), (∀ r ∈ l, k < r.length) → Vanbkh.sortRows d k l = l.mergeSort (rowLe d k)
  | [], _ => by simp [Vanbkh.sortRows]
  | r :: l, h => by
    have ih := sortRows_eq d k l fun q hq => h q (List.mem_cons_of_mem _ hq)
    have T : TotalLe (rowLe d k) := sortLe_total _ _ _
    obtain ⟨l1, l2, e1, e2, e3⟩ := List.mergeSort_cons (le := rowLe d k) (fun a b c h1 h2 => T.trans a b c h1 h2) (fun a b => Bool.or_eq_true_iff.mpr (T.total a b)) r l
    show Vanbkh.insertRow _ k r (Vanbkh.sortRows d k l) = _
    rw [ih, e1, e2]
    have pw := sort_pairwise T (r :: l)
    rw [e1] at pw
    have pm : ∀ q ∈ l1 ++ l2, q ∈ l := fun q hq => by
      rw [← e2] at hq
      exact (List.mergeSort_perm _ _).mem_iff.mp hq
    refine insert_eq (h r (by simp)) (fun q hq => h q (List.mem_cons_of_mem _ (pm q hq))) (fun q hq => by simpa using e3 q hq) (fun q hq => ?_)
    exact (List.pairwise_cons.mp (List.pairwise_append.mp pw).2.1).1 q hq
end Rl
namespace Rl
open PySem PySem.Calls PyProof.Rows PySem.W
/-- what a key's call gives: an object that H tells -/
def KeyAt (P : Program) (w : World) (H : L2.Hp) (u : Value) (c : Vanbkh.Cell) : Prop := ∃ q, u = .ref q ∧ ∀ h : Heap, L2.HOk P w H h → Reads h (.ref q) (kD c) []
theorem each_kc {β : Type} {F : Value → Vanbkh.Cell → Prop} (kc : β → Vanbkh.Cell) : ∀ {us : List Value} {bs : List β}, EachIs (fun u x => F u (kc x)) us bs → EachIs F us (bs.map kc)
  | _, _, .nil => .nil
  | _, _, .cons a t => .cons a (each_kc kc t)
theorem each_vals {β : Type} {R : Value → β → Prop} (hV : ∀ v x, R v x → ∃ y, L2.RelV y v) : ∀ {us : List Value} {bs : List β}, EachIs R us bs → ∃ xs, L2.Vals xs us
  | _, _, .nil => ⟨[], .nil⟩
  | _, _, .cons a t => by
    obtain ⟨xs, h⟩ := each_vals hV t
    obtain ⟨y, hy⟩ := hV _ _ a
    exact ⟨y :: xs, .cons hy h⟩
section
variable {X : L2.Cx} {pins : List (Addr × Obj)} {σ : L2.St} {H : L2.Hp} {s : Shared} {β : Type}
/-- a new thing that is not told of can be pinned -/
theorem pin_new (I : L2.Inv X pins σ H s) {g : Heap} {t : Nat} {ps : List (Addr × Obj)} (k : ∀ b o, s.heap.get? b = some o → g.get? b = some o) (hp : ∀ p ∈ ps, s.heap.objs.size ≤ p.1 ∧ g.get? p.1 = some p.2 ∧ ∀ v, p.2.data ≠ .cell v) :
    L2.Inv X (ps ++ pins) σ H { s with heap := g, toks := t } := by
  have J : L2.Inv X pins σ H { s with heap := g, toks := t } := I.kept k
  refine J.pins_of fun p m => ?_
  rcases List.mem_append.mp m with m | m
  · obtain ⟨a1, a2, a3⟩ := hp p m
    exact ⟨a2, I.hok.fresh a1, Nat.ne_of_gt (Nat.lt_of_lt_of_le I.lt a1), I.nofs a1, a3⟩
  · exact J.pin p (List.mem_append_right _ m)
theorem pin_fewer {ps qs : List (Addr × Obj)} (I : L2.Inv X ps σ H s) (h : ∀ p ∈ qs, p ∈ ps) : L2.Inv X qs σ H s := I.pins_of fun p m => I.pin p (List.mem_append_right _ (h p m))
theorem cell_off {ps : List (Addr × Obj)} (I : L2.Inv X ps σ H s) {p : Addr × Obj} (m : p ∈ X.pn ++ ps) : ∀ x c, X.env.cells.lookup x = some c → c ≠ p.1 := fun x c e z => by
  obtain ⟨v, o, ho, hd⟩ := I.cell x c e
  have q := I.pin p m
  rw [z, q.1] at ho
  cases ho
  exact q.2.2.2.2 v hd
theorem seq_nocell {c : String} {xs : Array Value} {n : Nat} : ∀ v, (seqObj c xs n).data ≠ .cell v := fun v z => by cases z
/-- sorted(xs, key=f[, reverse=b]) -/
theorem sorted_by {l : Addr} {f : Value} {kw : List (Str × Value)} {b : Bool} {vs : List Value} {bs : List β} {R : Value → β → Prop} (kc : β → Vanbkh.Cell) {Q E : Value → Shared → Prop} (I : L2.Inv X pins σ H s) (hl : s.heap.IsList l vs.toArray) (hz : vs.length ≤ sizeLine) (e : EachIs R vs bs) (hu : X.A.units + 10 < cLine)
    (ha1 : argsOk "sorted" ⟨[.ref l], kw⟩) (ha2 : ∀ x, argsOk "list.sort" ⟨[.ref x], kw⟩) (ht : ∀ x, Builtin.«list.sort» ⟨[.ref x], kw⟩ = ksk_tree x f b)
    (turn : ∀ (v : Value) (x : β), R v x → x ∈ bs → ∀ (ps : List (Addr × Obj)) (s' : Shared), L2.Inv X ps σ H s' → wpAny (model X.prog X.w) X.A.in1.in1 (call f [v]) (fun u s2 => L2.Inv X ps σ H s2 ∧ KeyAt X.prog X.w H u (kc x)) (fun _ _ => False) s')
    (hV : ∀ v x, R v x → ∃ y, L2.RelV y v)
    (fin : ∀ (D : Addr) (out : List Value) (xs : List L2.V) (s2 : Shared), EachIs R out (bs.mergeSort (sortLe (listOrd itemOrd) b fun x => kT (kc x))) → L2.Vals xs out → H D = none → L2.Inv X pins σ (L2.upd H D (.lst xs)) s2 → Q (.ref D) s2) :
    wpAny (model X.prog X.w) X.A (call (.builtin "sorted") [.ref l] kw) Q E s := by
  refine sorted_of_sort hl hz ha1 ha2 fun E' => ?_
  rw [ht]
  have ho := copyHeap_at s.heap vs
  obtain ⟨n1, ho1⟩ : ∃ n1, ((copyHeap s.heap vs).update (s.heap.objs.size + 1) (Obj.mapSeq fun _ => (#[] : Array Value))).get? (s.heap.objs.size + 1) = some (seqObj "list" #[] n1) := ⟨_, get?_update_seq ho fun _ => #[]⟩
  unfold ksk_tree
  refine wpAny_bind (listItems_at ho rfl (wpAny_bind (listUpdate_at ho rfl (wpAny_bind (seqEpoch_at ho1 rfl (wpAny_bind (wpAny_newTuple (wpAny_bind (wpAny_newList (wpAny_holding ?_) (Nat.zero_le _))) hz)))) (by rw [List.size_toArray]; exact hz) (Nat.zero_le _))))
  have hA : s.heap.objs.size + 1 < (copyHeap s.heap vs).objs.size := Heap.lt_size ho
  obtain ⟨kS, hk1, hk2⟩ : ∃ kS, (((copyHeap s.heap vs).update (s.heap.objs.size + 1) (Obj.mapSeq fun _ => (#[] : Array Value))).push (seqObj "tuple" vs.toArray 0)).objs.size = kS ∧ s.heap.objs.size + 1 < kS := ⟨_, rfl, by rw [size_push', Heap.size_update]; omega⟩
  have old : ∀ b o, s.heap.get? b = some o → (sortingHeap (copyHeap s.heap vs) (s.heap.objs.size + 1) vs).get? b = some o := fun b o q => sorting_copy_old q
  have gS : (sortingHeap (copyHeap s.heap vs) (s.heap.objs.size + 1) vs).get? kS = some (seqObj "list" #[] 0) := by
    unfold sortingHeap
    rw [← hk1]
    exact Heap.get?_push_size _ rfl
  have gA : (sortingHeap (copyHeap s.heap vs) (s.heap.objs.size + 1) vs).get? (s.heap.objs.size + 1) = some (seqObj "list" #[] n1) := Heap.get?_push_of_some _ (Heap.get?_push_of_some _ ho1)
  have I1 := pin_new (t := s.toks) (ps := [(kS, seqObj "list" #[] 0), (s.heap.objs.size + 1, seqObj "list" #[] n1)]) I old (fun p m => by
    rcases List.mem_cons.mp m with rfl | m
    · exact ⟨by show s.heap.objs.size ≤ kS; omega, gS, seq_nocell⟩
    · rw [List.mem_singleton.mp m]
      exact ⟨Nat.le_succ _, gA, seq_nocell⟩)
  have pn : ∀ p ∈ X.pn ++ pins, p.1 < s.heap.objs.size := fun p m => Heap.lt_size (I.pin p m).1
  have hs0 : X.s_0.heap.objs.size ≤ s.heap.objs.size := I.sz
  show wpAny (model X.prog X.w) X.A.in1.in1 (ksk_rest _ f b vs.toArray n1 (.ref _)) _ _ { s with heap := sortingHeap (copyHeap s.heap vs) (s.heap.objs.size + 1) vs }
  rw [hk1]
  unfold ksk_rest
  refine wpAny_bind (wpAny_rule ?_)
  rw [List.forIn_toArray]
  refine wpAny_bind (ksk_fold (fun i s' => ∃ kA n, L2.Inv X ([(kS, seqObj "list" kA n), (s.heap.objs.size + 1, seqObj "list" #[] n1)] ++ pins) σ H s' ∧ EachIs (fun u x => KeyAt X.prog X.w H u (kc x)) kA.toList (bs.take i)) vs 0 _ ⟨#[], 0, I1, by rw [List.take_zero]; exact .nil⟩ (fun j v s' hv hJ => ?_) fun s' hJ => ?_)
  · obtain ⟨kA, n, I2, ek⟩ := hJ
    rw [Nat.zero_add] at ek ⊢
    have hj : j < vs.length := (List.getElem?_eq_some_iff.mp hv).1
    have hb : j < bs.length := by rw [← e.length]; exact hj
    have hR : R v bs[j] := e.zip (v, bs[j]) (List.mem_of_getElem? (i := j) (by rw [List.getElem?_zip_eq_some]; exact ⟨hv, List.getElem?_eq_getElem hb⟩))
    have kz : kA.size ≤ vs.length := by
      have := ek.length
      rw [Array.length_toList, List.length_take] at this
      omega
    refine wpAny_bind (wpAny_attempt (wpAny_mono (turn v bs[j] hR (List.getElem_mem hb) _ s' I2) (fun u s2 hu2 => ?_) fun _ _ z => z.elim))
    obtain ⟨I3, hk⟩ := hu2
    have p3 := I3.pin (kS, seqObj "list" kA n) (List.mem_append_right _ (.head _))
    obtain ⟨n2, hn2⟩ : ∃ n2, (s2.heap.update kS (Obj.mapSeq (·.push u))).get? kS = some (seqObj "list" (kA.push u) n2) := ⟨_, get?_update_seq p3.1 (·.push u)⟩
    have sb := Heap.SameBut.update s2.heap kS (Obj.mapSeq (·.push u))
    dsimp only
    refine wpAny_bind (listUpdate_at p3.1 rfl (wpAny_pure ⟨rfl, kA.push u, n2, ?_, ?_⟩) (Nat.le_trans kz hz) (Nat.le_trans (Nat.le_of_eq (Array.size_push ..)) (Nat.succ_le_succ (Nat.le_trans kz hz))))
    · have J := (pin_fewer (qs := [(s.heap.objs.size + 1, seqObj "list" #[] n1)] ++ pins) I3 (fun p m => List.mem_cons_of_mem _ m)).turned (t' := s2.toks) (h' := s2.heap.update kS (Obj.mapSeq (·.push u))) (it := kS) (fun b o hb q => (sb.2 b hb).trans q) p3.2.1 p3.2.2.1 (.inr (by omega)) (cell_off I3 (List.mem_append_right _ (.head _))) (fun p m => by
        rcases List.mem_append.mp m with m | m
        · exact Nat.ne_of_lt (Nat.lt_trans (pn p (List.mem_append_left _ m)) (by omega))
        · rcases List.mem_append.mp m with m | m
          · rw [List.mem_singleton.mp m]
            exact Nat.ne_of_lt hk2
          · exact Nat.ne_of_lt (Nat.lt_trans (pn p (List.mem_append_right _ m)) (by omega)))
      refine J.pins_of fun p m => ?_
      rcases List.mem_cons.mp m with rfl | m
      · exact ⟨hn2, p3.2.1, p3.2.2.1, p3.2.2.2.1, seq_nocell⟩
      · exact J.pin p (List.mem_append_right _ m)
    · have et : bs.take (j + 1) = bs.take j ++ [bs[j]] := by simp
      rw [et, Array.toList_push]
      exact PySem.W.each_snoc (R := fun u x => KeyAt X.prog X.w H u (kc x)) hk ek
  · obtain ⟨kA, n, I2, ek⟩ := hJ
    rw [List.take_of_length_le (by rw [e.length]; omega)] at ek
    have p3 := I2.pin (kS, seqObj "list" kA n) (List.mem_append_right _ (.head _))
    have pA := I2.pin (s.heap.objs.size + 1, seqObj "list" #[] n1) (List.mem_append_right _ (.tail _ (.head _)))
    have hok2 := I2.hok
    have er : EachIs (fun u x => ∃ as, Reads s'.heap u (kD (kc x)) as) kA.toList bs := ek.mono fun u x ⟨q, hq, hr⟩ => ⟨[], by rw [hq]; exact hr _ hok2⟩
    have er2 : EachIs (fun u c => ∃ as, Reads s'.heap u (kD c) as) kA.toList (bs.map kc) := each_kc kc er
    have ksz : kA.size = vs.length := by
      have := ek.length
      rw [Array.length_toList] at this
      rw [this, e.length]
    refine wpAny_bind (listItems_at p3.1 rfl ?_)
    refine keyH_end (κ := dataKind s'.heap ((bs.map kc).map kD)) (h₁ := hideAll s'.heap [kS]) (fun b o _ q => of_hideAll _ q) (hideAll_none [kS] (.head _)) p3.1 pA.1 (Nat.ne_of_gt hk2) (cells_sort er2 (by show X.A.units + 1 + 1 + 4 < cLine; omega)) ksz hz fun g tk n3 kp gD => ⟨rfl, ?_⟩
    have ko : EachIs R (sortVals (dataKind s'.heap ((bs.map kc).map kD)) b kA.toList vs) (bs.mergeSort (sortLe (listOrd itemOrd) b fun x => kT (kc x))) := sortVals_each (κ := dataKind s'.heap ((bs.map kc).map kD)) (fun x => kT (kc x)) e (by
      have := each_mem er
      exact this.mono fun u x ⟨⟨as, r⟩, hx⟩ => key_some (List.mem_map_of_mem hx) r)
    obtain ⟨xs, hxs⟩ : ∃ xs, L2.Vals xs (sortVals (dataKind s'.heap ((bs.map kc).map kD)) b kA.toList vs) := each_vals hV ko
    have nD : H (s.heap.objs.size + 1) = none := pA.2.1
    have kept : ∀ b o, b ∉ [kS, s.heap.objs.size + 1] → s'.heap.get? b = some o → g.get? b = some o := fun b o nb q => kp b o (fun z => nb (by rw [z]; simp)) (hideAll_get _ q (fun z => nb (by rw [List.mem_singleton.mp z]; simp)))
    refine fin _ _ xs _ ko hxs nD ((pin_fewer (qs := pins) I2 fun p m => List.mem_append_right _ m).step (g' := s'.gens) (d' := s'.drawn) (t' := tk) (h' := g) (ch := [kS, s.heap.objs.size + 1]) (fun c hc => ?_) (fun c o _ _ hc q _ => kept c o hc q) (fun c o _ _ hc q _ => ⟨o.slots, kept c o hc q⟩) (fun c o hc _ q => ?_) (fun c o hc q => ⟨o, kept c o hc q⟩) (fun c ys q => ?_) (fun c o u q => ?_) (fun c ps q => ⟨#[], ?_⟩) (fun m hm => ?_) (fun c u q => ?_) I2.bare)
    · have off : ∀ p ∈ X.pn ++ pins, p.1 ≠ c := fun p m z => by
        have q := pn p m
        rw [z] at q
        rcases List.mem_cons.mp hc with hc | hc
        · rw [hc] at q
          exact Nat.lt_irrefl _ (Nat.lt_trans q (Nat.lt_trans (Nat.lt_succ_self _) hk2))
        · rw [List.mem_singleton.mp hc] at q
          exact Nat.lt_irrefl _ (Nat.lt_trans q (Nat.lt_succ_self _))
      rcases List.mem_cons.mp hc with rfl | hc
      · exact ⟨.inr (by omega), p3.2.2.1, cell_off I2 (List.mem_append_right _ (.head _)), off⟩
      · have ec := List.mem_singleton.mp hc
        subst ec
        exact ⟨.inr (by omega), pA.2.2.1, cell_off I2 (List.mem_append_right _ (.tail _ (.head _))), off⟩
    · rw [L2.upd_ne (fun z => hc (by rw [z]; simp))]
      exact q
    · rw [L2.upd_ne (L2.ne_of_none q nD)]
      exact q
    · rw [L2.upd_ne (L2.ne_of_none q nD)]
      exact q
    · rw [L2.upd_ne (L2.ne_of_none q nD), q]
      simp
    · obtain ⟨o, es, ep, ho2, r⟩ := hm
      refine ⟨o, es, ep, kept _ o (fun z => ?_) ho2, r⟩
      simp only [List.mem_cons, List.not_mem_nil, or_false] at z
      rcases z with z | z
      · exact p3.2.2.1 z.symm
      · exact pA.2.2.1 z.symm
    · by_cases hc : c = s.heap.objs.size + 1
      · subst hc
        rw [L2.upd_same] at q
        cases q
        refine ⟨?_, _, n3, hxs, gD⟩
        rw [hxs.length, sortVals_length b (by rw [Array.length_toList]; exact ksz)]
        exact hz
      · rw [L2.upd_ne hc] at q
        have okc := hok2 c u q
        refine okc.stay (fun b o hb r => kept b o (fun z => ?_) r) (fun b q2 => by rw [L2.upd_ne (L2.ne_of_none q2 nD)]; exact q2) (fun b ys q2 => by rw [L2.upd_ne (L2.ne_of_none q2 nD)]; exact q2)
        simp only [List.mem_cons, List.not_mem_nil, or_false] at z
        have hn : ∀ b, b = kS ∨ b = s.heap.objs.size + 1 → H b = none := fun b z => by
          rcases z with z | z
          · rw [z]; exact p3.2.1
          · rw [z]; exact nD
        have hbn := hn b z
        rcases hb with hb | hb
        · rw [hb, q] at hbn
          cases hbn
        · rw [hb] at hbn
          cases hbn
end
end Rl
namespace Rl
open PySem PySem.Spec PyProof.Rows L2 Dg

inductive r_is_within : List D → D → Prop
  | mk {n a b : Int} : r_is_within [.int n, .int a, .int b] (.bl (decide (a ≤ n) && decide (n ≤ b)))
abbrev N_is_within : List Str := ["number", "least", "greatest"]
theorem sc_is_within : FnScope N_is_within ["number", "least", "greatest"] (defScope (top 1)) := ⟨rfl, rfl, rfl, by decide +kernel, rfl, by decide +kernel, by decide +kernel⟩
theorem ok_is_within {Pr : Program} {w : World} {K : PySem.W.Frag} {mg : Str → Option Value} {base : Heap} (T : Tx K mg) : Ok Pr w K mg base 1 "is_within" ["number", "least", "greatest"] (spR K r_is_within) := by
  obtain ⟨fd, F⟩ := T.d_is_within
  refine ⟨⟨fd, fn_pure (N := N_is_within) F sc_is_within (fun ds d h => by cases h; rfl) ?_, F.bindsN fun _ _ _ _ _ _ us hl => match us, hl with | [_, _, _], _ => rfl⟩, F.kp, T.g_is_within⟩
  intro cdv A outer s H E hr
  refine ⟨_, (pss_one (ps_ret (pe_and (pe_cmpR op_le (pv 1) (pv 0) (nomark _)) (pe_one (pe_cmpR op_le (pv 0) (pv 2) (nomark _)))))), ?_⟩
  intro B ds d hR
  obtain ⟨⟩ := hR
  exact sd_ret (ed_andV (ed_le (ed_var rfl) (ed_var rfl)) fun _ => ed_le (ed_var rfl) (ed_var rfl)) rfl
inductive r_is_text_byte : List D → D → Prop
  | mk {n : Int} : r_is_text_byte [.int n] (.bl (mIsTB n))
abbrev N_is_text_byte : List Str := ["number"]
theorem sc_is_text_byte : FnScope N_is_text_byte ["number"] (defScope (top 17)) := ⟨rfl, rfl, rfl, by decide +kernel, rfl, by decide +kernel, by decide +kernel⟩
theorem ok_is_text_byte {Pr : Program} {w : World} {K : PySem.W.Frag} {mg : Str → Option Value} {base : Heap} (T : Tx K mg) : Ok Pr w K mg base 2 "is_text_byte" ["number"] (spR K r_is_text_byte) := by
  obtain ⟨fd, F⟩ := T.d_is_text_byte
  refine ⟨⟨fd, fn_pure (N := N_is_text_byte) F sc_is_text_byte (fun ds d h => by cases h; rfl) ?_, F.bindsN fun _ _ _ _ _ _ us hl => match us, hl with | [_], _ => rfl⟩, F.kp, T.g_is_text_byte⟩
  intro cdv A outer s H E hr
  refine ⟨_, (pss_one (ps_ret (pe_or (pe_cmpR op_eq (pv 0) (pe_gint rfl T.i_LINE_FEED) (nomark _)) (pe_one (pe_callO (ok_is_within T) (hr.mono (by decide)) rfl (pa_cons (pv 0) (pa_cons pe_int (pa_cons pe_int pa_nil)))))))), ?_⟩
  intro B ds d hR
  obtain ⟨⟩ := hR
  exact sd_ret (ed_orV (ed_eq (ed_var rfl) ed_int) fun _ => ed_call (ea_cons (ed_var rfl) (ea_cons ed_int (ea_cons ed_int ea_nil))) .mk) rfl
inductive r_is_text : List D → D → Prop
  | mk {l : List Int} (h : l.length ≤ 100000) : r_is_text [.lst (dI l)] (.bl (mIsText l))
abbrev N_is_text : List Str := ["numbers", "number"]
theorem sc_is_text : FnScope N_is_text ["numbers"] (defScope (top 18)) := ⟨rfl, rfl, rfl, by decide +kernel, rfl, by decide +kernel, by decide +kernel⟩
theorem ok_is_text {Pr : Program} {w : World} {K : PySem.W.Frag} {mg : Str → Option Value} {base : Heap} (T : Tx K mg) : Ok Pr w K mg base 3 "is_text" ["numbers"] (spR K r_is_text) := by
  obtain ⟨fd, F⟩ := T.d_is_text
  refine ⟨⟨fd, fn_pure (N := N_is_text) F sc_is_text (fun ds d h => by cases h; rfl) ?_, F.bindsN fun _ _ _ _ _ _ us hl => match us, hl with | [_], _ => rfl⟩, F.kp, T.g_is_text⟩
  intro cdv A outer s H E hr
  refine ⟨_, (pss_cons (ps_if (pt_cmpR op_gt (pe_callB (r := rLenQ K) call_len_seq (by rfl) T.f_len (by decide +kernel) (pa_cons (pv 0) pa_nil)) (pe_gint rfl T.i_MOST_BYTES_OF_TEXT) (nomark _))
 (pss_one (ps_ret pe_bl))
 pss_nil)
 (pss_one (ps_ret (pe_callB (r := rAll K) (cr_all rfl) (by rfl) T.f_all (by decide +kernel) (pa_cons (pe_lc (own := [("number", 1)]) (g := gName 1) (tt := tYes) rfl sc_is_text.nd (pi_list (pv 0)) (blkOk_by (own := [("number", 1)]) (N := N_is_text) (sc := (defScope (top 18))) (by decide +kernel)) (fun _ _ _ _ _ => pg_name (i := 1) sc_is_text.nd rfl (Or.inl rfl)) (fun _ _ _ _ _ => pts_nil) (fun _ _ _ _ _ => (pe_callO (ok_is_text_byte T) (hr.mono (by decide)) rfl (pa_cons (pv 1) pa_nil)))) pa_nil))))), ?_⟩
  intro B ds d hR
  obtain ⟨⟩ := hR
  refine sd_seq (sd_if (et_test (ed_gt (ed_lenL (ed_var rfl)) ed_int)) (fun h => ?_) (fun h => ?_))
  · refine sd_ret ed_bl ?_
    show D.bl _ = .bl _
    unfold mIsText
    rw [if_pos (by simpa using h)]
  refine sd_next ?_
  rename_i l hl
  refine sd_ret (ed_all (ed_is (en_lcL (f := D.int) (l := l) (dw_listL (ed_var rfl)) rfl rfl (fun x hx => ed_call (ea_cons (ed_var rfl) ea_nil) .mk) (by omega)).ed (e := .lst ((l.map mIsTB).map D.bl)) (by rw [List.map_map]; rfl))) ?_
  show D.bl _ = .bl _
  unfold mIsText
  rw [if_neg (by simpa using h), List.all_map]
  rfl
end Rl
namespace Rl
open PySem PySem.Spec PyProof.Rows L2 Dg

inductive r_is_number_cell : List D → D → Prop
  | mk {c : Vanbkh.Cell} : r_is_number_cell [dC c] (.bl (Vanbkh.isNumber c))
abbrev N_is_number_cell : List Str := ["cell"]
theorem sc_is_number_cell : FnScope N_is_number_cell ["cell"] (defScope (top 22)) := ⟨rfl, rfl, rfl, by decide +kernel, rfl, by decide +kernel, by decide +kernel⟩
theorem ok_is_number_cell {Pr : Program} {w : World} {K : PySem.W.Frag} {mg : Str → Option Value} {base : Heap} (T : Tx K mg) : Ok Pr w K mg base 1 "is_number_cell" ["cell"] (spR K r_is_number_cell) := by
  obtain ⟨fd, F⟩ := T.d_is_number_cell
  refine ⟨⟨fd, fn_pure (N := N_is_number_cell) F sc_is_number_cell (fun ds d h => by cases h; rfl) ?_, F.bindsN fun _ _ _ _ _ _ us hl => match us, hl with | [_], _ => rfl⟩, F.kp, T.g_is_number_cell⟩
  intro cdv A outer s H E hr
  refine ⟨_, (pss_one (ps_ret (pe_cmpR op_eq (pe_ix (r := rIxT K) ix_tup (pv 0) pe_int (fun _ _ => rfl)) (pe_gint rfl T.i_NUMBER) (nomark _)))), ?_⟩
  intro B ds d hR
  obtain ⟨⟩ := hR
  rename_i c
  cases c with
  | number z => exact sd_ret (ed_eq (ed_ixT (ed_var rfl) ed_int rfl) ed_int) rfl
  | text t => exact sd_ret (ed_eq (ed_ixT (ed_var rfl) ed_int rfl) ed_int) rfl
inductive r_is_text_cell : List D → D → Prop
  | mk {c : Vanbkh.Cell} : r_is_text_cell [dC c] (.bl (!Vanbkh.isNumber c))
abbrev N_is_text_cell : List Str := ["cell"]
theorem sc_is_text_cell : FnScope N_is_text_cell ["cell"] (defScope (top 23)) := ⟨rfl, rfl, rfl, by decide +kernel, rfl, by decide +kernel, by decide +kernel⟩
theorem ok_is_text_cell {Pr : Program} {w : World} {K : PySem.W.Frag} {mg : Str → Option Value} {base : Heap} (T : Tx K mg) : Ok Pr w K mg base 1 "is_text_cell" ["cell"] (spR K r_is_text_cell) := by
  obtain ⟨fd, F⟩ := T.d_is_text_cell
  refine ⟨⟨fd, fn_pure (N := N_is_text_cell) F sc_is_text_cell (fun ds d h => by cases h; rfl) ?_, F.bindsN fun _ _ _ _ _ _ us hl => match us, hl with | [_], _ => rfl⟩, F.kp, T.g_is_text_cell⟩
  intro cdv A outer s H E hr
  refine ⟨_, (pss_one (ps_ret (pe_cmpR op_eq (pe_ix (r := rIxT K) ix_tup (pv 0) pe_int (fun _ _ => rfl)) (pe_gint rfl T.i_TEXT) (nomark _)))), ?_⟩
  intro B ds d hR
  obtain ⟨⟩ := hR
  rename_i c
  cases c with
  | number z => exact sd_ret (ed_eq (ed_ixT (ed_var rfl) ed_int rfl) ed_int) rfl
  | text t => exact sd_ret (ed_eq (ed_ixT (ed_var rfl) ed_int rfl) ed_int) rfl
inductive r_encoded_length : List D → D → Prop
  | mk {c : Vanbkh.Cell} : r_encoded_length [dC c] (.int (encLen c))
abbrev N_encoded_length : List Str := ["cell"]
theorem sc_encoded_length : FnScope N_encoded_length ["cell"] (defScope (top 24)) := ⟨rfl, rfl, rfl, by decide +kernel, rfl, by decide +kernel, by decide +kernel⟩
theorem ok_encoded_length {Pr : Program} {w : World} {K : PySem.W.Frag} {mg : Str → Option Value} {base : Heap} (T : Tx K mg) : Ok Pr w K mg base 2 "encoded_length" ["cell"] (spR K r_encoded_length) := by
  obtain ⟨fd, F⟩ := T.d_encoded_length
  refine ⟨⟨fd, fn_pure (N := N_encoded_length) F sc_encoded_length (fun ds d h => by cases h; rfl) ?_, F.bindsN fun _ _ _ _ _ _ us hl => match us, hl with | [_], _ => rfl⟩, F.kp, T.g_encoded_length⟩
  intro cdv A outer s H E hr
  refine ⟨_, (pss_cons (ps_if (pt_val (pe_callO (ok_is_text_cell T) (hr.mono (by decide)) rfl (pa_cons (pv 0) pa_nil)))
 (pss_one (ps_ret (pe_op op_add pe_int (pe_callB (r := rLenQ K) call_len_seq (by rfl) T.f_len (by decide +kernel) (pa_cons (pe_ix (r := rIxT K) ix_tup (pv 0) pe_int (fun _ _ => rfl)) pa_nil)))))
 pss_nil)
 (pss_one (ps_ret pe_int))), ?_⟩
  intro B ds d hR
  obtain ⟨⟩ := hR
  rename_i c
  refine sd_seq (sd_if (et_B (ed_call (ea_cons (ed_var rfl) ea_nil) .mk)) (fun h => ?_) (fun h => ?_))
  · cases c with
    | number z => cases h
    | text t =>
      refine sd_ret (ed_add ed_int (ed_lenTN (ed_ixT (d := .tup (dI (bI t))) (ed_var rfl) ed_int rfl))) ?_
      show D.int _ = .int _
      rw [bI_length]
      rfl
  · cases c with
    | number z => exact sd_next (sd_ret ed_int rfl)
    | text t => cases h
inductive r_encode_cell : List D → D → Prop
  | mk {c : Vanbkh.Cell} (h : (Vanbkh.encodeCell c).length ≤ 1000) : r_encode_cell [dC c] (.lst (dI (Vanbkh.encodeCell c)))
abbrev N_encode_cell : List Str := ["cell"]
theorem sc_encode_cell : FnScope N_encode_cell ["cell"] (defScope (top 28)) := ⟨rfl, rfl, rfl, by decide +kernel, rfl, by decide +kernel, by decide +kernel⟩
theorem ok_encode_cell {Pr : Program} {w : World} {K : PySem.W.Frag} {mg : Str → Option Value} {base : Heap} (T : Tx K mg) : Ok Pr w K mg base 2 "encode_cell" ["cell"] (spR K r_encode_cell) := by
  obtain ⟨fd, F⟩ := T.d_encode_cell
  refine ⟨⟨fd, fn_pure (N := N_encode_cell) F sc_encode_cell (fun ds d h => by cases h; rfl) ?_, F.bindsN fun _ _ _ _ _ _ us hl => match us, hl with | [_], _ => rfl⟩, F.kp, T.g_encode_cell⟩
  intro cdv A outer s H E hr
  refine ⟨_, (pss_cons (ps_if (pt_val (pe_callO (ok_is_text_cell T) (hr.mono (by decide)) rfl (pa_cons (pv 0) pa_nil)))
 (pss_one (ps_ret (pe_op op_cat (pe_lst (pa_cons (pe_gint rfl T.i_TEXT) (pa_cons (pe_callB (r := rLenQ K) call_len_seq (by rfl) T.f_len (by decide +kernel) (pa_cons (pe_ix (r := rIxT K) ix_tup (pv 0) pe_int (fun _ _ => rfl)) pa_nil)) pa_nil))) (pe_callTy (r := rListQ K) call_list_of (by rfl) T.f_list (by decide +kernel) (pa_cons (pe_ix (r := rIxT K) ix_tup (pv 0) pe_int (fun _ _ => rfl)) pa_nil)))))
 pss_nil)
 (pss_one (ps_ret (pe_lst (pa_cons (pe_gint rfl T.i_NUMBER) (pa_cons (pe_ix (r := rIxT K) ix_tup (pv 0) pe_int (fun _ _ => rfl)) pa_nil)))))), ?_⟩
  intro B ds d hR
  obtain ⟨⟩ := hR
  rename_i c hz
  refine sd_seq (sd_if (et_B (ed_call (ea_cons (ed_var rfl) ea_nil) .mk)) (fun h => ?_) (fun h => ?_))
  · cases c with
    | number z => cases h
    | text t =>
      have hz' : t.length ≤ 1000 := by
        have := hz
        simp [Vanbkh.encodeCell, Vanbkh.withLength] at this
        omega
      refine sd_ret (en_catI (m := bI t) (en_lst2I ed_int (ed_lenTN (ed_ixT (d := .tup (dI (bI t))) (ed_var rfl) ed_int rfl))).ed (en_list (ed_ixT (d := .tup (dI (bI t))) (ed_var rfl) ed_int rfl) (.inr rfl)).ed ?_).ed ?_
      · rw [bI_length]
        show 2 + _ ≤ _
        omega
      · show D.lst _ = .lst _
        rw [bI_length]
        rfl
  · cases c with
    | number z => exact sd_next (sd_ret (en_lst2I ed_int (ed_ixT (d := .int z) (ed_var rfl) ed_int rfl)).ed rfl)
    | text t => cases h
inductive r_has_item : List D → D → Prop
  | mk {ds : List D} {i : Int} : r_has_item [.lst ds, .int i] (.bl (decide (0 ≤ i) && decide (i ≤ ds.length - 1)))
abbrev N_has_item : List Str := ["items", "index"]
theorem sc_has_item : FnScope N_has_item ["items", "index"] (defScope (top 54)) := ⟨rfl, rfl, rfl, by decide +kernel, rfl, by decide +kernel, by decide +kernel⟩
theorem ok_has_item {Pr : Program} {w : World} {K : PySem.W.Frag} {mg : Str → Option Value} {base : Heap} (T : Tx K mg) : Ok Pr w K mg base 2 "has_item" ["items", "index"] (spR K r_has_item) := by
  obtain ⟨fd, F⟩ := T.d_has_item
  refine ⟨⟨fd, fn_pure (N := N_has_item) F sc_has_item (fun ds d h => by cases h; rfl) ?_, F.bindsN fun _ _ _ _ _ _ us hl => match us, hl with | [_, _], _ => rfl⟩, F.kp, T.g_has_item⟩
  intro cdv A outer s H E hr
  refine ⟨_, (pss_one (ps_ret (pe_callO (ok_is_within T) (hr.mono (by decide)) rfl (pa_cons (pv 1) (pa_cons pe_int (pa_cons (pe_op op_sub (pe_callB (r := rLenQ K) call_len_seq (by rfl) T.f_len (by decide +kernel) (pa_cons (pv 0) pa_nil)) pe_int) pa_nil)))))), ?_⟩
  intro B ds d hR
  obtain ⟨⟩ := hR
  exact sd_ret (ed_call (ea_cons (ed_var rfl) (ea_cons ed_int (ea_cons (ed_sub (ed_lenL (ed_var rfl)) ed_int) ea_nil))) .mk) rfl
inductive r_bytes_of : List D → D → Prop
  | mk {s : Str} (h : s.cps.size ≤ 1000) : r_bytes_of [.str s] (.lst (dI (cpI s)))
abbrev N_bytes_of : List Str := ["words", "sign"]
theorem sc_bytes_of : FnScope N_bytes_of ["words"] (defScope (top 56)) := ⟨rfl, rfl, rfl, by decide +kernel, rfl, by decide +kernel, by decide +kernel⟩
theorem ok_bytes_of {Pr : Program} {w : World} {K : PySem.W.Frag} {mg : Str → Option Value} {base : Heap} (T : Tx K mg) : Ok Pr w K mg base 1 "bytes_of" ["words"] (spR K r_bytes_of) := by
  obtain ⟨fd, F⟩ := T.d_bytes_of
  refine ⟨⟨fd, fn_pure (N := N_bytes_of) F sc_bytes_of (fun ds d h => by cases h; rfl) ?_, F.bindsN fun _ _ _ _ _ _ us hl => match us, hl with | [_], _ => rfl⟩, F.kp, T.g_bytes_of⟩
  intro cdv A outer s H E hr
  refine ⟨_, (pss_one (ps_ret (pe_lc (own := [("sign", 1)]) (g := gName 1) (tt := tYes) rfl sc_bytes_of.nd (pi_str (pv 0)) (blkOk_by (own := [("sign", 1)]) (N := N_bytes_of) (sc := (defScope (top 56))) (by decide +kernel)) (fun _ _ _ _ _ => pg_name (i := 1) sc_bytes_of.nd rfl (Or.inl rfl)) (fun _ _ _ _ _ => pts_nil) (fun _ _ _ _ _ => (pe_callB (r := rOrdQ) call_ord (by rfl) T.f_ord (by decide +kernel) (pa_cons (pv 1) pa_nil)))))), ?_⟩
  intro B ds d hR
  obtain ⟨⟩ := hR
  rename_i s hz
  refine sd_ret (en_is (es := dI (cpI s)) (en_lc (g := fun i => .int (s.cps.getD i 0 : Nat)) (dw_str (ed_var rfl)) rfl rfl (fun i hi => ed_ord (ed_var rfl)) (by omega)) ?_).ed rfl
  unfold cpI dI
  rw [List.map_map]
  apply List.ext_getElem
  · simp
  · intro i h1 h2
    simp at h1 h2
    simp [Array.getD_eq_getD_getElem?, h2]
inductive r_decimal_notation : List D → D → Prop
  | mk {z : Int} (h : z.natAbs < 10 ^ 40) : r_decimal_notation [.int z] (dB (Vanbkh.decimal z))
theorem log_small {n : Nat} (h : n < 10 ^ 40) : n.log2 < 1920 := by
  by_cases q : n = 0
  · subst q; decide
  · have h1 : n < 2 ^ 140 := Nat.lt_of_lt_of_le h (by decide)
    have := (Nat.log2_lt q).mpr h1
    omega
abbrev N_decimal_notation : List Str := ["number"]
theorem sc_decimal_notation : FnScope N_decimal_notation ["number"] (defScope (top 57)) := ⟨rfl, rfl, rfl, by decide +kernel, rfl, by decide +kernel, by decide +kernel⟩
theorem ok_decimal_notation {Pr : Program} {w : World} {K : PySem.W.Frag} {mg : Str → Option Value} {base : Heap} (T : Tx K mg) : Ok Pr w K mg base 2 "decimal_notation" ["number"] (spR K r_decimal_notation) := by
  obtain ⟨fd, F⟩ := T.d_decimal_notation
  refine ⟨⟨fd, fn_pure (N := N_decimal_notation) F sc_decimal_notation (fun ds d h => by cases h; rfl) ?_, F.bindsN fun _ _ _ _ _ _ us hl => match us, hl with | [_], _ => rfl⟩, F.kp, T.g_decimal_notation⟩
  intro cdv A outer s H E hr
  refine ⟨_, (pss_one (ps_ret (pe_callO (ok_bytes_of T) (hr.mono (by decide)) rfl (pa_cons (pe_callTy (r := rStrQ) call_str_int (by rfl) T.f_str (by decide +kernel) (pa_cons (pv 0) pa_nil)) pa_nil)))), ?_⟩
  intro B ds d hR
  obtain ⟨⟩ := hR
  rename_i z hz
  refine sd_ret (ed_call (ea_cons (ed_strI (ed_var rfl) (log_small hz)) ea_nil) (.mk ?_)) ?_
  · have e := cpI_str z
    have h1 := congrArg List.length e
    rw [bI_length] at h1
    unfold cpI at h1
    rw [List.length_map, Array.length_toList] at h1
    have := decimal_len hz (by decide)
    omega
  · show D.lst (dI (cpI _)) = dB _
    rw [cpI_str]
    rfl
inductive r_truncate : List D → D → Prop
  | mk {l : List Int} {n : Int} (h : l.length ≤ 100000) (h1 : 1 ≤ n) : r_truncate [.lst (dI l), .int n] (.lst (dI (mTrunc n l)))
abbrev N_truncate : List Str := ["line", "width"]
theorem sc_truncate : FnScope N_truncate ["line", "width"] (defScope (top 58)) := ⟨rfl, rfl, rfl, by decide +kernel, rfl, by decide +kernel, by decide +kernel⟩
theorem ok_truncate {Pr : Program} {w : World} {K : PySem.W.Frag} {mg : Str → Option Value} {base : Heap} (T : Tx K mg) : Ok Pr w K mg base 1 "truncate" ["line", "width"] (spR K r_truncate) := by
  obtain ⟨fd, F⟩ := T.d_truncate
  refine ⟨⟨fd, fn_pure (N := N_truncate) F sc_truncate (fun ds d h => by cases h; rfl) ?_, F.bindsN fun _ _ _ _ _ _ us hl => match us, hl with | [_, _], _ => rfl⟩, F.kp, T.g_truncate⟩
  intro cdv A outer s H E hr
  refine ⟨_, (pss_cons (ps_if (pt_cmpR op_le (pe_callB (r := rLenQ K) call_len_seq (by rfl) T.f_len (by decide +kernel) (pa_cons (pv 0) pa_nil)) (pv 1) (nomark _))
 (pss_one (ps_ret (pv 0)))
 pss_nil)
 (pss_one (ps_ret (pe_op op_cat (pe_slice (r := rSlL K) sl_list (pv 0) po_none (po_some (pe_op op_sub (pv 1) pe_int))) (pe_lst (pa_cons (pe_gint rfl T.i_TILDE) pa_nil)))))), ?_⟩
  intro B ds d hR
  obtain ⟨⟩ := hR
  rename_i l n hl hn
  refine sd_seq (sd_if (et_test (ed_le (ed_lenN (ed_var rfl)) (ed_var rfl))) (fun h => ?_) (fun h => ?_))
  · refine sd_ret (ed_var rfl) ?_
    show D.lst _ = .lst _
    unfold mTrunc
    rw [if_pos (by simpa using h)]
  · refine sd_next (sd_ret (en_catI (en_sliceI (ed_var rfl) eo_none (eo_some (ed_sub (ed_var rfl) ed_int))).ed (en_lst1I ed_int).ed ?_).ed ?_)
    · rw [cutD_to _ (by omega), List.length_take]
      show _ + 1 ≤ _
      omega
    · show D.lst _ = .lst _
      unfold mTrunc
      rw [if_neg (by simpa using h), cutD_to _ (by omega)]
inductive r_single_line : List D → D → Prop
  | mk {l : List Int} (h : l.length ≤ 100000) : r_single_line [.tup (dI l)] (.lst (dI (mLine l)))
abbrev N_single_line : List Str := ["text", "byte"]
theorem sc_single_line : FnScope N_single_line ["text"] (defScope (top 59)) := ⟨rfl, rfl, rfl, by decide +kernel, rfl, by decide +kernel, by decide +kernel⟩
theorem ok_single_line {Pr : Program} {w : World} {K : PySem.W.Frag} {mg : Str → Option Value} {base : Heap} (T : Tx K mg) : Ok Pr w K mg base 1 "single_line" ["text"] (spR K r_single_line) := by
  obtain ⟨fd, F⟩ := T.d_single_line
  refine ⟨⟨fd, fn_pure (N := N_single_line) F sc_single_line (fun ds d h => by cases h; rfl) ?_, F.bindsN fun _ _ _ _ _ _ us hl => match us, hl with | [_], _ => rfl⟩, F.kp, T.g_single_line⟩
  intro cdv A outer s H E hr
  refine ⟨_, (pss_one (ps_ret (pe_lc (own := [("byte", 1)]) (g := gName 1) (tt := tYes) rfl sc_single_line.nd (pi_tup (pv 0)) (blkOk_by (own := [("byte", 1)]) (N := N_single_line) (sc := (defScope (top 59))) (by decide +kernel)) (fun _ _ _ _ _ => pg_name (i := 1) sc_single_line.nd rfl (Or.inl rfl)) (fun _ _ _ _ _ => pts_nil) (fun _ _ _ _ _ => (pe_ifExp (pt_cmpR op_eq (pv 1) (pe_gint rfl T.i_LINE_FEED) (nomark _)) (pe_gint rfl T.i_SPACE) (pv 1)))))), ?_⟩
  intro B ds d hR
  obtain ⟨⟩ := hR
  rename_i l hl
  refine sd_ret (en_is (es := dI (mLine l)) (en_lcL (f := D.int) (l := l) (g := fun b => if decide (b = 10) = true then .int 32 else .int b) (dw_tupL (ed_var rfl)) rfl rfl (fun x hx => (ed_if (et_test (ed_eq (ed_var rfl) ed_int)) (fun h => ed_int) (fun h => (ed_var rfl)))) (by omega)) ?_).ed rfl
  unfold mLine dI
  rw [List.map_map]
  apply List.map_congr_left
  intro b _
  by_cases q : b = 10 <;> simp [q]
inductive r_fill_before : List D → D → Prop
  | mk {l : List Int} {n : Int} (h : l.length ≤ 100000) (h1 : n ≤ 100000) (h2 : -100000 ≤ n) : r_fill_before [.lst (dI l), .int n] (.lst (dI (mPadL n l)))
abbrev N_fill_before : List Str := ["line", "width"]
theorem sc_fill_before : FnScope N_fill_before ["line", "width"] (defScope (top 60)) := ⟨rfl, rfl, rfl, by decide +kernel, rfl, by decide +kernel, by decide +kernel⟩
theorem ok_fill_before {Pr : Program} {w : World} {K : PySem.W.Frag} {mg : Str → Option Value} {base : Heap} (T : Tx K mg) : Ok Pr w K mg base 1 "fill_before" ["line", "width"] (spR K r_fill_before) := by
  obtain ⟨fd, F⟩ := T.d_fill_before
  refine ⟨⟨fd, fn_pure (N := N_fill_before) F sc_fill_before (fun ds d h => by cases h; rfl) ?_, F.bindsN fun _ _ _ _ _ _ us hl => match us, hl with | [_, _], _ => rfl⟩, F.kp, T.g_fill_before⟩
  intro cdv A outer s H E hr
  refine ⟨_, (pss_one (ps_ret (pe_op op_cat (pe_op op_rep (pe_lst (pa_cons (pe_gint rfl T.i_SPACE) pa_nil)) (pe_op op_sub (pv 1) (pe_callB (r := rLenQ K) call_len_seq (by rfl) T.f_len (by decide +kernel) (pa_cons (pv 0) pa_nil)))) (pv 0)))), ?_⟩
  intro B ds d hR
  obtain ⟨⟩ := hR
  refine (sd_ret (en_catI (en_repI (i := 32) (en_lst1I ed_int).ed (ed_sub (ed_var rfl) (ed_lenN (ed_var rfl))) ?_ ?_).ed (ed_var rfl) ?_).ed rfl)
  · omega
  · omega
  · rw [List.length_replicate]
    omega
inductive r_fill_behind : List D → D → Prop
  | mk {l : List Int} {n : Int} (h : l.length ≤ 100000) (h1 : n ≤ 100000) (h2 : -100000 ≤ n) : r_fill_behind [.lst (dI l), .int n] (.lst (dI (mPadR n l)))
abbrev N_fill_behind : List Str := ["line", "width"]
theorem sc_fill_behind : FnScope N_fill_behind ["line", "width"] (defScope (top 61)) := ⟨rfl, rfl, rfl, by decide +kernel, rfl, by decide +kernel, by decide +kernel⟩
theorem ok_fill_behind {Pr : Program} {w : World} {K : PySem.W.Frag} {mg : Str → Option Value} {base : Heap} (T : Tx K mg) : Ok Pr w K mg base 1 "fill_behind" ["line", "width"] (spR K r_fill_behind) := by
  obtain ⟨fd, F⟩ := T.d_fill_behind
  refine ⟨⟨fd, fn_pure (N := N_fill_behind) F sc_fill_behind (fun ds d h => by cases h; rfl) ?_, F.bindsN fun _ _ _ _ _ _ us hl => match us, hl with | [_, _], _ => rfl⟩, F.kp, T.g_fill_behind⟩
  intro cdv A outer s H E hr
  refine ⟨_, (pss_one (ps_ret (pe_op op_cat (pv 0) (pe_op op_rep (pe_lst (pa_cons (pe_gint rfl T.i_SPACE) pa_nil)) (pe_op op_sub (pv 1) (pe_callB (r := rLenQ K) call_len_seq (by rfl) T.f_len (by decide +kernel) (pa_cons (pv 0) pa_nil))))))), ?_⟩
  intro B ds d hR
  obtain ⟨⟩ := hR
  refine (sd_ret (en_catI (ed_var rfl) (en_repI (i := 32) (en_lst1I ed_int).ed (ed_sub (ed_var rfl) (ed_lenN (ed_var rfl))) ?_ ?_).ed ?_).ed rfl)
  · omega
  · omega
  · rw [List.length_replicate]
    omega
theorem cut_rg {n m : Nat} (hn : 0 < n) (hn2 : n < 1073741824) (hm : m < 2 ^ 61) : RgC 0 m n ((m + n - 1) / n) := by
  have sz : Builtin.Range.rangeSize 0 m n = ((m + n - 1) / n : Nat) := by
    unfold Builtin.Range.rangeSize
    rw [if_pos (by omega)]
    by_cases q : m = 0
    · subst q
      rw [if_neg (by decide)]
      rw [Nat.div_eq_of_lt (by omega)]
      rfl
    · rw [if_pos (by omega)]
      have e : (m : Int) - 0 - 1 = ((m - 1 : Nat) : Int) := by omega
      rw [e, ← Int.natCast_ediv]
      have e2 : m + n - 1 = (m - 1) + n := by omega
      rw [e2, Nat.add_div_right _ hn]
      rfl
  refine ⟨by omega, by omega, ?_, sz⟩
  have le := Nat.div_le_self (m + n - 1) n
  unfold Builtin.Range.small
  rw [sz]
  generalize (m + n - 1) / n = k at le
  simp only [Builtin.Range.rangeFitsLong, Bool.and_eq_true, Bool.or_eq_true, decide_eq_true_eq, beq_iff_eq, show ((n : Int) > 0) by omega, if_true]
  omega
inductive r_cut_into_pieces : List D → D → Prop
  | mk {ds : List D} {n : Nat} (h : ds.length ≤ 100000) (h1 : 0 < n) (h2 : n ≤ 100000) : r_cut_into_pieces [.lst ds, .int n] (.lst ((mCut n ds).map .lst))
abbrev N_cut_into_pieces : List Str := ["whole", "length", "start"]
theorem sc_cut_into_pieces : FnScope N_cut_into_pieces ["whole", "length"] (defScope (top 63)) := ⟨rfl, rfl, rfl, by decide +kernel, rfl, by decide +kernel, by decide +kernel⟩
theorem ok_cut_into_pieces {Pr : Program} {w : World} {K : PySem.W.Frag} {mg : Str → Option Value} {base : Heap} (T : Tx K mg) : Ok Pr w K mg base 1 "cut_into_pieces" ["whole", "length"] (spR K r_cut_into_pieces) := by
  obtain ⟨fd, F⟩ := T.d_cut_into_pieces
  refine ⟨⟨fd, fn_pure (N := N_cut_into_pieces) F sc_cut_into_pieces (fun ds d h => by cases h; rfl) ?_, F.bindsN fun _ _ _ _ _ _ us hl => match us, hl with | [_, _], _ => rfl⟩, F.kp, T.g_cut_into_pieces⟩
  intro cdv A outer s H E hr
  refine ⟨_, (pss_one (ps_ret (pe_lc (own := [("start", 2)]) (g := gName 2) (tt := tYes) rfl sc_cut_into_pieces.nd (pi_range3 (by rfl) T.f_range (pa_cons pe_int (pa_cons (pe_callB (r := rLenQ K) call_len_seq (by rfl) T.f_len (by decide +kernel) (pa_cons (pv 0) pa_nil)) (pa_cons (pv 1) pa_nil)))) (blkOk_by (own := [("start", 2)]) (N := N_cut_into_pieces) (sc := (defScope (top 63))) (by decide +kernel)) (fun _ _ _ _ _ => pg_name (i := 2) sc_cut_into_pieces.nd rfl (Or.inl rfl)) (fun _ _ _ _ _ => pts_nil) (fun _ _ _ _ _ => (pe_slice (r := rSlL K) sl_list (pv 0) (po_some (pv 2)) (po_some (pe_op op_add (pv 2) (pv 1)))))))), ?_⟩
  intro B ds d hR
  obtain ⟨⟩ := hR
  rename_i ds n hl hn hn2
  refine sd_ret (en_is (es := (mCut n ds).map D.lst) (en_lc (g := fun i => .lst ((ds.drop (i * n)).take n)) (dw_rng3 ed_int (ed_lenL (ed_var rfl)) (ed_var rfl) (cut_rg hn (by omega) (by omega))) rfl rfl (fun i hi => ed_is (en_slice (ed_var rfl) (eo_some (ed_var rfl)) (eo_some (ed_add (ed_var rfl) (ed_var rfl)))).ed ?_) ?_) ?_).ed rfl
  · have e1 : (0 : Int) + (i : Int) * (n : Int) = ((i * n : Nat) : Int) := by rw [Int.zero_add, Int.natCast_mul]
    rw [e1, cutD_mid _ (by omega) (by omega)]
    have e2 : (((i * n : Nat) : Int) + (n : Int)).toNat - ((i * n : Nat) : Int).toNat = n := by omega
    rw [e2, Int.toNat_natCast]
  · have := Nat.div_le_self (ds.length + n - 1) n
    omega
  · unfold mCut
    rw [List.map_map]
    rfl
inductive r_digits_of : List D → D → Prop
  | mk {l : List Int} {b : Bool} : r_digits_of [seqD b (dI l)] (seqD b (dI (mDigs l)))
abbrev N_digits_of : List Str := ["numbers"]
theorem sc_digits_of : FnScope N_digits_of ["numbers"] (defScope (top 68)) := ⟨rfl, rfl, rfl, by decide +kernel, rfl, by decide +kernel, by decide +kernel⟩
theorem ok_digits_of {Pr : Program} {w : World} {K : PySem.W.Frag} {mg : Str → Option Value} {base : Heap} (T : Tx K mg) : Ok Pr w K mg base 1 "digits_of" ["numbers"] (spR K r_digits_of) := by
  obtain ⟨fd, F⟩ := T.d_digits_of
  refine ⟨⟨fd, fn_pure (N := N_digits_of) F sc_digits_of (fun ds d h => by cases h; rfl) ?_, F.bindsN fun _ _ _ _ _ _ us hl => match us, hl with | [_], _ => rfl⟩, F.kp, T.g_digits_of⟩
  intro cdv A outer s H E hr
  refine ⟨_, (pss_cons (ps_if (PW.pt (pw_and (pt_cmpR op_gt (pe_callB (r := rLenQ K) call_len_seq (by rfl) T.f_len (by decide +kernel) (pa_cons (pv 0) pa_nil)) pe_int (nomark _)) (pw_and1 (pt_cmpR op_eq (pe_ix (r := rIx K) ix_seq (pv 0) pe_int (fun _ _ => rfl)) (pe_gint rfl T.i_MINUS) (nomark _)))))
 (pss_one (ps_ret (pe_slice (r := rSlS K) sl_seq (pv 0) (po_some pe_int) po_none)))
 pss_nil)
 (pss_one (ps_ret (pv 0)))), ?_⟩
  intro B ds d hR
  obtain ⟨⟩ := hR
  rename_i l b
  refine sd_seq (sd_if (b := decide (l.head? = some 45)) (et_is (et_and (b := decide (l.head? = some 45)) (et_test (ed_gt (ed_lenSN (ed_var rfl)) ed_int)) (fun h => (et_test (ed_is (ed_eq (i := l.headD 0) (ed_ixSN (ed_var rfl) ed_int ?_) ed_int) ?_)))) ?_) (fun h => ?_) (fun h => ?_))
  · cases l with
    | nil => simp at h
    | cons a r => exact atI_zero a r
  · cases l with
    | nil => simp at h
    | cons a r => simp
  · cases l with
    | nil => rfl
    | cons a r => simp
  · refine sd_ret (ed_sliceSN (ed_var rfl) (eo_some ed_int) eo_none ?_) ?_
    · cases l with
      | nil => simp at h
      | cons a r =>
        intro z
        have := z.1
        rw [show (1 : Int) = ((1 : Nat) : Int) from rfl, HT.sIx_nat] at this
        simp at this
    · show seqD b _ = seqD b _
      unfold mDigs
      rw [if_pos (by simpa using h), cutD_from _ (by decide)]
      rw [← List.drop_one]
      rfl
  · refine sd_next (sd_ret (ed_var rfl) ?_)
    show seqD b _ = seqD b _
    unfold mDigs
    rw [if_neg (by simpa using h)]
inductive r_is_decimal_notation : List D → D → Prop
  | mk {l : List Int} {b : Bool} (h : l.length ≤ 100000) : r_is_decimal_notation [seqD b (dI l)] (.bl (mIsDec l))
theorem mDigs_le (l : List Int) : (mDigs l).length ≤ l.length := by
  unfold mDigs
  split
  · rw [List.length_tail]; omega
  · exact Nat.le_refl _
abbrev N_is_decimal_notation : List Str := ["numbers", "digits", "byte"]
theorem sc_is_decimal_notation : FnScope N_is_decimal_notation ["numbers"] (defScope (top 69)) := ⟨rfl, rfl, rfl, by decide +kernel, rfl, by decide +kernel, by decide +kernel⟩
theorem ok_is_decimal_notation {Pr : Program} {w : World} {K : PySem.W.Frag} {mg : Str → Option Value} {base : Heap} (T : Tx K mg) : Ok Pr w K mg base 2 "is_decimal_notation" ["numbers"] (spR K r_is_decimal_notation) := by
  obtain ⟨fd, F⟩ := T.d_is_decimal_notation
  refine ⟨⟨fd, fn_pure (N := N_is_decimal_notation) F sc_is_decimal_notation (fun ds d h => by cases h; rfl) ?_, F.bindsN fun _ _ _ _ _ _ us hl => match us, hl with | [_], _ => rfl⟩, F.kp, T.g_is_decimal_notation⟩
  intro cdv A outer s H E hr
  refine ⟨_, (pss_cons (ps_set (i := 1) sc_is_decimal_notation.nd rfl (Or.inl rfl) (pe_callO (ok_digits_of T) (hr.mono (by decide)) rfl (pa_cons (pv 0) pa_nil)))
 (pss_cons (ps_if (PW.pt (pw_or (pt_cmpR op_eq (pe_callB (r := rLenQ K) call_len_seq (by rfl) T.f_len (by decide +kernel) (pa_cons (pv 1) pa_nil)) pe_int (nomark _)) (pw_or1 (pt_not (pt_val (pe_callB (r := rAll K) (cr_all rfl) (by rfl) T.f_all (by decide +kernel) (pa_cons (pe_lc (own := [("byte", 2)]) (g := gName 2) (tt := tYes) rfl sc_is_decimal_notation.nd (pi_seq (pi_list (pv 1)) (pi_tup (pv 1))) (blkOk_by (own := [("byte", 2)]) (N := N_is_decimal_notation) (sc := (defScope (top 69))) (by decide +kernel)) (fun _ _ _ _ _ => pg_name (i := 2) sc_is_decimal_notation.nd rfl (Or.inl rfl)) (fun _ _ _ _ _ => pts_nil) (fun _ _ _ _ _ => (pe_callO (ok_is_within T) (hr.mono (by decide)) rfl (pa_cons (pv 2) (pa_cons (pe_gint rfl T.i_ZERO) (pa_cons (pe_gint rfl T.i_NINE) pa_nil)))))) pa_nil)))))))
 (pss_one (ps_ret pe_bl))
 pss_nil)
 (pss_one (ps_ret (pe_or (pe_cmpR op_ne (pe_ix (r := rIx K) ix_seq (pv 1) pe_int (fun _ _ => rfl)) (pe_gint rfl T.i_ZERO) (nomark _)) (pe_one (pe_cmpR op_eq (pe_callB (r := rLenQ K) call_len_seq (by rfl) T.f_len (by decide +kernel) (pa_cons (pv 0) pa_nil)) pe_int (nomark _)))))))), ?_⟩
  intro B ds d hR
  obtain ⟨⟩ := hR
  rename_i l b hl
  have hd := mDigs_le l
  refine sd_seq (sd_asg (ed_call (ea_cons (ed_var rfl) ea_nil) .mk) (hlt rfl) ?_)
  refine sd_seq (sd_if (b := (mDigs l).isEmpty || !(mDigs l).all fun x => decide (48 ≤ x) && decide (x ≤ 57)) (et_is (et_or (b := !(mDigs l).all fun x => decide (48 ≤ x) && decide (x ≤ 57)) (et_test (ed_eq (ed_lenSN (b := b) (l := mDigs l) (ed_var rfl)) ed_int)) (fun h => (et_not (et_B (ed_is (ed_all (ed_is (en_lcL (f := D.int) (l := mDigs l) (dw_seqL (ed_var rfl) (sq b _)) rfl rfl (fun x hx => (ed_call (ea_cons (ed_var rfl) (ea_cons ed_int (ea_cons ed_int ea_nil))) .mk)) (by omega)).ed (e := .lst (((mDigs l).map fun x => decide (48 ≤ x) && decide (x ≤ 57)).map D.bl)) (by rw [List.map_map]; rfl))) ?_))))) ?_) (fun h => ?_) (fun h => ?_))
  · rw [List.all_map]
    rfl
  · cases mDigs l with
    | nil => simp
    | cons a r =>
      simp
      intro z
      omega
  · refine sd_ret ed_bl ?_
    show D.bl _ = .bl _
    unfold mIsDec
    simp only [Bool.or_eq_true, Bool.not_eq_true'] at h
    rcases h with h | h
    · rw [h]; rfl
    · rw [h]; simp
  · refine sd_next ?_
    simp only [Bool.or_eq_false_iff, Bool.not_eq_false'] at h
    refine sd_ret (ed_is (ed_orV (a := !decide ((mDigs l).headD 0 = 48)) (b := decide ((l.length : Int) = 1)) (ed_ne (i := (mDigs l).headD 0) (ed_ixSN (b := b) (l := mDigs l) (ed_var rfl) ed_int ?_) ed_int) (fun h => (ed_eq (ed_lenSN (ed_var rfl)) ed_int))) (e := .bl (mIsDec l)) ?_) rfl
    · cases q : mDigs l with
      | nil => rw [q] at h; simp at h
      | cons a r => exact atI_zero a r
    · unfold mIsDec
      rw [h.1, h.2]
      cases q : mDigs l with
      | nil => rw [q] at h; simp at h
      | cons a r =>
        congr 1
        have e1 : decide ((l.length : Int) = 1) = (l.length == 1) := by
          rw [Bool.eq_iff_iff]
          simp
          omega
        rw [e1]
        show (!decide (a = 48) || _) = (!false && true && (some a != some 48 || _))
        have e2 : (some a != some (48 : Int)) = !decide (a = 48) := by
          by_cases q : a = 48 <;> simp [q, bne]
        rw [e2]
        rfl
end Rl
namespace Rl
open PySem PySem.Spec PyProof.Rows L2 Dg

inductive r_split_at : List D → D → Prop
  | mk {l : List Int} {s : Int} {b : Bool} (h : l.length ≤ 100000) : r_split_at [seqD b (dI l), .int s] (.lst ((mSplit s l).map fun p => .lst (dI p)))
theorem mSplit_len (s : Int) : ∀ l : List Int, (mSplit s l).length ≤ l.length + 1 ∧ ∀ p ∈ mSplit s l, p.length ≤ l.length
  | [] => by simp [mSplit]
  | x :: r => by
    have ih := mSplit_len s r
    unfold mSplit
    cases h : mSplit s r with
    | nil => exact absurd h (mSplit_ne s r)
    | cons p ps =>
      rw [h] at ih
      obtain ⟨i1, i2⟩ := ih
      simp at i1 i2 ⊢
      split
      · simp
        refine ⟨by omega, by omega, fun q hq => ?_⟩
        have := i2.2 q hq
        omega
      · simp
        refine ⟨by omega, by omega, fun q hq => ?_⟩
        have := i2.2 q hq
        omega
abbrev N_split_at : List Str := ["numbers", "separator", "parts", "number"]
theorem sc_split_at : FnScope N_split_at ["numbers", "separator"] (defScope (top 62)) := ⟨rfl, rfl, rfl, by decide +kernel, rfl, by decide +kernel, by decide +kernel⟩
theorem ok_split_at {Pr : Program} {w : World} {K : PySem.W.Frag} {mg : Str → Option Value} {base : Heap} (T : Tx K mg) : Ok Pr w K mg base 1 "split_at" ["numbers", "separator"] (spR K r_split_at) := by
  obtain ⟨fd, F⟩ := T.d_split_at
  refine ⟨⟨fd, fn_pure (N := N_split_at) F sc_split_at (fun ds d h => by cases h; rfl) ?_, F.bindsN fun _ _ _ _ _ _ us hl => match us, hl with | [_, _], _ => rfl⟩, F.kp, T.g_split_at⟩
  intro cdv A outer s H E hr
  refine ⟨_, (pss_cons (ps_set (i := 2) sc_split_at.nd rfl (Or.inl rfl) (pe_lst (pa_cons (pe_lst pa_nil) pa_nil)))
 (pss_cons (ps_for PassesOwn.never rfl (pi_seq (pi_list (pv 0)) (pi_tup (pv 0))) (pg_name (i := 3) sc_split_at.nd rfl (Or.inl rfl))
 (pss_one (ps_if (pt_cmpR op_eq (pv 3) (pv 1) (nomark _))
 (pss_one (ps_expr (pe_bm PySem.F.plainAttrs_list PySem.F.slot_list_append PySem.F.type_list_append mt_append (pv 2) (pa_cons (pe_lst pa_nil) pa_nil))))
 (pss_one (ps_expr (pe_bm PySem.F.plainAttrs_list PySem.F.slot_list_append PySem.F.type_list_append mt_append (pe_ix (r := rIxL K) ix_list (pv 2) (pe_un un_neg pe_int) (fun _ _ => rfl)) (pa_cons (pv 3) pa_nil)))))))
 (pss_one (ps_ret (pv 2))))), ?_⟩
  intro B ds d hR
  obtain ⟨⟩ := hR
  rename_i l s b hl
  refine sd_seq (sd_asg2 en_lst0I (hlt rfl) ?_)
  refine sd_seq (sd_forL (f := D.int) (l := l) (dw_seqL (ed_var rfl) (sq b _)) (fun pre δ => ∃ sl, δ = [.sh (seqD b (dI l)), .sh (.int s), .ow2 ((mSplit s pre).map dI), sl]) ?_ ?_ ?_)
  · exact ⟨_, rfl⟩
  · rintro pre x post δ e ⟨sl, rfl⟩
    have hp : pre.length ≤ 100000 := by
      have := congrArg List.length e
      simp at this
      omega
    have hlen := mSplit_len s pre
    have hne := mSplit_ne s pre
    refine gd_name (hlt rfl) ?_
    refine sd_if (et_test (ed_eq (i := x) (j := s) (ed_var rfl) (ed_var rfl))) (fun h => ?_) (fun h => ?_)
    · refine sd_append2 (dss := (mSplit s pre).map dI) rfl en_lst0I (by rw [List.length_map]; omega) ?_
      refine ⟨.sh (.int x), ?_⟩
      rw [mSplit_snoc, if_pos (by simpa using h), List.map_append]
      rfl
    · have hpos : 0 < (mSplit s pre).length := List.length_pos_iff.mpr hne
      have hlast : ((mSplit s pre).map dI)[(mSplit s pre).length - 1]? = some (dI ((mSplit s pre).getLastD [])) := by
        rw [List.getElem?_map, List.getElem?_eq_getElem (by omega)]
        rw [List.getLastD_eq_getLast?, List.getLast?_eq_getElem?, List.getElem?_eq_getElem (by omega)]
        rfl
      refine sd_app_in (dss := (mSplit s pre).map dI) (z := -1) rfl (ed_neg ed_int) (by rw [List.length_map]; exact ixN_neg1 hpos) hlast (ed_var rfl) ?_ ?_
      · have : (mSplit s pre).getLastD [] ∈ mSplit s pre := by
          rw [List.getLastD_eq_getLast?, List.getLast?_eq_some_getLast hne]
          exact List.getLast_mem hne
        have := hlen.2 _ this
        rw [List.length_map]
        omega
      · refine ⟨.sh (.int x), ?_⟩
        rw [mSplit_snoc, if_neg (by simpa using h), List.map_append, List.map_dropLast]
        have e2 := set_last ((mSplit s pre).map dI) (by simpa using hne) (dI ((mSplit s pre).getLastD []) ++ [D.int x])
        rw [List.length_map] at e2
        show [Sl.sh (seqD b (dI l)), .sh (.int s), .ow2 _, .sh (.int x)] = _
        rw [e2]
        simp [dI]
  · rintro δ ⟨sl, rfl⟩
    refine sd_frz2 2 rfl (sd_ret (ed_var rfl) ?_)
    show D.lst _ = .lst _
    rw [List.map_map]
    rfl
inductive r_is_plain : List D → D → Prop
  | mk {t : List UInt8} (h : t.length ≤ 1000) : r_is_plain [.tup (dI (bI t))] (.bl (Vanbkh.isPlain t))
theorem atI_lastI {l : List Int} (h : l ≠ []) : atI l (-1) = some (l.getLastD 0) := by
  obtain ⟨m, x, rfl⟩ : ∃ m x, l = m ++ [x] := ⟨l.dropLast, l.getLast h, (List.dropLast_concat_getLast h).symm⟩
  rw [atI_last]
  simp
abbrev N_is_plain : List Str := ["text", "byte"]
theorem sc_is_plain : FnScope N_is_plain ["text"] (defScope (top 70)) := ⟨rfl, rfl, rfl, by decide +kernel, rfl, by decide +kernel, by decide +kernel⟩
theorem ok_is_plain {Pr : Program} {w : World} {K : PySem.W.Frag} {mg : Str → Option Value} {base : Heap} (T : Tx K mg) : Ok Pr w K mg base 3 "is_plain" ["text"] (spR K r_is_plain) := by
  obtain ⟨fd, F⟩ := T.d_is_plain
  refine ⟨⟨fd, fn_pure (N := N_is_plain) F sc_is_plain (fun ds d h => by cases h; rfl) ?_, F.bindsN fun _ _ _ _ _ _ us hl => match us, hl with | [_], _ => rfl⟩, F.kp, T.g_is_plain⟩
  intro cdv A outer s H E hr
  refine ⟨_, (pss_cons (ps_if (PW.pt (pw_or (pt_cmpR op_eq (pe_callB (r := rLenQ K) call_len_seq (by rfl) T.f_len (by decide +kernel) (pa_cons (pv 0) pa_nil)) pe_int (nomark _)) (pw_or (pt_cmpR op_eq (pe_ix (r := rIxT K) ix_tup (pv 0) pe_int (fun _ _ => rfl)) (pe_gint rfl T.i_SPACE) (nomark _)) (pw_or1 (pt_cmpR op_eq (pe_ix (r := rIxT K) ix_tup (pv 0) (pe_un un_neg pe_int) (fun _ _ => rfl)) (pe_gint rfl T.i_SPACE) (nomark _))))))
 (pss_one (ps_ret pe_bl))
 pss_nil)
 (pss_cons (ps_if (pt_val (pe_callB (r := rAny K) (cr_any rfl) (by rfl) T.f_any (by decide +kernel) (pa_cons (pe_lc (own := [("byte", 1)]) (g := gName 1) (tt := tYes) rfl sc_is_plain.nd (pi_tup (pv 0)) (blkOk_by (own := [("byte", 1)]) (N := N_is_plain) (sc := (defScope (top 70))) (by decide +kernel)) (fun _ _ _ _ _ => pg_name (i := 1) sc_is_plain.nd rfl (Or.inl rfl)) (fun _ _ _ _ _ => pts_nil) (fun _ _ _ _ _ => (pe_cmpR (op_inI T.esc) (pv 1) (pe_gref rfl T.g_ESCAPES) (by rfl)))) pa_nil)))
 (pss_one (ps_ret pe_bl))
 pss_nil)
 (pss_one (ps_ret (pe_not (pe_callO (ok_is_decimal_notation T) (hr.mono (by decide)) rfl (pa_cons (pv 0) pa_nil))))))), ?_⟩
  intro B ds d hR
  obtain ⟨⟩ := hR
  rename_i t hl
  refine sd_seq (sd_if (b := t.isEmpty || (t.head? == some 32 || t.getLast? == some 32)) (et_is (et_or (b := (t.head? == some 32 || t.getLast? == some 32)) (et_test (ed_eq (ed_lenTN (ed_var rfl)) ed_int)) (fun h => (et_or (et_test (ed_is (ed_eq (i := (bI t).headD 0) (ed_ixTN (l := bI t) (ed_var rfl) ed_int ?_) ed_int) ?_)) (fun h => (et_test (ed_is (ed_eq (i := (bI t).getLastD 0) (ed_ixTN (l := bI t) (ed_var rfl) (ed_neg ed_int) ?_) ed_int) ?_)))))) ?_) (fun h => ?_) (fun h => ?_))
  · cases t with
    | nil => simp [bI] at h
    | cons a r => exact atI_zero _ _
  · cases t with
    | nil => simp [bI] at h
    | cons a r =>
      show D.bl (decide (bi a = bi 32)) = D.bl (some a == some 32)
      by_cases q : a = 32
      · subst q; rfl
      · have q1 : ¬ bi a = bi 32 := fun z => q (bi_inj z)
        have q2 : (a == 32) = false := beq_eq_false_iff_ne.mpr q
        rw [decide_eq_false q1]
        show _ = D.bl (a == 32)
        rw [q2]
  · refine atI_lastI ?_
    rename_i h0
    intro z
    rw [z] at h0
    simp at h0
  · by_cases tn : t = []
    · subst tn
      rename_i h0
      simp [bI] at h0
    · obtain ⟨m, a, rfl⟩ : ∃ m x, t = m ++ [x] := ⟨t.dropLast, t.getLast tn, (List.dropLast_concat_getLast tn).symm⟩
      have e1 : (bI (m ++ [a])).getLastD 0 = bi a := by simp [bI]
      have e2 : (m ++ [a]).getLast? = some a := by simp
      rw [e1, e2]
      show D.bl (decide (bi a = bi 32)) = D.bl (some a == some 32)
      by_cases q : a = 32
      · subst q; rfl
      · have q1 : ¬ bi a = bi 32 := fun z => q (bi_inj z)
        have q2 : (a == 32) = false := beq_eq_false_iff_ne.mpr q
        rw [decide_eq_false q1]
        show _ = D.bl (a == 32)
        rw [q2]
  · cases t with
    | nil => rfl
    | cons a r =>
      have : decide (((bI (a :: r)).length : Int) = 0) = false := by simp [bI]; omega
      rw [this]
      rfl
  · refine sd_ret ed_bl ?_
    show D.bl _ = .bl _
    unfold Vanbkh.isPlain
    cases q1 : t.isEmpty <;> cases q2 : (t.head? == some 32) <;> cases q3 : (t.getLast? == some 32) <;> simp_all [bne]
  · refine sd_next ?_
    refine sd_seq (sd_if (b := t.any Vanbkh.needsEscape) (et_B (ed_is (ed_any (ed_is (en_lcL (f := fun c => D.int (bi c)) (l := t) (g := fun c => D.bl (Vanbkh.needsEscape c)) (dw_tupL (ed_is (ed_var rfl) (by rw [dI, bI, List.map_map]; rfl))) rfl rfl (fun x hx => (ed_is (ed_inI (neg := false) (i := bi x) (ed_var rfl)) (by rw [← esc_in x]; rfl))) (by omega)).ed (e := .lst ((t.map Vanbkh.needsEscape).map D.bl)) (by rw [List.map_map]; rfl))) (by rw [List.any_map]; rfl))) (fun h => ?_) (fun h2 => ?_))
    · refine sd_ret ed_bl ?_
      show D.bl _ = .bl _
      unfold Vanbkh.isPlain
      rw [h]
      simp
    · refine sd_next ?_
      refine sd_ret (ed_notV (ed_call (ea_cons (ed_var rfl) ea_nil) (.mk (b := true) (l := bI t) (by rw [bI_length]; omega)))) ?_
      show D.bl _ = .bl _
      unfold Vanbkh.isPlain
      rw [h2, parse_some]
      cases q1 : t.isEmpty <;> cases q2 : (t.head? == some 32) <;> cases q3 : (t.getLast? == some 32) <;> simp_all [bne]
inductive r_printed_text : List D → D → Prop
  | mk {t : List UInt8} (h : t.length ≤ 1000) : r_printed_text [.tup (dI (bI t))] (dB (Vanbkh.printText t))
abbrev N_printed_text : List Str := ["text", "printed", "byte"]
theorem sc_printed_text : FnScope N_printed_text ["text"] (defScope (top 71)) := ⟨rfl, rfl, rfl, by decide +kernel, rfl, by decide +kernel, by decide +kernel⟩
theorem ok_printed_text {Pr : Program} {w : World} {K : PySem.W.Frag} {mg : Str → Option Value} {base : Heap} (T : Tx K mg) : Ok Pr w K mg base 4 "printed_text" ["text"] (spR K r_printed_text) := by
  obtain ⟨fd, F⟩ := T.d_printed_text
  refine ⟨⟨fd, fn_pure (N := N_printed_text) F sc_printed_text (fun ds d h => by cases h; rfl) ?_, F.bindsN fun _ _ _ _ _ _ us hl => match us, hl with | [_], _ => rfl⟩, F.kp, T.g_printed_text⟩
  intro cdv A outer s H E hr
  refine ⟨_, (pss_cons (ps_if (pt_val (pe_callO (ok_is_plain T) (hr.mono (by decide)) rfl (pa_cons (pv 0) pa_nil)))
 (pss_one (ps_ret (pe_callTy (r := rListQ K) call_list_of (by rfl) T.f_list (by decide +kernel) (pa_cons (pv 0) pa_nil))))
 pss_nil)
 (pss_cons (ps_set (i := 1) sc_printed_text.nd rfl (Or.inl rfl) (pe_lst (pa_cons (pe_gint rfl T.i_QUOTE) pa_nil)))
 (pss_cons (ps_for PassesOwn.never rfl (pi_tup (pv 0)) (pg_name (i := 2) sc_printed_text.nd rfl (Or.inl rfl))
 (pss_cons (ps_if (pt_cmpR (op_inI T.esc) (pv 2) (pe_gref rfl T.g_ESCAPES) (by rfl))
 (pss_one (ps_expr (pe_bm PySem.F.plainAttrs_list PySem.F.slot_list_append PySem.F.type_list_append mt_append (pv 1) (pa_cons (pe_gint rfl T.i_BACKSLASH) pa_nil))))
 pss_nil)
 (pss_one (ps_expr (pe_bm PySem.F.plainAttrs_list PySem.F.slot_list_append PySem.F.type_list_append mt_append (pv 1) (pa_cons (pe_getI T.esc (pe_gref rfl T.g_ESCAPES) (pv 2) (pv 2) ⟨rfl, rfl, rfl, rfl⟩) pa_nil))))))
 (pss_cons (ps_expr (pe_bm PySem.F.plainAttrs_list PySem.F.slot_list_append PySem.F.type_list_append mt_append (pv 1) (pa_cons (pe_gint rfl T.i_QUOTE) pa_nil)))
 (pss_one (ps_ret (pv 1))))))), ?_⟩
  intro B ds d hR
  obtain ⟨⟩ := hR
  rename_i t hl
  refine sd_seq (sd_if (et_B (ed_call (ea_cons (ed_var rfl) ea_nil) (.mk hl))) (fun h => ?_) (fun h => ?_))
  · refine sd_ret (en_list (ed_var rfl) (.inr rfl)).ed ?_
    show D.lst _ = dB _
    unfold Vanbkh.printText
    rw [if_pos h]
    rfl
  refine sd_next ?_
  refine sd_seq (sd_asgN (en_lst1I ed_int) (hlt rfl) ?_)
  refine sd_seq (sd_forL (f := fun c => D.int (bi c)) (l := t) (dw_tupL (ed_is (ed_var rfl) (by rw [dI, bI, List.map_map]; rfl))) (fun pre δ => ∃ sl, δ = [.sh (.tup (dI (bI t))), .own (dI (34 :: bI (pre.flatMap Vanbkh.escape))), sl]) ?_ ?_ ?_)
  · exact ⟨_, rfl⟩
  · rintro pre x post δ e ⟨sl, rfl⟩
    have hp : pre.length ≤ 1000 := by
      have := congrArg List.length e
      simp at this
      omega
    have hf := flat_len pre
    refine gd_name (hlt rfl) ?_
    have ge := esc_get x
    have e0 : (34 : Int) :: bI ((pre ++ [x]).flatMap Vanbkh.escape) = (34 :: bI (pre.flatMap Vanbkh.escape)) ++ bI (Vanbkh.escape x) := by
      rw [List.flatMap_append, bI_append]
      simp [List.flatMap_cons, bI]
    have hb : (34 :: bI (pre.flatMap Vanbkh.escape)).length ≤ 2001 := by rw [List.length_cons, bI_length]; omega
    refine sd_cut [.sh (.tup (dI (bI t))), .own (dI ((34 :: bI (pre.flatMap Vanbkh.escape)) ++ (if Vanbkh.needsEscape x then [92] else []))), .sh (.int (bi x))] (sd_if (et_test (ed_is (ed_inI (neg := false) (i := bi x) (ed_var rfl)) (e := .bl (Vanbkh.needsEscape x)) (by rw [← esc_in x]; rfl))) (fun h => ?_) (fun h => ?_)) ?_
    · refine sd_appendI (l := 34 :: bI (pre.flatMap Vanbkh.escape)) rfl ed_int (by omega) ?_
      rw [h]
      rfl
    · refine sd_next ?_
      rw [h]
      simp
    · refine sd_appendI (l := (34 :: bI (pre.flatMap Vanbkh.escape)) ++ (if Vanbkh.needsEscape x then [92] else [])) rfl (ed_getI (ed_var rfl) (ed_var rfl)) (by
        rw [List.length_append]
        have : (if Vanbkh.needsEscape x then [(92 : Int)] else []).length ≤ 1 := by split <;> simp
        omega) ?_
      refine ⟨.sh (.int (bi x)), ?_⟩
      rw [e0, ge, List.append_assoc]
      rfl
  · rintro δ ⟨sl, rfl⟩
    have hf := flat_len t
    refine sd_seq (sd_appendI (l := 34 :: bI (t.flatMap Vanbkh.escape)) rfl ed_int (by rw [List.length_cons, bI_length]; omega) ?_)
    refine sd_frz 1 rfl (sd_ret (ed_var rfl) ?_)
    show D.lst _ = dB _
    unfold Vanbkh.printText
    rw [if_neg (by rw [h]; simp)]
    unfold dB
    simp [bI, dI]
    rfl
inductive r_printed_cell : List D → D → Prop
  | mk {c : Vanbkh.Cell} (h : Vanbkh.isValidCell c = true) : r_printed_cell [dC c] (dB (Vanbkh.printCell c))
abbrev N_printed_cell : List Str := ["cell"]
theorem sc_printed_cell : FnScope N_printed_cell ["cell"] (defScope (top 72)) := ⟨rfl, rfl, rfl, by decide +kernel, rfl, by decide +kernel, by decide +kernel⟩
theorem ok_printed_cell {Pr : Program} {w : World} {K : PySem.W.Frag} {mg : Str → Option Value} {base : Heap} (T : Tx K mg) : Ok Pr w K mg base 5 "printed_cell" ["cell"] (spR K r_printed_cell) := by
  obtain ⟨fd, F⟩ := T.d_printed_cell
  refine ⟨⟨fd, fn_pure (N := N_printed_cell) F sc_printed_cell (fun ds d h => by cases h; rfl) ?_, F.bindsN fun _ _ _ _ _ _ us hl => match us, hl with | [_], _ => rfl⟩, F.kp, T.g_printed_cell⟩
  intro cdv A outer s H E hr
  refine ⟨_, (pss_cons (ps_if (pt_val (pe_callO (ok_is_number_cell T) (hr.mono (by decide)) rfl (pa_cons (pv 0) pa_nil)))
 (pss_one (ps_ret (pe_callO (ok_decimal_notation T) (hr.mono (by decide)) rfl (pa_cons (pe_ix (r := rIxT K) ix_tup (pv 0) pe_int (fun _ _ => rfl)) pa_nil))))
 pss_nil)
 (pss_one (ps_ret (pe_callO (ok_printed_text T) (hr.mono (by decide)) rfl (pa_cons (pe_ix (r := rIxT K) ix_tup (pv 0) pe_int (fun _ _ => rfl)) pa_nil))))), ?_⟩
  intro B ds d hR
  obtain ⟨⟩ := hR
  rename_i c hv
  refine sd_seq (sd_if (et_B (ed_call (ea_cons (ed_var rfl) ea_nil) .mk)) (fun h => ?_) (fun h => ?_))
  · cases c with
    | text t => cases h
    | number z => exact sd_ret (ed_call (ea_cons (ed_ixT (d := .int z) (ed_var rfl) ed_int rfl) ea_nil) (.mk (Nat.lt_of_lt_of_le (valid_num hv) (by decide)))) rfl
  · cases c with
    | number z => cases h
    | text t => exact sd_next (sd_ret (ed_call (ea_cons (ed_ixT (d := .tup (dI (bI t))) (ed_var rfl) ed_int rfl) ea_nil) (.mk (Nat.le_trans (valid_text hv) (by decide)))) rfl)
end Rl
namespace Rl
open PySem PySem.Spec PyProof.Rows L2 Dg

inductive r_decode_text_cell : List D → D → Prop
  | mk {pre r : List Int} {n : Int} (h : (pre ++ n :: r).length ≤ 100000) : r_decode_text_cell [.lst (dI (pre ++ n :: r)), .int pre.length] (dO dC (mTxt n r))
abbrev N_decode_text_cell : List Str := ["numbers", "place", "length", "start", "end", "text"]
theorem sc_decode_text_cell : FnScope N_decode_text_cell ["numbers", "place"] (defScope (top 25)) := ⟨rfl, rfl, rfl, by decide +kernel, rfl, by decide +kernel, by decide +kernel⟩
theorem ok_decode_text_cell {Pr : Program} {w : World} {K : PySem.W.Frag} {mg : Str → Option Value} {base : Heap} (T : Tx K mg) : Ok Pr w K mg base 4 "decode_text_cell" ["numbers", "place"] (spR K r_decode_text_cell) := by
  obtain ⟨fd, F⟩ := T.d_decode_text_cell
  refine ⟨⟨fd, fn_pure (N := N_decode_text_cell) F sc_decode_text_cell (fun ds d h => by cases h; rfl) ?_, F.bindsN fun _ _ _ _ _ _ us hl => match us, hl with | [_, _], _ => rfl⟩, F.kp, T.g_decode_text_cell⟩
  intro cdv A outer s H E hr
  refine ⟨_, (pss_cons (ps_set (i := 2) sc_decode_text_cell.nd rfl (Or.inl rfl) (pe_ix (r := rIxL K) ix_list (pv 0) (pv 1) (fun _ _ => rfl)))
 (pss_cons (ps_if (pt_not (pt_val (pe_callO (ok_is_within T) (hr.mono (by decide)) rfl (pa_cons (pv 2) (pa_cons pe_int (pa_cons (pe_gint rfl T.i_MOST_BYTES_OF_TEXT) pa_nil))))))
 (pss_one (ps_ret pe_non))
 pss_nil)
 (pss_cons (ps_set (i := 3) sc_decode_text_cell.nd rfl (Or.inl rfl) (pe_op op_add (pv 1) pe_int))
 (pss_cons (ps_set (i := 4) sc_decode_text_cell.nd rfl (Or.inl rfl) (pe_op op_add (pv 3) (pv 2)))
 (pss_cons (ps_if (pt_cmpR op_gt (pv 4) (pe_callB (r := rLenQ K) call_len_seq (by rfl) T.f_len (by decide +kernel) (pa_cons (pv 0) pa_nil)) (nomark _))
 (pss_one (ps_ret pe_non))
 pss_nil)
 (pss_cons (ps_set (i := 5) sc_decode_text_cell.nd rfl (Or.inl rfl) (pe_slice (r := rSlL K) sl_list (pv 0) (po_some (pv 3)) (po_some (pv 4))))
 (pss_cons (ps_if (pt_not (pt_val (pe_callO (ok_is_text T) (hr.mono (by decide)) rfl (pa_cons (pv 5) pa_nil))))
 (pss_one (ps_ret pe_non))
 pss_nil)
 (pss_one (ps_ret (pe_tup (pa_cons (pe_gint rfl T.i_TEXT) (pa_cons (pe_callTy (r := rTupleQ K) call_tuple_of (by rfl) T.f_tuple (by decide +kernel) (pa_cons (pv 5) pa_nil)) pa_nil)))))))))))), ?_⟩
  intro B ds d hR
  obtain ⟨⟩ := hR
  rename_i pre r n hl
  simp only [List.length_append, List.length_cons] at hl
  refine sd_seq (sd_asg (ed_ixN (x := n) (ed_var rfl) (ed_var rfl) (atI_nat (by simp))) (hlt rfl) ?_)
  refine sd_seq (sd_if (b := !(decide (0 ≤ n) && decide (n ≤ 200))) (et_not (et_B (ed_call (ea_cons (ed_var rfl) (ea_cons ed_int (ea_cons ed_int ea_nil))) (.mk)))) (fun h => ?_) (fun h => ?_))
  · refine (sd_ret ed_non ?_)
    show D.non = dO dC (mTxt n r)
    unfold mTxt Vanbkh.isBetween
    simp only [Bool.not_eq_true'] at h
    rw [h]
    rfl
  refine sd_next ?_
  simp only [Bool.not_eq_false', Bool.and_eq_true, decide_eq_true_eq] at h
  have hb : Vanbkh.isBetween n 0 200 = true := by
    unfold Vanbkh.isBetween
    simp [h.1, h.2]
  refine sd_seq (sd_asg (ed_add (ed_var rfl) ed_int) (hlt rfl) ?_)
  refine sd_seq (sd_asg (ed_add (ed_var rfl) (ed_var rfl)) (hlt rfl) ?_)
  refine sd_seq (sd_if (et_test (ed_gt (ed_var rfl) (ed_lenN (ed_var rfl)))) (fun h2 => ?_) (fun h2 => ?_))
  · refine (sd_ret ed_non ?_)
    show D.non = dO dC (mTxt n r)
    simp only [decide_eq_true_eq, List.length_append, List.length_cons] at h2
    unfold mTxt
    rw [hb]
    have e : ((r.take n.toNat).length == n.toNat) = false := by
      rw [List.length_take, beq_eq_false_iff_ne]
      omega
    rw [e]
    rfl
  refine sd_next ?_
  simp only [decide_eq_false_iff_not, List.length_append, List.length_cons] at h2
  have e : ((r.take n.toNat).length == n.toNat) = true := by
    rw [List.length_take, beq_iff_eq]
    omega
  refine sd_seq (sd_asgN (en_is (en_sliceI (ed_var rfl) (eo_some (ed_var rfl)) (eo_some (ed_var rfl))) (es := dI (r.take n.toNat)) ?_) (hlt rfl) ?_)
  · rw [cutD_mid _ (by omega) (by omega)]
    have e1 : ((pre.length : Int) + 1).toNat = (pre ++ [n]).length := by simp
    have e2 : pre ++ n :: r = (pre ++ [n]) ++ r := by simp
    rw [e1, e2, List.drop_left]
    congr 2
    simp
    omega
  refine sd_frz 5 rfl ?_
  refine sd_seq (sd_if (et_not (et_B (ed_call (ea_cons (ed_var rfl) ea_nil) (.mk (by rw [List.length_take]; omega))))) (fun h3 => ?_) (fun h3 => ?_))
  · refine (sd_ret ed_non ?_)
    show D.non = dO dC (mTxt n r)
    unfold mTxt
    simp only [Bool.not_eq_true'] at h3
    rw [mIsText_eq] at h3
    rw [hb, e, h3]
    rfl
  refine sd_next ?_
  simp only [Bool.not_eq_false'] at h3
  refine (sd_ret (ed_tup (ea_cons ed_int (ea_cons (ed_tuple (ed_var rfl)) ea_nil)) (hle rfl)) ?_)
  show _ = dO dC (mTxt n r)
  unfold mTxt
  rw [hb, e, ← mIsText_eq, h3]
  show _ = D.tup [.int 1, .tup (dI (bI (Vanbkh.bytesOf (r.take n.toNat))))]
  rw [text_bytes h3]
inductive r_decode_cell : List D → D → Prop
  | mk {pre r : List Int} (h : (pre ++ r).length ≤ 100000) : r_decode_cell [.lst (dI (pre ++ r)), .int pre.length] (dO dC ((mStep r).map Prod.fst))
abbrev N_decode_cell : List Str := ["numbers", "place"]
theorem sc_decode_cell : FnScope N_decode_cell ["numbers", "place"] (defScope (top 26)) := ⟨rfl, rfl, rfl, by decide +kernel, rfl, by decide +kernel, by decide +kernel⟩
theorem ok_decode_cell {Pr : Program} {w : World} {K : PySem.W.Frag} {mg : Str → Option Value} {base : Heap} (T : Tx K mg) : Ok Pr w K mg base 5 "decode_cell" ["numbers", "place"] (spR K r_decode_cell) := by
  obtain ⟨fd, F⟩ := T.d_decode_cell
  refine ⟨⟨fd, fn_pure (N := N_decode_cell) F sc_decode_cell (fun ds d h => by cases h; rfl) ?_, F.bindsN fun _ _ _ _ _ _ us hl => match us, hl with | [_, _], _ => rfl⟩, F.kp, T.g_decode_cell⟩
  intro cdv A outer s H E hr
  refine ⟨_, (pss_cons (ps_if (pt_cmpR op_ge (pe_op op_add (pv 1) pe_int) (pe_callB (r := rLenQ K) call_len_seq (by rfl) T.f_len (by decide +kernel) (pa_cons (pv 0) pa_nil)) (nomark _))
 (pss_one (ps_ret pe_non))
 pss_nil)
 (pss_cons (ps_if (pt_cmpR op_eq (pe_ix (r := rIxL K) ix_list (pv 0) (pv 1) (fun _ _ => rfl)) (pe_gint rfl T.i_NUMBER) (nomark _))
 (pss_one (ps_ret (pe_tup (pa_cons (pe_gint rfl T.i_NUMBER) (pa_cons (pe_ix (r := rIxL K) ix_list (pv 0) (pe_op op_add (pv 1) pe_int) (fun _ _ => rfl)) pa_nil)))))
 pss_nil)
 (pss_cons (ps_if (pt_cmpR op_eq (pe_ix (r := rIxL K) ix_list (pv 0) (pv 1) (fun _ _ => rfl)) (pe_gint rfl T.i_TEXT) (nomark _))
 (pss_one (ps_ret (pe_callO (ok_decode_text_cell T) (hr.mono (by decide)) rfl (pa_cons (pv 0) (pa_cons (pe_op op_add (pv 1) pe_int) pa_nil)))))
 pss_nil)
 (pss_one (ps_ret pe_non))))), ?_⟩
  intro B ds d hR
  obtain ⟨⟩ := hR
  rename_i pre r hl
  simp only [List.length_append] at hl
  refine sd_seq (sd_if (et_test (ed_ge (ed_add (ed_var rfl) ed_int) (ed_lenN (ed_var rfl)))) (fun h => ?_) (fun h => ?_))
  · refine (sd_ret ed_non ?_)
    simp only [decide_eq_true_eq, List.length_append] at h
    show D.non = dO dC ((mStep r).map Prod.fst)
    match r with
    | [] => rfl
    | [a] => rfl
    | a :: b :: r' => simp at h; omega
  refine sd_next ?_
  simp only [decide_eq_false_iff_not, List.length_append] at h
  match r, h with
  | [], h => simp at h; omega
  | [a], h => simp at h
  | a :: b :: r', h =>
    refine sd_seq (sd_if (et_test (ed_eq (i := a) (ed_ixN (ed_var rfl) (ed_var rfl) (atI_nat (by simp))) ed_int)) (fun h2 => ?_) (fun h2 => ?_))
    · refine (sd_ret (ed_tup (ea_cons ed_int (ea_cons (ed_ixN (x := b) (ed_var rfl) (ed_add (ed_var rfl) ed_int) (atI_nat (j := pre.length + 1) (by rw [List.getElem?_append_right (by omega)]; simp))) ea_nil)) (hle rfl)) ?_)
      show D.tup _ = dO dC _
      have : mStep (a :: b :: r') = some (.number b, r') := by
        rw [mStep_two, if_pos (by simpa using h2)]
      rw [this]
      rfl
    refine sd_next ?_
    refine sd_seq (sd_if (et_test (ed_eq (i := a) (ed_ixN (ed_var rfl) (ed_var rfl) (atI_nat (by simp))) ed_int)) (fun h3 => ?_) (fun h3 => ?_))
    · have ea : a = 1 := by simpa using h3
      subst ea
      refine (sd_ret (ed_callQ (es := [.lst (dI ((pre ++ [1]) ++ b :: r')), .int (pre ++ [1]).length]) (ea_cons (ed_var rfl) (ea_cons (ed_add (ed_var rfl) ed_int) ea_nil)) ?_ (.mk ?_)) ?_)
      · simp
      · simp at hl ⊢
        omega
      · show dO dC _ = dO dC _
        have : mStep (1 :: b :: r') = (mTxt b r').map fun c => (c, r'.drop b.toNat) := by simp [mStep]
        rw [this]
        cases mTxt b r' <;> rfl
    refine sd_next ?_
    refine (sd_ret ed_non ?_)
    show D.non = dO dC _
    have : mStep (a :: b :: r') = none := by
      rw [mStep_two, if_neg (by simpa using h2), if_neg (by simpa using h3)]
    rw [this]
    rfl
inductive r_decode_cells : List D → D → Prop
  | mk {l : List Int} (h : l.length ≤ 100000) (hv : ∀ x ∈ l, Vanbkh.isValidNumber x = true) : r_decode_cells [.lst (dI l)] (dO dCs (Vanbkh.decodeCells l))
abbrev N_decode_cells : List Str := ["numbers", "cells", "place", "cell"]
theorem sc_decode_cells : FnScope N_decode_cells ["numbers"] (defScope (top 27)) := ⟨rfl, rfl, rfl, by decide +kernel, rfl, by decide +kernel, by decide +kernel⟩
theorem ok_decode_cells {Pr : Program} {w : World} {K : PySem.W.Frag} {mg : Str → Option Value} {base : Heap} (T : Tx K mg) : Ok Pr w K mg base 6 "decode_cells" ["numbers"] (spR K r_decode_cells) := by
  obtain ⟨fd, F⟩ := T.d_decode_cells
  refine ⟨⟨fd, fn_pure (N := N_decode_cells) F sc_decode_cells (fun ds d h => by cases h; rfl) ?_, F.bindsN fun _ _ _ _ _ _ us hl => match us, hl with | [_], _ => rfl⟩, F.kp, T.g_decode_cells⟩
  intro cdv A outer s H E hr
  refine ⟨_, (pss_cons (ps_set (i := 1) sc_decode_cells.nd rfl (Or.inl rfl) (pe_lst pa_nil))
 (pss_cons (ps_set (i := 2) sc_decode_cells.nd rfl (Or.inl rfl) pe_int)
 (pss_cons (ps_while PassesOwn.never (pt_cmpR op_lt (pv 2) (pe_callB (r := rLenQ K) call_len_seq (by rfl) T.f_len (by decide +kernel) (pa_cons (pv 0) pa_nil)) (nomark _))
 (pss_cons (ps_set (i := 3) sc_decode_cells.nd rfl (Or.inl rfl) (pe_callO (ok_decode_cell T) (hr.mono (by decide)) rfl (pa_cons (pv 0) (pa_cons (pv 2) pa_nil))))
 (pss_cons (ps_if (pt_cmp (pc_isN (pv 3)) rfl)
 (pss_one (ps_ret pe_non))
 pss_nil)
 (pss_cons (ps_expr (pe_bm PySem.F.plainAttrs_list PySem.F.slot_list_append PySem.F.type_list_append mt_append (pv 1) (pa_cons (pv 3) pa_nil)))
 (pss_one (ps_set (i := 2) sc_decode_cells.nd rfl (Or.inl rfl) (pe_op op_add (pv 2) (pe_callO (ok_encoded_length T) (hr.mono (by decide)) rfl (pa_cons (pv 3) pa_nil)))))))))
 (pss_one (ps_ret (pv 1)))))), ?_⟩
  intro B ds d hR
  obtain ⟨⟩ := hR
  rename_i l hl hv
  refine sd_seq (sd_asgN (en_lst ea_nil (hle rfl)) (hlt rfl) ?_)
  refine sd_seq (sd_asg ed_int (hlt rfl) ?_)
  refine sd_seq (sd_while (fun m δ => ∃ pre r cs sl, l = pre ++ r ∧ m = r.length ∧ cs.length ≤ pre.length ∧ δ = [.sh (.lst (dI l)), .own (cs.map dC), .sh (.int pre.length), sl] ∧ Vanbkh.decodeCells l = (Vanbkh.cellsFrom r.length r).map (cs ++ ·)) l.length ?_ ?_)
  · refine ⟨[], l, [], .un, rfl, rfl, by simp, rfl, ?_⟩
    show Vanbkh.cellsFrom l.length l = _
    cases Vanbkh.cellsFrom l.length l <;> simp
  rintro m δ ⟨pre, r, cs, sl, el, rfl, hc, rfl, hd⟩
  have hlen : l.length = pre.length + r.length := by rw [el]; simp
  refine ⟨_, (et_test (ed_lt (ed_var rfl) (ed_lenN (ed_var rfl)))), fun h => ?_, fun h => ?_⟩
  · have hr : r ≠ [] := by
      intro z
      rw [z] at hlen
      simp at h hlen
      omega
    have hvr : ∀ x ∈ r, Vanbkh.isValidNumber x = true := fun x hx => hv x (by rw [el]; simp [hx])
    refine sd_seq (sd_asg (ed_callQ (es := [.lst (dI (pre ++ r)), .int pre.length]) (ea_cons (ed_var rfl) (ea_cons (ed_var rfl) ea_nil)) (by rw [el]) (.mk (by rw [← el]; exact hl))) (hlt rfl) ?_)
    have ee : Vanbkh.decodeCells l = (match mStep r with | none => none | some (c, r') => (Vanbkh.cellsFrom (r.length - 1) r').map (c :: ·)).map (cs ++ ·) := by
      rw [hd]
      congr 1
      have e1 : r.length = (r.length - 1) + 1 := by
        have := List.length_pos_iff.mpr hr
        omega
      rw [e1]
      exact cellsFrom_step hr hvr
    refine sd_seq (sd_if (et_B (ed_isN (ed_var rfl))) (fun h2 => ?_) (fun h2 => ?_))
    · refine (sd_ret ed_non ?_)
      show D.non = dO dCs _
      rw [isNon_dO isNon_dC] at h2
      cases q : mStep r with
      | some cr => rw [q] at h2; cases h2
      | none =>
        rw [ee, q]
        rfl
    refine sd_next ?_
    rw [isNon_dO isNon_dC] at h2
    cases q : mStep r with
    | none => rw [q] at h2; cases h2
    | some cr =>
      obtain ⟨c, r'⟩ := cr
      obtain ⟨p, e3, e4, e5⟩ := mStep_enc q
      refine sd_seq (sd_appendM (f := dC) (l := cs) (x := c) rfl (ed_var (d := dC c) rfl) (by omega) ?_)
      refine (sd_asg (ed_add (ed_var rfl) (ed_call (ea_cons (ed_var (d := dC c) rfl) ea_nil) (.mk))) (hlt rfl) ?_)
      refine ⟨r'.length, mStep_lt q, pre ++ p, r', cs ++ [c], .sh (dC c), by rw [el, e3]; simp, rfl, by simp; omega, ?_, ?_⟩
      · have e6 : (pre.length : Int) + encLen c = ((pre ++ p).length : Nat) := by
          rw [List.length_append]
          omega
        show [Sl.sh (.lst (dI l)), .own ((cs ++ [c]).map dC), .sh (.int (pre.length + encLen c)), .sh (dC c)] = _
        rw [e6]
      · rw [ee, q]
        have hv' : ∀ x ∈ r', Vanbkh.isValidNumber x = true := fun x hx => hvr x (by rw [e3]; simp [hx])
        have := mStep_lt q
        show ((Vanbkh.cellsFrom (r.length - 1) r').map (c :: ·)).map (cs ++ ·) = _
        rw [cells_fuel r'.length r' (Nat.le_refl _) hv' (r.length - 1) (by omega)]
        cases Vanbkh.cellsFrom r'.length r' <;> simp
  · refine sd_frz 1 rfl (sd_ret (ed_var rfl) ?_)
    have hr : r = [] := by
      have : ¬ (pre.length : Int) < l.length := by simpa using h
      exact List.length_eq_zero_iff.mp (by omega)
    subst hr
    rw [hd]
    show D.lst _ = dO dCs _
    simp [Vanbkh.cellsFrom]
    rfl
end Rl
namespace Rl
open PySem PySem.Spec PyProof.Rows L2 Dg

theorem dec_digs {l : List Int} (h : mIsDec l = true) : l ≠ [] ∧ ∀ x ∈ mDigs l, 48 ≤ x ∧ x ≤ 57 := by
  unfold mIsDec at h
  simp only [Bool.and_eq_true, Bool.not_eq_true', List.all_eq_true, decide_eq_true_eq] at h
  refine ⟨fun z => ?_, h.1.2⟩
  subst z
  exact absurd h.1.1 (by decide)
inductive r_read_number : List D → D → Prop
  | mk {l : List Int} (h : l.length ≤ 100000) (h1 : mIsDec l = true) : r_read_number [.lst (dI l)] (dO dC (mReadNum l))
abbrev N_read_number : List Str := ["printed", "digits", "value", "digit"]
theorem sc_read_number : FnScope N_read_number ["printed"] (defScope (top 73)) := ⟨rfl, rfl, rfl, by decide +kernel, rfl, by decide +kernel, by decide +kernel⟩
theorem ok_read_number {Pr : Program} {w : World} {K : PySem.W.Frag} {mg : Str → Option Value} {base : Heap} (T : Tx K mg) : Ok Pr w K mg base 2 "read_number" ["printed"] (spR K r_read_number) := by
  obtain ⟨fd, F⟩ := T.d_read_number
  refine ⟨⟨fd, fn_pure (N := N_read_number) F sc_read_number (fun ds d h => by cases h; rfl) ?_, F.bindsN fun _ _ _ _ _ _ us hl => match us, hl with | [_], _ => rfl⟩, F.kp, T.g_read_number⟩
  intro cdv A outer s H E hr
  refine ⟨_, (pss_cons (ps_set (i := 1) sc_read_number.nd rfl (Or.inl rfl) (pe_callO (ok_digits_of T) (hr.mono (by decide)) rfl (pa_cons (pv 0) pa_nil)))
 (pss_cons (ps_if (pt_cmpR op_gt (pe_callB (r := rLenQ K) call_len_seq (by rfl) T.f_len (by decide +kernel) (pa_cons (pv 1) pa_nil)) (pe_gint rfl T.i_MOST_DIGITS) (nomark _))
 (pss_one (ps_ret pe_non))
 pss_nil)
 (pss_cons (ps_set (i := 2) sc_read_number.nd rfl (Or.inl rfl) pe_int)
 (pss_cons (ps_for PassesOwn.never rfl (pi_seq (pi_list (pv 1)) (pi_tup (pv 1))) (pg_name (i := 3) sc_read_number.nd rfl (Or.inl rfl))
 (pss_one (ps_set (i := 2) sc_read_number.nd rfl (Or.inl rfl) (pe_op op_sub (pe_op op_add (pe_op op_mulW pe_int (pv 2)) (pv 3)) (pe_gint rfl T.i_ZERO)))))
 (pss_cons (ps_if (pt_cmpR op_eq (pe_ix (r := rIxL K) ix_list (pv 0) pe_int (fun _ _ => rfl)) (pe_gint rfl T.i_MINUS) (nomark _))
 (pss_one (ps_ret (pe_tup (pa_cons (pe_gint rfl T.i_NUMBER) (pa_cons (pe_un un_neg (pv 2)) pa_nil)))))
 pss_nil)
 (pss_one (ps_ret (pe_tup (pa_cons (pe_gint rfl T.i_NUMBER) (pa_cons (pv 2) pa_nil)))))))))), ?_⟩
  intro B ds d hR
  obtain ⟨⟩ := hR
  rename_i l hl hd
  obtain ⟨hne, hdg⟩ := dec_digs hd
  refine sd_seq (sd_asg (ed_call (ea_cons (ed_var rfl) ea_nil) (.mk (b := false) (l := l))) (hlt rfl) ?_)
  refine sd_seq (sd_if (et_test (ed_gt (ed_lenSN (b := false) (l := mDigs l) (ed_var rfl)) ed_int)) (fun h => ?_) (fun h => ?_))
  · refine (sd_ret ed_non ?_)
    show D.non = dO dC (mReadNum l)
    unfold mReadNum
    rw [if_pos (by simpa using h)]
    rfl
  refine sd_next ?_
  have hlen : ¬ (30 : Int) < (mDigs l).length := by simpa using h
  refine sd_seq (sd_asg ed_int (hlt rfl) ?_)
  refine sd_seq (sd_forL (f := D.int) (l := mDigs l) (dw_seqL (ed_var rfl) (.inl rfl)) (fun pre δ => ∃ sl, δ = [.sh (.lst (dI l)), .sh (.lst (dI (mDigs l))), .sh (.int (mVal pre)), sl]) ?_ ?_ ?_)
  · exact ⟨_, rfl⟩
  · rintro pre x post δ e ⟨sl, rfl⟩
    refine gd_name (hlt rfl) ?_
    refine (sd_asg (ed_sub (ed_add (ed_mulW ed_int (ed_var rfl) ?_) (ed_var rfl)) ed_int) (hlt rfl) ?_)
    · have hb := mVal_bd pre (fun y hy => hdg y (by rw [e]; simp [hy]))
      have hp : pre.length ≤ 30 := by
        have := congrArg List.length e
        simp at this
        omega
      have h10 : (10 : Nat) ^ pre.length ≤ 10 ^ 30 := Nat.pow_le_pow_right (by decide) hp
      have h11 : (10 : Int) ^ pre.length = ((10 ^ pre.length : Nat) : Int) := by simp
      have hs := log_small (n := (mVal pre).natAbs) (by
        have h12 : (10 : Nat) ^ 30 < 10 ^ 40 := by decide
        omega)
      show Nat.log2 10 + (mVal pre).natAbs.log2 < 1000000
      have : Nat.log2 10 = 3 := by decide
      omega
    · exact ⟨.sh (.int x), by rw [mVal_snoc]; rfl⟩
  rintro δ ⟨sl, rfl⟩
  obtain ⟨a, r, rfl⟩ : ∃ a r, l = a :: r := List.exists_cons_of_ne_nil hne
  refine sd_seq (sd_if (et_test (ed_eq (i := a) (ed_ixN (ed_var rfl) ed_int (atI_zero _ _)) ed_int)) (fun h => ?_) (fun h => ?_))
  · refine (sd_ret (ed_tup (ea_cons ed_int (ea_cons (ed_neg (ed_var rfl)) ea_nil)) (hle rfl)) ?_)
    have ha : a = 45 := by simpa using h
    show _ = dO dC (mReadNum (a :: r))
    unfold mReadNum
    rw [if_neg hlen, if_pos (by rw [ha]; rfl)]
    rfl
  refine sd_next ?_
  refine (sd_ret (ed_tup (ea_cons ed_int (ea_cons (ed_var rfl) ea_nil)) (hle rfl)) ?_)
  have ha : ¬ a = 45 := by simpa using h
  show _ = dO dC (mReadNum (a :: r))
  unfold mReadNum
  rw [if_neg hlen, if_neg (by intro z; exact ha (Option.some.inj z))]
  rfl
theorem mUnesc_ne {c : Int} (h : ¬ c = 92) (r : List Int) : mUnesc (c :: r) = (mUnesc r).map (c :: ·) := by
  cases r with
  | nil =>
    show (if c = 92 then none else some [c]) = some [c]
    rw [if_neg h]
  | cons e r =>
    show (if c = 92 then _ else _) = _
    rw [if_neg h]
theorem mUnesc_esc (e : Int) (r : List Int) : mUnesc (92 :: e :: r) = (match dESCAPED.lookup e with | none => none | some b => (mUnesc r).map (b :: ·)) := rfl
inductive r_unescape : List D → D → Prop
  | mk {l : List Int} (h : l.length ≤ 100000) : r_unescape [.lst (dI l)] (dO (fun t => .lst (dI t)) (mUnesc l))
abbrev N_unescape : List Str := ["escaped", "text", "place", "byte"]
theorem sc_unescape : FnScope N_unescape ["escaped"] (defScope (top 74)) := ⟨rfl, rfl, rfl, by decide +kernel, rfl, by decide +kernel, by decide +kernel⟩
theorem ok_unescape {Pr : Program} {w : World} {K : PySem.W.Frag} {mg : Str → Option Value} {base : Heap} (T : Tx K mg) : Ok Pr w K mg base 1 "unescape" ["escaped"] (spR K r_unescape) := by
  obtain ⟨fd, F⟩ := T.d_unescape
  refine ⟨⟨fd, fn_pure (N := N_unescape) F sc_unescape (fun ds d h => by cases h; rfl) ?_, F.bindsN fun _ _ _ _ _ _ us hl => match us, hl with | [_], _ => rfl⟩, F.kp, T.g_unescape⟩
  intro cdv A outer s H E hr
  refine ⟨_, (pss_cons (ps_set (i := 1) sc_unescape.nd rfl (Or.inl rfl) (pe_lst pa_nil))
 (pss_cons (ps_set (i := 2) sc_unescape.nd rfl (Or.inl rfl) pe_int)
 (pss_cons (ps_while PassesOwn.never (pt_cmpR op_lt (pv 2) (pe_callB (r := rLenQ K) call_len_seq (by rfl) T.f_len (by decide +kernel) (pa_cons (pv 0) pa_nil)) (nomark _))
 (pss_cons (ps_set (i := 3) sc_unescape.nd rfl (Or.inl rfl) (pe_ix (r := rIxL K) ix_list (pv 0) (pv 2) (fun _ _ => rfl)))
 (pss_cons (ps_if (pt_cmpR op_eq (pv 3) (pe_gint rfl T.i_BACKSLASH) (nomark _))
 (pss_cons (ps_set (i := 2) sc_unescape.nd rfl (Or.inl rfl) (pe_op op_add (pv 2) pe_int))
 (pss_cons (ps_if (PW.pt (pw_or (pt_cmpR op_eq (pv 2) (pe_callB (r := rLenQ K) call_len_seq (by rfl) T.f_len (by decide +kernel) (pa_cons (pv 0) pa_nil)) (nomark _)) (pw_or1 (pt_cmpR (op_notInI T.esd) (pe_ix (r := rIxL K) ix_list (pv 0) (pv 2) (fun _ _ => rfl)) (pe_gref rfl T.g_ESCAPED) (by rfl)))))
 (pss_one (ps_ret pe_non))
 pss_nil)
 (pss_one (ps_set (i := 3) sc_unescape.nd rfl (Or.inl rfl) (pe_ix (ix_I T.esd) (pe_gref rfl T.g_ESCAPED) (pe_ix (r := rIxL K) ix_list (pv 0) (pv 2) (fun _ _ => rfl)) (fun _ _ => rfl))))))
 pss_nil)
 (pss_cons (ps_expr (pe_bm PySem.F.plainAttrs_list PySem.F.slot_list_append PySem.F.type_list_append mt_append (pv 1) (pa_cons (pv 3) pa_nil)))
 (pss_one (ps_set (i := 2) sc_unescape.nd rfl (Or.inl rfl) (pe_op op_add (pv 2) pe_int)))))))
 (pss_one (ps_ret (pv 1)))))), ?_⟩
  intro B ds d hR
  obtain ⟨⟩ := hR
  rename_i l hl
  refine sd_seq (sd_asgN (en_lst ea_nil (hle rfl)) (hlt rfl) ?_)
  refine sd_seq (sd_asg ed_int (hlt rfl) ?_)
  refine sd_seq (sd_while (fun m δ => ∃ pre r t sl, l = pre ++ r ∧ m = r.length ∧ t.length ≤ pre.length ∧ δ = [.sh (.lst (dI l)), .own (dI t), .sh (.int pre.length), sl] ∧ mUnesc l = (mUnesc r).map (t ++ ·)) l.length ?_ ?_)
  · exact ⟨[], l, [], .un, rfl, rfl, by simp, rfl, by cases mUnesc l <;> simp⟩
  rintro m δ ⟨pre, r, t, sl, el, rfl, ht, rfl, hu⟩
  have hlen : l.length = pre.length + r.length := by rw [el]; simp
  refine ⟨_, (et_test (ed_lt (ed_var rfl) (ed_lenN (ed_var rfl)))), fun h => ?_, fun h => ?_⟩
  · match r, el, hlen, hu with
    | [], el, hlen, hu =>
      simp at h hlen
      omega
    | c :: r, el, hlen, hu =>
      refine sd_seq (sd_asg (ed_ixN (x := c) (ed_var rfl) (ed_var rfl) (atI_nat (by rw [el]; simp))) (hlt rfl) ?_)
      by_cases hc : c = 92
      · subst hc
        match r, el, hlen, hu with
        | [], el, hlen, hu =>
          refine sd_seq (sd_if (et_test (ed_eq (ed_var rfl) ed_int)) (fun _ => ?_) (fun z => absurd z (by decide)))
          refine sd_seq (sd_asg (ed_add (ed_var rfl) ed_int) (hlt rfl) ?_)
          have e1 : decide ((pre.length : Int) + 1 = l.length) = true := by
            rw [hlen]
            simp
          refine sd_seq (sd_if (et_or (b := false) (et_test (ed_eq (ed_var rfl) (ed_lenN (ed_var rfl)))) (fun h => absurd (e1.symm.trans h) (by decide))) (fun h => ?_) (fun h => absurd ((congrArg (· || false) e1).symm.trans h) (by decide)))
          refine (sd_ret ed_non ?_)
          show D.non = dO _ (mUnesc l)
          rw [hu]
          rfl
        | e :: r, el, hlen, hu =>
          have ia : atI l ((pre.length : Int) + 1) = some e := atI_nat (j := pre.length + 1) (by rw [el, List.getElem?_append_right (by omega)]; simp)
          have e0 : decide ((pre.length : Int) + 1 = l.length) = false := by
            rw [hlen]
            simp
            omega
          cases q : dESCAPED.lookup e with
          | none =>
            refine sd_seq (sd_if (et_test (ed_eq (ed_var rfl) ed_int)) (fun _ => ?_) (fun z => absurd z (by decide)))
            refine sd_seq (sd_asg (ed_add (ed_var rfl) ed_int) (hlt rfl) ?_)
            refine sd_seq (sd_if (et_or (et_test (ed_eq (ed_var rfl) (ed_lenN (ed_var rfl)))) (fun h => (et_test (ed_inI (neg := true) (i := e) (ed_ixN (ed_var rfl) (ed_var rfl) ia))))) (fun h => ?_) (fun h => ?_))
            · refine (sd_ret ed_non ?_)
              show D.non = dO _ (mUnesc l)
              rw [hu, mUnesc_esc, q]
              rfl
            · rw [q, e0] at h
              cases h
          | some b =>
            refine sd_cut [.sh (.lst (dI l)), .own (dI t), .sh (.int (pre.length + 1)), .sh (.int b)] (sd_if (et_test (ed_eq (ed_var rfl) ed_int)) (fun _ => ?_) (fun z => absurd z (by decide))) ?_
            · refine sd_seq (sd_asg (ed_add (ed_var rfl) ed_int) (hlt rfl) ?_)
              refine sd_seq (sd_if (et_or (et_test (ed_eq (ed_var rfl) (ed_lenN (ed_var rfl)))) (fun h => (et_test (ed_inI (neg := true) (i := e) (ed_ixN (ed_var rfl) (ed_var rfl) ia))))) (fun h => ?_) (fun h => ?_))
              · rw [q, e0] at h
                cases h
              · refine sd_next ?_
                exact sd_asg (ed_ixI (ed_ixN (ed_var rfl) (ed_var rfl) ia) q) (hlt rfl) rfl
            refine sd_seq (sd_appendI (l := t) rfl (ed_var rfl) (by omega) ?_)
            refine (sd_asg (ed_add (ed_var rfl) ed_int) (hlt rfl) ?_)
            refine ⟨r.length, by simp; omega, pre ++ [92, e], r, t ++ [b], .sh (.int b), by rw [el]; simp, rfl, by simp; omega, ?_, ?_⟩
            · have e6 : (pre.length : Int) + 1 + 1 = ((pre ++ [92, e]).length : Nat) := by rw [List.length_append]; rfl
              rw [← e6]
              rfl
            · rw [hu, mUnesc_esc, q]
              show ((mUnesc r).map (b :: ·)).map (t ++ ·) = _
              cases mUnesc r <;> simp
      · refine sd_seq (sd_if (et_test (ed_eq (ed_var rfl) ed_int)) (fun z => absurd z (by simpa using hc)) (fun _ => ?_))
        refine sd_next ?_
        refine sd_seq (sd_appendI (l := t) rfl (ed_var rfl) (by omega) ?_)
        refine (sd_asg (ed_add (ed_var rfl) ed_int) (hlt rfl) ?_)
        refine ⟨r.length, by simp, pre ++ [c], r, t ++ [c], .sh (.int c), by rw [el]; simp, rfl, by simp; omega, ?_, ?_⟩
        · have e6 : (pre.length : Int) + 1 = ((pre ++ [c]).length : Nat) := by simp
          rw [← e6]
          rfl
        · rw [hu, mUnesc_ne hc]
          cases mUnesc r <;> simp
  · refine sd_frz 1 rfl (sd_ret (ed_var rfl) ?_)
    have hr : r = [] := by
      have : ¬ (pre.length : Int) < l.length := by simpa using h
      exact List.length_eq_zero_iff.mp (by omega)
    subst hr
    rw [hu]
    show D.lst _ = D.lst _
    simp

inductive r_read_text : List D → D → Prop
  | mk {l : List Int} (h : l.length ≤ 100000) : r_read_text [.lst (dI l)] (dO dC (mReadTxt l))
abbrev N_read_text : List Str := ["printed", "text"]
theorem sc_read_text : FnScope N_read_text ["printed"] (defScope (top 75)) := ⟨rfl, rfl, rfl, by decide +kernel, rfl, by decide +kernel, by decide +kernel⟩
theorem ok_read_text {Pr : Program} {w : World} {K : PySem.W.Frag} {mg : Str → Option Value} {base : Heap} (T : Tx K mg) : Ok Pr w K mg base 4 "read_text" ["printed"] (spR K r_read_text) := by
  obtain ⟨fd, F⟩ := T.d_read_text
  refine ⟨⟨fd, fn_pure (N := N_read_text) F sc_read_text (fun ds d h => by cases h; rfl) ?_, F.bindsN fun _ _ _ _ _ _ us hl => match us, hl with | [_], _ => rfl⟩, F.kp, T.g_read_text⟩
  intro cdv A outer s H E hr
  refine ⟨_, (pss_cons (ps_set (i := 1) sc_read_text.nd rfl (Or.inl rfl) (pv 0))
 (pss_cons (ps_if (PW.pt (pw_and (pt_cmpR op_gt (pe_callB (r := rLenQ K) call_len_seq (by rfl) T.f_len (by decide +kernel) (pa_cons (pv 0) pa_nil)) pe_int (nomark _)) (pw_and1 (pt_cmpR op_eq (pe_ix (r := rIxL K) ix_list (pv 0) pe_int (fun _ _ => rfl)) (pe_gint rfl T.i_QUOTE) (nomark _)))))
 (pss_one (ps_set (i := 1) sc_read_text.nd rfl (Or.inl rfl) (pe_callO (ok_unescape T) (hr.mono (by decide)) rfl (pa_cons (pe_slice (r := rSlL K) sl_list (pv 0) (po_some pe_int) (po_some (pe_un un_neg pe_int))) pa_nil))))
 pss_nil)
 (pss_cons (ps_if (PW.pt (pw_or (pt_cmp (pc_isN (pv 1)) rfl) (pw_or1 (pt_not (pt_val (pe_callO (ok_is_text T) (hr.mono (by decide)) rfl (pa_cons (pv 1) pa_nil)))))))
 (pss_one (ps_ret pe_non))
 pss_nil)
 (pss_one (ps_ret (pe_tup (pa_cons (pe_gint rfl T.i_TEXT) (pa_cons (pe_callTy (r := rTupleQ K) call_tuple_of (by rfl) T.f_tuple (by decide +kernel) (pa_cons (pv 1) pa_nil)) pa_nil)))))))), ?_⟩
  intro B ds d hR
  obtain ⟨⟩ := hR
  rename_i l hl
  refine sd_seq (sd_asg (ed_var rfl) (hlt rfl) ?_)
  refine sd_cut [.sh (.lst (dI l)), .sh (dO (fun t => .lst (dI t)) (mInner l))] (sd_if (b := decide (l.head? = some 34)) (et_is (et_and (et_test (ed_gt (ed_lenN (ed_var rfl)) ed_int)) (fun h => (et_test (ed_eq (i := l.headD 0) (ed_ixN (ed_var rfl) ed_int ?_) ed_int)))) ?_) (fun h => ?_) (fun h => ?_)) ?_
  · cases l with
    | nil => simp at h
    | cons a r => exact atI_zero _ _
  · cases l with
    | nil => rfl
    | cons a r =>
      have : decide (((a :: r).length : Int) > 0) = true := by simp
      rw [this]
      show decide (a = 34) = decide (some a = some 34)
      simp
  · refine (sd_asg (ed_callQ (es := [.lst (dI ((l.drop 1).take (l.length - 1 - 1)))]) (ea_cons (en_is (en_sliceI (ed_var rfl) (eo_some ed_int) (eo_some (ed_neg ed_int))) (by exact congrArg dI (cutD_init l (a := 1)))).ed ea_nil) rfl (.mk (by rw [List.length_take, List.length_drop]; omega))) (hlt rfl) ?_)
    unfold mInner
    rw [if_pos (by simpa using h)]
    rfl
  · refine sd_next ?_
    unfold mInner
    rw [if_neg (by simpa using h)]
    rfl
  have hr : mReadTxt l = match mInner l with | none => none | some t => if mIsText t then some (.text (Vanbkh.bytesOf t)) else none := rfl
  cases q : mInner l with
  | none =>
    refine sd_seq (sd_if (et_or (b := false) (et_B (ed_isN (ed_var rfl))) (fun h => absurd h (by decide))) (fun h => ?_) (fun h => absurd h (by decide)))
    refine (sd_ret ed_non ?_)
    show D.non = dO dC (mReadTxt l)
    rw [hr, q]
    rfl
  | some t =>
    have hb : t.length ≤ 100000 := by
      unfold mInner at q
      split at q
      · have := mUnesc_len _ _ _ (Nat.le_refl _) q
        rw [List.length_take, List.length_drop] at this
        omega
      · cases q; exact hl
    refine sd_seq (sd_if (et_or (et_B (ed_isN (ed_var rfl))) (fun h => (et_not (et_B (ed_call (ea_cons (ed_var rfl) ea_nil) (.mk (l := t) hb)))))) (fun h => ?_) (fun h => ?_))
    · refine (sd_ret ed_non ?_)
      have h2 : mIsText t = false := by
        cases z : mIsText t
        · rfl
        · rw [z] at h
          cases h
      show D.non = dO dC (mReadTxt l)
      rw [hr, q]
      show D.non = dO dC (if mIsText t = true then _ else _)
      rw [if_neg (by rw [h2]; simp)]
      rfl
    refine sd_next ?_
    have h2 : mIsText t = true := by
      cases z : mIsText t
      · rw [z] at h
        cases h
      · rfl
    refine (sd_ret (ed_tup (ea_cons ed_int (ea_cons (ed_tuple (ds := dI t) (ed_var rfl)) ea_nil)) (hle rfl)) ?_)
    show _ = dO dC (mReadTxt l)
    rw [hr, q]
    show _ = dO dC (if mIsText t = true then _ else _)
    rw [if_pos h2]
    show _ = D.tup [.int 1, .tup (dI (bI (Vanbkh.bytesOf t)))]
    rw [text_bytes h2]
inductive r_read_cell : List D → D → Prop
  | mk {l : List Int} (h : l.length ≤ 100000) : r_read_cell [.lst (dI l)] (dO dC (mReadCell l))
abbrev N_read_cell : List Str := ["printed"]
theorem sc_read_cell : FnScope N_read_cell ["printed"] (defScope (top 76)) := ⟨rfl, rfl, rfl, by decide +kernel, rfl, by decide +kernel, by decide +kernel⟩
theorem ok_read_cell {Pr : Program} {w : World} {K : PySem.W.Frag} {mg : Str → Option Value} {base : Heap} (T : Tx K mg) : Ok Pr w K mg base 5 "read_cell" ["printed"] (spR K r_read_cell) := by
  obtain ⟨fd, F⟩ := T.d_read_cell
  refine ⟨⟨fd, fn_pure (N := N_read_cell) F sc_read_cell (fun ds d h => by cases h; rfl) ?_, F.bindsN fun _ _ _ _ _ _ us hl => match us, hl with | [_], _ => rfl⟩, F.kp, T.g_read_cell⟩
  intro cdv A outer s H E hr
  refine ⟨_, (pss_cons (ps_if (pt_val (pe_callO (ok_is_decimal_notation T) (hr.mono (by decide)) rfl (pa_cons (pv 0) pa_nil)))
 (pss_one (ps_ret (pe_callO (ok_read_number T) (hr.mono (by decide)) rfl (pa_cons (pv 0) pa_nil))))
 pss_nil)
 (pss_one (ps_ret (pe_callO (ok_read_text T) (hr.mono (by decide)) rfl (pa_cons (pv 0) pa_nil))))), ?_⟩
  intro B ds d hR
  obtain ⟨⟩ := hR
  rename_i l hl
  refine sd_seq (sd_if (et_B (ed_call (ea_cons (ed_var rfl) ea_nil) (.mk (b := false) (l := l) hl))) (fun h => ?_) (fun h => ?_))
  · refine (sd_ret (ed_call (ea_cons (ed_var rfl) ea_nil) (.mk hl h)) ?_)
    unfold mReadCell
    rw [if_pos h]
  refine sd_next ?_
  refine (sd_ret (ed_call (ea_cons (ed_var rfl) ea_nil) (.mk hl)) ?_)
  unfold mReadCell
  rw [if_neg (by rw [h]; simp)]
theorem dropWhile_sp {pre r : List Int} (h : ∀ x ∈ pre, isSp x = true) : (pre ++ r).dropWhile isSp = r.dropWhile isSp := by
  induction pre with
  | nil => rfl
  | cons a p ih =>
    show List.dropWhile isSp (a :: (p ++ r)) = _
    rw [List.dropWhile_cons, if_pos (h a (by simp))]
    exact ih (fun x hx => h x (by simp [hx]))
inductive r_strip_spaces : List D → D → Prop
  | mk {l : List Int} (h : l.length ≤ 100000) : r_strip_spaces [.lst (dI l)] (.lst (dI (mStrip l)))
abbrev N_strip_spaces : List Str := ["field", "start", "end"]
theorem sc_strip_spaces : FnScope N_strip_spaces ["field"] (defScope (top 94)) := ⟨rfl, rfl, rfl, by decide +kernel, rfl, by decide +kernel, by decide +kernel⟩
theorem ok_strip_spaces {Pr : Program} {w : World} {K : PySem.W.Frag} {mg : Str → Option Value} {base : Heap} (T : Tx K mg) : Ok Pr w K mg base 1 "strip_spaces" ["field"] (spR K r_strip_spaces) := by
  obtain ⟨fd, F⟩ := T.d_strip_spaces
  refine ⟨⟨fd, fn_pure (N := N_strip_spaces) F sc_strip_spaces (fun ds d h => by cases h; rfl) ?_, F.bindsN fun _ _ _ _ _ _ us hl => match us, hl with | [_], _ => rfl⟩, F.kp, T.g_strip_spaces⟩
  intro cdv A outer s H E hr
  refine ⟨_, (pss_cons (ps_set (i := 1) sc_strip_spaces.nd rfl (Or.inl rfl) pe_int)
 (pss_cons (ps_while PassesOwn.never (PW.pt (pw_and (pt_cmpR op_lt (pv 1) (pe_callB (r := rLenQ K) call_len_seq (by rfl) T.f_len (by decide +kernel) (pa_cons (pv 0) pa_nil)) (nomark _)) (pw_and1 (pt_cmpR op_eq (pe_ix (r := rIxL K) ix_list (pv 0) (pv 1) (fun _ _ => rfl)) (pe_gint rfl T.i_SPACE) (nomark _)))))
 (pss_one (ps_set (i := 1) sc_strip_spaces.nd rfl (Or.inl rfl) (pe_op op_add (pv 1) pe_int))))
 (pss_cons (ps_set (i := 2) sc_strip_spaces.nd rfl (Or.inl rfl) (pe_callB (r := rLenQ K) call_len_seq (by rfl) T.f_len (by decide +kernel) (pa_cons (pv 0) pa_nil)))
 (pss_cons (ps_while PassesOwn.never (PW.pt (pw_and (pt_cmpR op_gt (pv 2) (pv 1) (nomark _)) (pw_and1 (pt_cmpR op_eq (pe_ix (r := rIxL K) ix_list (pv 0) (pe_op op_sub (pv 2) pe_int) (fun _ _ => rfl)) (pe_gint rfl T.i_SPACE) (nomark _)))))
 (pss_one (ps_set (i := 2) sc_strip_spaces.nd rfl (Or.inl rfl) (pe_op op_sub (pv 2) pe_int))))
 (pss_one (ps_ret (pe_slice (r := rSlL K) sl_list (pv 0) (po_some (pv 1)) (po_some (pv 2))))))))), ?_⟩
  intro B ds d hR
  obtain ⟨⟩ := hR
  rename_i l hl
  refine sd_seq (sd_asg ed_int (hlt rfl) ?_)
  refine sd_seq (sd_while (fun m δ => ∃ pre r, l = pre ++ r ∧ m = r.length ∧ (∀ x ∈ pre, isSp x = true) ∧ δ = [.sh (.lst (dI l)), .sh (.int pre.length), .un]) l.length ?_ ?_)
  · exact ⟨[], l, rfl, rfl, by simp, rfl⟩
  rintro m δ ⟨pre, r, el, rfl, hp, rfl⟩
  have hlen : l.length = pre.length + r.length := by rw [el]; simp
  refine ⟨decide (r.head? = some 32), (et_is (et_and (et_test (ed_lt (ed_var rfl) (ed_lenN (ed_var rfl)))) (fun h => (et_test (ed_eq (i := r.headD 0) (ed_ixN (ed_var rfl) (ed_var rfl) ?_) ed_int)))) ?_), fun h => ?_, fun h => ?_⟩
  · cases r with
    | nil => simp at h hlen; omega
    | cons a r => exact atI_nat (by rw [el]; simp)
  · cases r with
    | nil =>
      have : decide ((pre.length : Int) < l.length) = false := by simp at hlen ⊢; omega
      rw [this]
      rfl
    | cons a r =>
      have : decide ((pre.length : Int) < l.length) = true := by simp at hlen ⊢; omega
      rw [this]
      show decide (a = 32) = decide (some a = some 32)
      simp
  · cases r with
    | nil => simp at h
    | cons a r =>
      have ha : a = 32 := by simpa using h
      refine (sd_asg (ed_add (ed_var rfl) ed_int) (hlt rfl) ?_)
      refine ⟨r.length, by simp, pre ++ [a], r, by rw [el]; simp, rfl, fun x hx => ?_, ?_⟩
      · simp at hx
        rcases hx with hx | hx
        · exact hp x hx
        · rw [hx, ha]; rfl
      · have e6 : (pre.length : Int) + 1 = ((pre ++ [a]).length : Nat) := by simp
        rw [← e6]
        rfl
  have hd : l.dropWhile isSp = r := by
    rw [el, dropWhile_sp hp]
    cases r with
    | nil => rfl
    | cons a r =>
      have ha : ¬ a = 32 := by simpa using h
      rw [List.dropWhile_cons, if_neg (by simpa [isSp] using ha)]
  refine sd_seq (sd_asg (ed_lenN (ed_var rfl)) (hlt rfl) ?_)
  refine sd_seq (sd_while (fun m δ => ∃ r1 r2, r = r1 ++ r2 ∧ m = r1.length ∧ (∀ x ∈ r2, isSp x = true) ∧ δ = [.sh (.lst (dI l)), .sh (.int pre.length), .sh (.int ((pre.length + r1.length : Nat) : Int))]) r.length ?_ ?_)
  · refine ⟨r, [], by simp, rfl, by simp, ?_⟩
    rw [← hlen]
    rfl
  rintro m δ ⟨r1, r2, er, rfl, hq, rfl⟩
  refine ⟨decide (r1.getLast? = some 32), (et_is (et_and (et_test (ed_gt (ed_var rfl) (ed_var rfl))) (fun h => (et_test (ed_eq (i := r1.getLastD 0) (ed_ixN (ed_var rfl) (ed_sub (ed_var rfl) ed_int) ?_) ed_int)))) ?_), fun h => ?_, fun h => ?_⟩
  · by_cases z : r1 = []
    · subst z
      simp at h
    · obtain ⟨m, a, rfl⟩ : ∃ m x, r1 = m ++ [x] := ⟨r1.dropLast, r1.getLast z, (List.dropLast_concat_getLast z).symm⟩
      refine atI_lt (by simp; omega) ?_
      have e6 : (((pre.length + (m ++ [a]).length : Nat) : Int) - 1).toNat = pre.length + m.length := by simp; omega
      rw [e6, el, er, List.getElem?_append_right (by omega)]
      simp
  · by_cases z : r1 = []
    · subst z
      simp
    · obtain ⟨m, a, rfl⟩ : ∃ m x, r1 = m ++ [x] := ⟨r1.dropLast, r1.getLast z, (List.dropLast_concat_getLast z).symm⟩
      have : decide (((pre.length + (m ++ [a]).length : Nat) : Int) > pre.length) = true := by simp; omega
      rw [this]
      simp
  · by_cases z : r1 = []
    · subst z
      simp at h
    · obtain ⟨m, a, rfl⟩ : ∃ m x, r1 = m ++ [x] := ⟨r1.dropLast, r1.getLast z, (List.dropLast_concat_getLast z).symm⟩
      have ha : a = 32 := by simpa using h
      refine (sd_asg (ed_sub (ed_var rfl) ed_int) (hlt rfl) ?_)
      refine ⟨m.length, by simp, m, a :: r2, by rw [er]; simp, rfl, fun x hx => ?_, ?_⟩
      · simp at hx
        rcases hx with hx | hx
        · rw [hx, ha]; rfl
        · exact hq x hx
      · have e6 : ((pre.length + (m ++ [a]).length : Nat) : Int) - 1 = ((pre.length + m.length : Nat) : Int) := by simp; omega
        rw [← e6]
        rfl
  refine (sd_ret (en_sliceI (ed_var rfl) (eo_some (ed_var rfl)) (eo_some (ed_var rfl))).ed ?_)
  rw [cutD_mid _ (by omega) (by omega)]
  show D.lst (dI _) = D.lst (dI _)
  congr 2
  have e7 : ((pre.length + r1.length : Nat) : Int).toNat - ((pre.length : Nat) : Int).toNat = r1.length := by omega
  rw [e7]
  unfold mStrip
  rw [hd, er, List.reverse_append, dropWhile_sp (fun x hx => hq x (by simpa using hx)), el, er, Int.toNat_natCast, List.drop_left, List.take_left]
  by_cases z : r1 = []
  · subst z; rfl
  · obtain ⟨m, a, rfl⟩ : ∃ m x, r1 = m ++ [x] := ⟨r1.dropLast, r1.getLast z, (List.dropLast_concat_getLast z).symm⟩
    have ha : ¬ a = 32 := by simpa using h
    rw [List.reverse_append]
    show m ++ [a] = (List.dropWhile isSp (a :: m.reverse)).reverse
    rw [List.dropWhile_cons, if_neg (by simpa [isSp] using ha)]
    simp
theorem mStrip_len (l : List Int) : (mStrip l).length ≤ l.length := by
  have h : ∀ m : List Int, (m.dropWhile isSp).length ≤ m.length := fun m => (List.dropWhile_suffix isSp).sublist.length_le
  have h1 := h l
  have h2 := h (l.dropWhile isSp).reverse
  unfold mStrip
  rw [List.length_reverse]
  rw [List.length_reverse] at h2
  omega
theorem all_some {α : Type} {l : List (Option α)} {f : α → D} (h : l.any Option.isNone = false) : l.map (dO f) = (l.filterMap id).map f := by
  induction l with
  | nil => rfl
  | cons a r ih =>
    cases a with
    | none => cases h
    | some a =>
      have := ih h
      show f a :: r.map (dO f) = f a :: (r.filterMap id).map f
      rw [this]
inductive r_read_row : List D → D → Prop
  | mk {l : List Int} (h : l.length ≤ 100000) : r_read_row [.lst (dI l)] (dO dCs (mReadRow l))
abbrev N_read_row : List Str := ["line", "fields", "cells", "field", "cell"]
theorem sc_read_row : FnScope N_read_row ["line"] (defScope (top 95)) := ⟨rfl, rfl, rfl, by decide +kernel, rfl, by decide +kernel, by decide +kernel⟩
theorem ok_read_row {Pr : Program} {w : World} {K : PySem.W.Frag} {mg : Str → Option Value} {base : Heap} (T : Tx K mg) : Ok Pr w K mg base 6 "read_row" ["line"] (spR K r_read_row) := by
  obtain ⟨fd, F⟩ := T.d_read_row
  refine ⟨⟨fd, fn_pure (N := N_read_row) F sc_read_row (fun ds d h => by cases h; rfl) ?_, F.bindsN fun _ _ _ _ _ _ us hl => match us, hl with | [_], _ => rfl⟩, F.kp, T.g_read_row⟩
  intro cdv A outer s H E hr
  refine ⟨_, (pss_cons (ps_set (i := 1) sc_read_row.nd rfl (Or.inl rfl) (pe_slice (r := rSlL K) sl_list (pe_callO (ok_split_at T) (hr.mono (by decide)) rfl (pa_cons (pv 0) (pa_cons (pe_gint rfl T.i_BAR) pa_nil))) (po_some pe_int) (po_some (pe_un un_neg pe_int))))
 (pss_cons (ps_if (pt_not (pt_val (pe_callO (ok_is_within T) (hr.mono (by decide)) rfl (pa_cons (pe_callB (r := rLenQ K) call_len_seq (by rfl) T.f_len (by decide +kernel) (pa_cons (pv 1) pa_nil)) (pa_cons pe_int (pa_cons (pe_gint rfl T.i_MOST_COLUMNS) pa_nil))))))
 (pss_one (ps_ret pe_non))
 pss_nil)
 (pss_cons (ps_setLc (i := 2) (own := [("field", 3)]) (g := gName 3) (tt := tYes) rfl sc_read_row.nd rfl rfl (sw_true rfl rfl rfl (by decide +kernel)) (pi_list (pv 1)) (blkOk_by (own := [("field", 3)]) (N := N_read_row) (sc := (defScope (top 95))) (by decide +kernel)) (fun _ _ _ _ _ => pg_name (i := 3) sc_read_row.nd rfl (Or.inl rfl)) (fun _ _ _ _ _ => pts_nil) (fun _ _ _ _ _ => (pe_callO (ok_read_cell T) (hr.mono (by decide)) rfl (pa_cons (pe_callO (ok_strip_spaces T) (hr.mono (by decide)) rfl (pa_cons (pv 3) pa_nil)) pa_nil))))
 (pss_cons (ps_if (pt_val (pe_callB (r := rAny K) (cr_any rfl) (by rfl) T.f_any (by decide +kernel) (pa_cons (pe_lc (own := [("cell", 4)]) (g := gName 4) (tt := tYes) rfl sc_read_row.nd (pi_list (pv 2)) (blkOk_by (own := [("cell", 4)]) (N := N_read_row) (sc := (defScope (top 95))) (by decide +kernel)) (fun _ _ _ _ _ => pg_name (i := 4) sc_read_row.nd rfl (Or.inl rfl)) (fun _ _ _ _ _ => pts_nil) (fun _ _ _ _ _ => (pe_cmp (pc_isN (pv 4)) rfl))) pa_nil)))
 (pss_one (ps_ret pe_non))
 pss_nil)
 (pss_one (ps_ret (pv 2))))))), ?_⟩
  intro B ds d hR
  obtain ⟨⟩ := hR
  rename_i l hl
  have hs := mSplit_len 124 l
  have hf : (mFields l).length ≤ l.length + 1 := by
    unfold mFields
    rw [List.length_take, List.length_drop]
    omega
  have hfl : ∀ p ∈ mFields l, p.length ≤ 100000 := fun p hp => Nat.le_trans (hs.2 p (List.mem_of_mem_drop (List.mem_of_mem_take hp))) hl
  refine sd_seq (sd_asgN (en_is (es := (mFields l).map fun p => .lst (dI p)) (en_slice (ed_call (ea_cons (ed_var rfl) (ea_cons ed_int ea_nil)) (.mk (b := false) (l := l) hl)) (eo_some ed_int) (eo_some (ed_neg ed_int))) ?_) (hlt rfl) ?_)
  · rw [cutD_map]
    exact congrArg _ (cutD_init (mSplit 124 l) (a := 1))
  refine sd_seq (sd_if (et_not (et_B (ed_call (ea_cons (ed_lenO rfl) (ea_cons ed_int (ea_cons ed_int ea_nil))) (.mk)))) (fun h => ?_) (fun h => ?_))
  · refine (sd_ret ed_non ?_)
    show D.non = dO dCs (mReadRow l)
    unfold mReadRow
    rw [List.length_map] at h
    have hx : (decide ((1 : Int) ≤ (mFields l).length) && decide (((mFields l).length : Int) ≤ 8)) = false := by simpa only [Bool.not_eq_true'] using h
    rw [if_neg (by rw [hx]; decide)]
    rfl
  refine sd_next ?_
  rw [List.length_map] at h
  have hb : (decide ((1 : Int) ≤ (mFields l).length) && decide (((mFields l).length : Int) ≤ 8)) = true := by simpa using h
  refine sd_frz 1 rfl ?_
  refine sd_seq (sd_asgN (en_is (es := ((mFields l).map mCellOf).map (dO dC)) (en_lcL (f := fun p => .lst (dI p)) (l := mFields l) (g := fun p => dO dC (mCellOf p)) (dw_listL (ed_var rfl)) rfl rfl (fun x hx => (ed_call (ea_cons (ed_call (ea_cons (ed_var rfl) ea_nil) (.mk (hfl x hx))) ea_nil) (.mk (Nat.le_trans (mStrip_len x) (hfl x hx))))) (by omega)) (by rw [List.map_map]; rfl)) (hlt rfl) ?_)
  refine sd_frz 2 rfl ?_
  refine sd_seq (sd_if (et_B (ed_is (ed_any (ed_is (en_lcL (f := dO dC) (l := (mFields l).map mCellOf) (g := fun o => .bl o.isNone) (dw_listL (ed_var rfl)) rfl rfl (fun x hx => (ed_is (ed_isN (ed_var rfl)) (by rw [isNon_dO isNon_dC]))) (by rw [List.length_map]; omega)).ed (e := .lst ((((mFields l).map mCellOf).map Option.isNone).map D.bl)) (by simp only [List.map_map]; rfl))) (e := .bl (((mFields l).map mCellOf).any Option.isNone)) (by rw [List.any_map]; rfl))) (fun h => ?_) (fun h => ?_))
  · refine (sd_ret ed_non ?_)
    show D.non = dO dCs (mReadRow l)
    unfold mReadRow mAll
    rw [if_pos hb, if_pos h]
    rfl
  refine sd_next ?_
  refine (sd_ret (ed_var rfl) ?_)
  show D.lst _ = dO dCs (mReadRow l)
  unfold mReadRow mAll
  rw [if_pos hb, if_neg (by rw [h]; simp), all_some h]
  rfl
inductive r_read_rows : List D → D → Prop
  | mk {ls : List (List Int)} (h : ls.length ≤ 100000) (h2 : ∀ l ∈ ls, l.length ≤ 100000) : r_read_rows [.lst (ls.map fun p => .lst (dI p))] (dO dRows (mReadRows ls))
abbrev N_read_rows : List Str := ["lines", "rows", "line", "row"]
theorem sc_read_rows : FnScope N_read_rows ["lines"] (defScope (top 96)) := ⟨rfl, rfl, rfl, by decide +kernel, rfl, by decide +kernel, by decide +kernel⟩
theorem ok_read_rows {Pr : Program} {w : World} {K : PySem.W.Frag} {mg : Str → Option Value} {base : Heap} (T : Tx K mg) : Ok Pr w K mg base 7 "read_rows" ["lines"] (spR K r_read_rows) := by
  obtain ⟨fd, F⟩ := T.d_read_rows
  refine ⟨⟨fd, fn_pure (N := N_read_rows) F sc_read_rows (fun ds d h => by cases h; rfl) ?_, F.bindsN fun _ _ _ _ _ _ us hl => match us, hl with | [_], _ => rfl⟩, F.kp, T.g_read_rows⟩
  intro cdv A outer s H E hr
  refine ⟨_, (pss_cons (ps_if (pt_not (pt_val (pe_callO (ok_is_within T) (hr.mono (by decide)) rfl (pa_cons (pe_callB (r := rLenQ K) call_len_seq (by rfl) T.f_len (by decide +kernel) (pa_cons (pv 0) pa_nil)) (pa_cons (pe_op op_add (pe_gint rfl T.i_RULERS) pe_int) (pa_cons (pe_op op_add (pe_gint rfl T.i_RULERS) (pe_gint rfl T.i_MOST_ROWS_WITH_HEADERS)) pa_nil))))))
 (pss_one (ps_ret pe_non))
 pss_nil)
 (pss_cons (ps_set (i := 1) sc_read_rows.nd rfl (Or.inr rfl) (pe_lc (own := [("line", 2)]) (g := gName 2) (tt := tYes) rfl sc_read_rows.nd (pi_list (pe_op op_cat (pe_lst (pa_cons (pe_ix (r := rIxL K) ix_list (pv 0) pe_int (fun _ _ => rfl)) pa_nil)) (pe_slice (r := rSlL K) sl_list (pv 0) (po_some pe_int) (po_some (pe_un un_neg pe_int))))) (blkOk_by (own := [("line", 2)]) (N := N_read_rows) (sc := (defScope (top 96))) (by decide +kernel)) (fun _ _ _ _ _ => pg_name (i := 2) sc_read_rows.nd rfl (Or.inl rfl)) (fun _ _ _ _ _ => pts_nil) (fun _ _ _ _ _ => (pe_callO (ok_read_row T) (hr.mono (by decide)) rfl (pa_cons (pv 2) pa_nil)))))
 (pss_cons (ps_if (pt_val (pe_callB (r := rAny K) (cr_any rfl) (by rfl) T.f_any (by decide +kernel) (pa_cons (pe_lc (own := [("row", 3)]) (g := gName 3) (tt := tYes) rfl sc_read_rows.nd (pi_list (pv 1)) (blkOk_by (own := [("row", 3)]) (N := N_read_rows) (sc := (defScope (top 96))) (by decide +kernel)) (fun _ _ _ _ _ => pg_name (i := 3) sc_read_rows.nd rfl (Or.inl rfl)) (fun _ _ _ _ _ => pts_nil) (fun _ _ _ _ _ => (pe_cmp (pc_isN (pv 3)) rfl))) pa_nil)))
 (pss_one (ps_ret pe_non))
 pss_nil)
 (pss_cons (ps_if (pt_val (pe_callB (r := rAny K) (cr_any rfl) (by rfl) T.f_any (by decide +kernel) (pa_cons (pe_lc (own := [("row", 3)]) (g := gName 3) (tt := tYes) rfl sc_read_rows.nd (pi_list (pv 1)) (blkOk_by (own := [("row", 3)]) (N := N_read_rows) (sc := (defScope (top 96))) (by decide +kernel)) (fun _ _ _ _ _ => pg_name (i := 3) sc_read_rows.nd rfl (Or.inl rfl)) (fun _ _ _ _ _ => pts_nil) (fun _ _ _ _ _ => (pe_cmpR op_ne (pe_callB (r := rLenQ K) call_len_seq (by rfl) T.f_len (by decide +kernel) (pa_cons (pv 3) pa_nil)) (pe_callB (r := rLenQ K) call_len_seq (by rfl) T.f_len (by decide +kernel) (pa_cons (pe_ix (r := rIxL K) ix_list (pv 1) pe_int (fun _ _ => rfl)) pa_nil)) (nomark _)))) pa_nil)))
 (pss_one (ps_ret pe_non))
 pss_nil)
 (pss_one (ps_ret (pv 1))))))), ?_⟩
  intro B ds d hR
  obtain ⟨⟩ := hR
  rename_i ls hl hls
  refine sd_seq (sd_if (et_not (et_B (ed_call (ea_cons (ed_lenM (ed_var rfl)) (ea_cons (ed_add ed_int ed_int) (ea_cons (ed_add ed_int ed_int) ea_nil))) (.mk)))) (fun h => ?_) (fun h => ?_))
  · refine (sd_ret ed_non ?_)
    show D.non = dO dRows (mReadRows ls)
    unfold mReadRows
    have hx : (decide ((3 : Int) + 1 ≤ ls.length) && decide ((ls.length : Int) ≤ 3 + 25)) = false := by simpa only [Bool.not_eq_true'] using h
    have hy : (decide ((4 : Int) ≤ ls.length) && decide ((ls.length : Int) ≤ 28)) = false := hx
    rw [if_neg (by rw [hy]; decide)]
    rfl
  refine sd_next ?_
  have hb : (decide ((4 : Int) ≤ ls.length) && decide ((ls.length : Int) ≤ 28)) = true := by simpa using h
  have hbd := hb
  simp only [Bool.and_eq_true, decide_eq_true_eq] at hbd
  have hr1 : ls[1]? = some (ls.getD 1 []) := by
    rw [List.getD_eq_getElem?_getD, List.getElem?_eq_getElem (by omega)]
    rfl
  have hrl : (mRowLines ls).length ≤ 100000 := by
    unfold mRowLines
    rw [List.length_cons, List.length_take, List.length_drop]
    omega
  have hrm : ∀ l ∈ mRowLines ls, l.length ≤ 100000 := fun l hm => by
    unfold mRowLines at hm
    rcases List.mem_cons.mp hm with rfl | hm
    · exact hls _ (List.mem_of_getElem? hr1)
    · exact hls _ (List.mem_of_mem_drop (List.mem_of_mem_take hm))
  refine sd_seq (sd_asgN (en_is (es := ((mRowLines ls).map mReadRow).map (dO dCs)) (en_lcL (f := fun p => .lst (dI p)) (l := mRowLines ls) (g := fun p => dO dCs (mReadRow p)) (dw_listL (ed_is (en_cat (en_lst (ea_cons (ed_ix (ed_var rfl) ed_int (atI_map (fun p => D.lst (dI p)) (atI_nat (j := 1) hr1))) ea_nil) (hle rfl)).ed (en_slice (ed_var rfl) (eo_some ed_int) (eo_some (ed_neg ed_int))).ed ?_).ed ?_)) rfl rfl (fun x hx => (ed_call (ea_cons (ed_var rfl) ea_nil) (.mk (hrm x hx)))) (by omega)) (by rw [List.map_map]; rfl)) (hlt rfl) ?_)
  · rw [cutD_map, List.length_map]
    have := congrArg List.length (cutD_init ls (a := 3))
    rw [List.length_take, List.length_drop] at this
    have t2 : (cutD ls (some (3 : Int)) (some (-1))).length = min (ls.length - 1 - 3) (ls.length - 3) := this
    show 1 + (cutD ls (some (3 : Int)) (some (-1))).length ≤ 16000000
    rw [t2]
    omega
  · rw [cutD_map]
    show D.lst ([_] ++ (cutD ls (some ((3 : Nat) : Int)) (some (-1))).map _) = _
    rw [cutD_init]
    rfl
  refine sd_frz 1 rfl ?_
  refine sd_seq (sd_if (et_B (ed_is (ed_any (ed_is (en_lcL (f := dO dCs) (l := (mRowLines ls).map mReadRow) (g := fun o => .bl o.isNone) (dw_listL (ed_var rfl)) rfl rfl (fun x hx => (ed_is (ed_isN (ed_var rfl)) (by rw [isNon_dO (fun _ => rfl)]))) (by rw [List.length_map]; omega)).ed (e := .lst ((((mRowLines ls).map mReadRow).map Option.isNone).map D.bl)) (by simp only [List.map_map]; rfl))) (e := .bl (((mRowLines ls).map mReadRow).any Option.isNone)) (by rw [List.any_map]; rfl))) (fun h => ?_) (fun h => ?_))
  · refine (sd_ret ed_non ?_)
    show D.non = dO dRows (mReadRows ls)
    unfold mReadRows
    rw [if_pos hb]
    unfold mAll
    rw [if_pos h]
    rfl
  refine sd_next ?_
  have ha : mAll ((mRowLines ls).map mReadRow) = some (((mRowLines ls).map mReadRow).filterMap id) := by
    unfold mAll
    rw [if_neg (by rw [h]; simp)]
  have hlen : (((mRowLines ls).map mReadRow).filterMap id).length = (mRowLines ls).length := by
    have := congrArg List.length (all_some (f := dCs) h)
    simpa using this.symm
  rw [all_some h]
  generalize ((mRowLines ls).map mReadRow).filterMap id = rows at ha hlen
  have hne : rows ≠ [] := by
    intro z
    rw [z] at hlen
    cases hlen
  obtain ⟨r0, rr, rfl⟩ := List.exists_cons_of_ne_nil hne
  refine sd_seq (sd_if (et_B (ed_is (ed_any (ed_is (en_lcL (f := dCs) (l := r0 :: rr) (g := fun r => .bl (!decide (r.length = r0.length))) (dw_listL (ed_var rfl)) rfl rfl (fun x hx => (ed_is (ed_ne (ed_lenM (l := x) (f := dC) (ed_var rfl)) (ed_lenM (l := r0) (f := dC) (ed_ix (ed_var rfl) ed_int (atI_zero _ _)))) ?_)) (by omega)).ed (e := .lst (((r0 :: rr).map (fun r => !decide (r.length = r0.length))).map D.bl)) (by simp only [List.map_map]; rfl))) (e := .bl ((r0 :: rr).any fun r => !decide (r.length = r0.length))) (by rw [List.any_map]; rfl))) (fun h => ?_) (fun h => ?_))
  · show D.bl _ = D.bl _
    congr 1
    by_cases z : x.length = r0.length
    · rw [z]; simp
    · have : ¬ (x.length : Int) = r0.length := by omega
      simp [z, this]
  · refine (sd_ret ed_non ?_)
    show D.non = dO dRows (mReadRows ls)
    unfold mReadRows
    rw [if_pos hb, ha]
    show D.non = dO dRows (if (r0 :: rr).any (fun r => !decide (r.length = r0.length)) = true then none else some (r0 :: rr))
    rw [if_pos h]
    rfl
  refine sd_next ?_
  refine (sd_ret (ed_var rfl) ?_)
  show D.lst _ = dO dRows (mReadRows ls)
  unfold mReadRows
  rw [if_pos hb, ha]
  show _ = dO dRows (if (r0 :: rr).any (fun r => !decide (r.length = r0.length)) = true then none else some (r0 :: rr))
  rw [if_neg (by rw [h]; simp)]
  rfl
end Rl
namespace Rl
open PySem PySem.Spec PyProof.Rows L2 Dg

inductive r_visible_count : List D → D → Prop
  | mk {t : Vanbkh.Table} {w : Nat} (h : 20 ≤ w) (h2 : w ≤ 120) : r_visible_count [dT t, .int w] (.int (Vanbkh.visibleColumns w t.headers.length : Nat))
abbrev N_visible_count : List Str := ["table", "width"]
theorem sc_visible_count : FnScope N_visible_count ["table", "width"] (defScope (top 79)) := ⟨rfl, rfl, rfl, by decide +kernel, rfl, by decide +kernel, by decide +kernel⟩
theorem ok_visible_count {Pr : Program} {w : World} {K : PySem.W.Frag} {mg : Str → Option Value} {base : Heap} (T : Tx K mg) : Ok Pr w K mg base 1 "visible_count" ["table", "width"] (spR K r_visible_count) := by
  obtain ⟨fd, F⟩ := T.d_visible_count
  refine ⟨⟨fd, fn_pure (N := N_visible_count) F sc_visible_count (fun ds d h => by cases h; rfl) ?_, F.bindsN fun _ _ _ _ _ _ us hl => match us, hl with | [_, _], _ => rfl⟩, F.kp, T.g_visible_count⟩
  intro cdv A outer s H E hr
  refine ⟨_, (pss_one (ps_ret (pe_callB (r := rMin2Q) (call_min2 rfl) (by rfl) T.f_min (by decide +kernel) (pa_cons (pe_callB (r := rLenQ K) call_len_seq (by rfl) T.f_len (by decide +kernel) (pa_cons (pe_fldK (K := K) (pv 0) rfl rfl) pa_nil)) (pa_cons (pe_op op_fdivW (pe_op op_sub (pv 1) pe_int) (pe_gint rfl T.i_LEAST_ROOM_OF_COLUMN)) pa_nil))))), ?_⟩
  intro B ds d hR
  obtain ⟨⟩ := hR
  rename_i t w h1 h2
  refine (sd_ret (ed_min2 (ed_lenM (l := t.headers.map Vanbkh.Cell.text) (f := dC) (ed_fld (ed_var rfl) T.k_Table T.n_Table_headers rfl)) (ed_fdivW (ed_sub (ed_var rfl) ed_int) ed_int ⟨by decide, by decide⟩)) ?_)
  show D.int _ = D.int _
  unfold Vanbkh.visibleColumns
  rw [List.length_map]
  congr 1
  have : ((w : Int) - 1) / 6 = (((w - 1) / 6 : Nat) : Int) := by omega
  rw [this]
  omega
inductive r_printed_row : List D → D → Prop
  | mk {r : List Vanbkh.Cell} {k : Nat} (h : r.length ≤ 100) (hv : ∀ c ∈ r, Vanbkh.isValidCell c = true) : r_printed_row [dCs r, .int k] (dBs (prRow k r))
abbrev N_printed_row : List Str := ["row", "count", "cell"]
theorem sc_printed_row : FnScope N_printed_row ["row", "count"] (defScope (top 80)) := ⟨rfl, rfl, rfl, by decide +kernel, rfl, by decide +kernel, by decide +kernel⟩
theorem ok_printed_row {Pr : Program} {w : World} {K : PySem.W.Frag} {mg : Str → Option Value} {base : Heap} (T : Tx K mg) : Ok Pr w K mg base 6 "printed_row" ["row", "count"] (spR K r_printed_row) := by
  obtain ⟨fd, F⟩ := T.d_printed_row
  refine ⟨⟨fd, fn_pure (N := N_printed_row) F sc_printed_row (fun ds d h => by cases h; rfl) ?_, F.bindsN fun _ _ _ _ _ _ us hl => match us, hl with | [_, _], _ => rfl⟩, F.kp, T.g_printed_row⟩
  intro cdv A outer s H E hr
  refine ⟨_, (pss_one (ps_ret (pe_lc (own := [("cell", 2)]) (g := gName 2) (tt := tYes) rfl sc_printed_row.nd (pi_list (pe_slice (r := rSlL K) sl_list (pv 0) po_none (po_some (pv 1)))) (blkOk_by (own := [("cell", 2)]) (N := N_printed_row) (sc := (defScope (top 80))) (by decide +kernel)) (fun _ _ _ _ _ => pg_name (i := 2) sc_printed_row.nd rfl (Or.inl rfl)) (fun _ _ _ _ _ => pts_nil) (fun _ _ _ _ _ => (pe_callO (ok_printed_cell T) (hr.mono (by decide)) rfl (pa_cons (pv 2) pa_nil)))))), ?_⟩
  intro B ds d hR
  obtain ⟨⟩ := hR
  rename_i r k hl hv
  refine (sd_ret (en_is (es := (prRow k r).map dB) (en_lcL (f := dC) (l := r.take k) (g := fun c => dB (Vanbkh.printCell c)) (dw_listL (ed_is (en_slice (ed_var rfl) eo_none (eo_some (ed_var rfl))).ed (by rw [cutD_map, cutD_to _ (by omega)]; rfl))) rfl rfl (fun x hx => (ed_call (ea_cons (ed_var rfl) ea_nil) (.mk (hv x (List.mem_of_mem_take hx))))) (by rw [List.length_take]; omega)) (by unfold prRow; rw [List.map_map]; rfl)).ed rfl)
inductive r_printed_rows : List D → D → Prop
  | mk {t : Vanbkh.Table} {k : Nat} (h : VT t) : r_printed_rows [dT t, .int k] (.lst ((mPrinted k t).map dBs))
abbrev N_printed_rows : List Str := ["table", "count", "row"]
theorem sc_printed_rows : FnScope N_printed_rows ["table", "count"] (defScope (top 81)) := ⟨rfl, rfl, rfl, by decide +kernel, rfl, by decide +kernel, by decide +kernel⟩
theorem ok_printed_rows {Pr : Program} {w : World} {K : PySem.W.Frag} {mg : Str → Option Value} {base : Heap} (T : Tx K mg) : Ok Pr w K mg base 7 "printed_rows" ["table", "count"] (spR K r_printed_rows) := by
  obtain ⟨fd, F⟩ := T.d_printed_rows
  refine ⟨⟨fd, fn_pure (N := N_printed_rows) F sc_printed_rows (fun ds d h => by cases h; rfl) ?_, F.bindsN fun _ _ _ _ _ _ us hl => match us, hl with | [_, _], _ => rfl⟩, F.kp, T.g_printed_rows⟩
  intro cdv A outer s H E hr
  refine ⟨_, (pss_one (ps_ret (pe_lc (own := [("row", 2)]) (g := gName 2) (tt := tYes) rfl sc_printed_rows.nd (pi_list (pe_op op_cat (pe_lst (pa_cons (pe_fldK (K := K) (pv 0) rfl rfl) pa_nil)) (pe_fldK (K := K) (pv 0) rfl rfl))) (blkOk_by (own := [("row", 2)]) (N := N_printed_rows) (sc := (defScope (top 81))) (by decide +kernel)) (fun _ _ _ _ _ => pg_name (i := 2) sc_printed_rows.nd rfl (Or.inl rfl)) (fun _ _ _ _ _ => pts_nil) (fun _ _ _ _ _ => (pe_callO (ok_printed_row T) (hr.mono (by decide)) rfl (pa_cons (pv 2) (pa_cons (pv 1) pa_nil))))))), ?_⟩
  intro B ds d hR
  obtain ⟨⟩ := hR
  rename_i t k hv
  have hr : (mRowsH t).length ≤ 25 := by
    have := hv.rs
    show t.rows.length + 1 ≤ 25
    omega
  refine (sd_ret (en_is (es := (mPrinted k t).map dBs) (en_lcL (f := dCs) (l := mRowsH t) (g := fun r => dBs (prRow k r)) (dw_listL (ed_is (en_cat (en_lst (ea_cons (ed_fld (ed_var rfl) T.k_Table T.n_Table_headers rfl) ea_nil) (hle rfl)).ed (ed_fld (d := dRows t.rows) (ed_var rfl) T.k_Table T.n_Table_rows rfl) ?_).ed rfl)) rfl rfl (fun x hx => (ed_call (ea_cons (ed_var rfl) (ea_cons (ed_var rfl) ea_nil)) (.mk ?_ (hv.row x hx).2))) (by omega)) (by unfold mPrinted; rw [List.map_map]; rfl)).ed rfl)
  · have := hv.rs
    rw [List.length_map]
    show 1 + t.rows.length ≤ _
    omega
  · have := (hv.row x hx).1
    have := hv.hi
    omega
inductive r_natural_width : List D → D → Prop
  | mk {t : Vanbkh.Table} {k c : Nat} (h : VT t) (hk : k ≤ t.headers.length) (hc : c < k) : r_natural_width [.lst ((mPrinted k t).map dBs), .int c] (.int (Vanbkh.naturalWidth t c : Nat))
theorem prRow_get {r : List Vanbkh.Cell} {k c : Nat} (hr : c < r.length) (hc : c < k) : (prRow k r)[c]? = some (Vanbkh.printCell (r.getD c (.number 0))) := by
  unfold prRow
  rw [List.getElem?_map, List.getElem?_take_of_lt hc, List.getElem?_eq_getElem hr, List.getD_eq_getElem?_getD, List.getElem?_eq_getElem hr]
  rfl
abbrev N_natural_width : List Str := ["printed", "column", "row"]
theorem sc_natural_width : FnScope N_natural_width ["printed", "column"] (defScope (top 82)) := ⟨rfl, rfl, rfl, by decide +kernel, rfl, by decide +kernel, by decide +kernel⟩
theorem ok_natural_width {Pr : Program} {w : World} {K : PySem.W.Frag} {mg : Str → Option Value} {base : Heap} (T : Tx K mg) : Ok Pr w K mg base 1 "natural_width" ["printed", "column"] (spR K r_natural_width) := by
  obtain ⟨fd, F⟩ := T.d_natural_width
  refine ⟨⟨fd, fn_pure (N := N_natural_width) F sc_natural_width (fun ds d h => by cases h; rfl) ?_, F.bindsN fun _ _ _ _ _ _ us hl => match us, hl with | [_, _], _ => rfl⟩, F.kp, T.g_natural_width⟩
  intro cdv A outer s H E hr
  refine ⟨_, (pss_one (ps_ret (pe_callB (r := rMax K) (cr_max rfl) (by rfl) T.f_max (by decide +kernel) (pa_cons (pe_lc (own := [("row", 2)]) (g := gName 2) (tt := tYes) rfl sc_natural_width.nd (pi_list (pv 0)) (blkOk_by (own := [("row", 2)]) (N := N_natural_width) (sc := (defScope (top 82))) (by decide +kernel)) (fun _ _ _ _ _ => pg_name (i := 2) sc_natural_width.nd rfl (Or.inl rfl)) (fun _ _ _ _ _ => pts_nil) (fun _ _ _ _ _ => (pe_callB (r := rLenQ K) call_len_seq (by rfl) T.f_len (by decide +kernel) (pa_cons (pe_ix (r := rIxL K) ix_list (pv 2) (pv 1) (fun _ _ => rfl)) pa_nil)))) pa_nil)))), ?_⟩
  intro B ds d hR
  obtain ⟨⟩ := hR
  rename_i t k c hv hk hc
  have hr : (mRowsH t).length ≤ 25 := by
    have := hv.rs
    show t.rows.length + 1 ≤ 25
    omega
  refine (sd_ret (ed_max (ns := nI (colLens t c)) (m := (Vanbkh.naturalWidth t c : Nat)) (ed_is (en_lcL (f := fun r => dBs (prRow k r)) (l := mRowsH t) (g := fun r => D.int ((Vanbkh.printCell (r.getD c (.number 0))).length : Nat)) (dw_listL (ed_is (ed_var rfl) (by unfold mPrinted; rw [List.map_map]; rfl))) rfl rfl (fun x hx => (ed_is (ed_lenN (l := bI (Vanbkh.printCell (x.getD c (.number 0)))) (ed_ix (ds := (prRow k x).map dB) (ed_var rfl) (ed_var rfl) (atI_map dB (atI_nat (prRow_get (by have := (hv.row x hx).1; omega) hc))))) (by rw [bI_length]))) (by omega)).ed (by unfold colLens nI dI; rw [List.map_map, List.map_map]; rfl)) ?_ ?_) ?_)
  · rw [natural_eq hv (by omega)]
    exact List.mem_map_of_mem (maximum_mem (by simp [colLens, mRowsH]))
  · intro y hy
    obtain ⟨x, hx, rfl⟩ := List.mem_map.mp hy
    rw [natural_eq hv (by omega)]
    have := maximum_le hx
    omega
  · rfl
inductive r_natural_widths : List D → D → Prop
  | mk {t : Vanbkh.Table} {k : Nat} (h : VT t) (hk : k ≤ t.headers.length) : r_natural_widths [.lst ((mPrinted k t).map dBs)] (dN ((Vanbkh.naturalWidths t).take k))
abbrev N_natural_widths : List Str := ["printed", "column"]
theorem sc_natural_widths : FnScope N_natural_widths ["printed"] (defScope (top 83)) := ⟨rfl, rfl, rfl, by decide +kernel, rfl, by decide +kernel, by decide +kernel⟩
theorem ok_natural_widths {Pr : Program} {w : World} {K : PySem.W.Frag} {mg : Str → Option Value} {base : Heap} (T : Tx K mg) : Ok Pr w K mg base 2 "natural_widths" ["printed"] (spR K r_natural_widths) := by
  obtain ⟨fd, F⟩ := T.d_natural_widths
  refine ⟨⟨fd, fn_pure (N := N_natural_widths) F sc_natural_widths (fun ds d h => by cases h; rfl) ?_, F.bindsN fun _ _ _ _ _ _ us hl => match us, hl with | [_], _ => rfl⟩, F.kp, T.g_natural_widths⟩
  intro cdv A outer s H E hr
  refine ⟨_, (pss_one (ps_ret (pe_lc (own := [("column", 1)]) (g := gName 1) (tt := tYes) rfl sc_natural_widths.nd (pi_range1 (by rfl) T.f_range (pa_cons (pe_callB (r := rLenQ K) call_len_seq (by rfl) T.f_len (by decide +kernel) (pa_cons (pe_ix (r := rIxL K) ix_list (pv 0) pe_int (fun _ _ => rfl)) pa_nil)) pa_nil)) (blkOk_by (own := [("column", 1)]) (N := N_natural_widths) (sc := (defScope (top 83))) (by decide +kernel)) (fun _ _ _ _ _ => pg_name (i := 1) sc_natural_widths.nd rfl (Or.inl rfl)) (fun _ _ _ _ _ => pts_nil) (fun _ _ _ _ _ => (pe_callO (ok_natural_width T) (hr.mono (by decide)) rfl (pa_cons (pv 0) (pa_cons (pv 1) pa_nil))))))), ?_⟩
  intro B ds d hR
  obtain ⟨⟩ := hR
  rename_i t k hv hk
  have hi := hv.hi
  have l0 : ((mPrinted k t).headD []).length = k := by
    show (prRow k (t.headers.map .text)).length = k
    unfold prRow
    rw [List.length_map, List.length_take, List.length_map]
    omega
  refine (sd_ret (en_is (es := dI (nI ((Vanbkh.naturalWidths t).take k))) (en_lc (g := fun c => D.int (Vanbkh.naturalWidth t c : Nat)) (dw_rng1 (j := (k : Int)) (ed_is (ed_lenM (l := (mPrinted k t).headD []) (f := dB) (ed_ix (ds := (mPrinted k t).map dBs) (ed_var rfl) ed_int (atI_map dBs (atI_zero _ _)))) (by rw [l0])) (by omega) (by omega)) rfl rfl (fun i hi => (ed_call (ea_cons (ed_var rfl) (ea_cons (ed_var rfl) ea_nil)) (.mk hv hk (by simpa using hi)))) (by simp; omega)) ?_).ed rfl)
  rw [naturals_take hk]
  unfold nI dI
  rw [List.map_map, List.map_map]
  rfl
inductive r_narrow : List D → D → Prop
  | mk {ws : List Nat} {w : Nat} (h : 6 * ws.length + 1 ≤ w) (hw : w ≤ 120) (h1 : ∀ x ∈ ws, 1 ≤ x ∧ x ≤ 402) : r_narrow [dN ws, .int w] (dN (Vanbkh.narrow w (Vanbkh.lineWidth ws) ws))
abbrev N_narrow : List Str := ["natural", "width", "widths", "widest"]
theorem sc_narrow : FnScope N_narrow ["natural", "width"] (defScope (top 84)) := ⟨rfl, rfl, rfl, by decide +kernel, rfl, by decide +kernel, by decide +kernel⟩
theorem ok_narrow {Pr : Program} {w : World} {K : PySem.W.Frag} {mg : Str → Option Value} {base : Heap} (T : Tx K mg) : Ok Pr w K mg base 1 "narrow" ["natural", "width"] (spR K r_narrow) := by
  obtain ⟨fd, F⟩ := T.d_narrow
  refine ⟨⟨fd, fn_pure (N := N_narrow) F sc_narrow (fun ds d h => by cases h; rfl) ?_, F.bindsN fun _ _ _ _ _ _ us hl => match us, hl with | [_, _], _ => rfl⟩, F.kp, T.g_narrow⟩
  intro cdv A outer s H E hr
  refine ⟨_, (pss_cons (ps_set (i := 2) sc_narrow.nd rfl (Or.inl rfl) (pe_callTy (r := rListQ K) call_list_of (by rfl) T.f_list (by decide +kernel) (pa_cons (pv 0) pa_nil)))
 (pss_cons (ps_while PassesOwn.never (pt_cmpR op_gt (pe_op op_add (pe_op op_add (pe_callB (r := rSum K) (cr_sum rfl) (by rfl) T.f_sum (by decide +kernel) (pa_cons (pv 2) pa_nil)) (pe_op op_mulW pe_int (pe_callB (r := rLenQ K) call_len_seq (by rfl) T.f_len (by decide +kernel) (pa_cons (pv 2) pa_nil)))) pe_int) (pv 1) (nomark _))
 (pss_cons (ps_set (i := 3) sc_narrow.nd rfl (Or.inl rfl) (pe_bm PySem.F.plainAttrs_list PySem.F.slot_list_index PySem.F.type_list_index mt_index (pv 2) (pa_cons (pe_callB (r := rMax K) (cr_max rfl) (by rfl) T.f_max (by decide +kernel) (pa_cons (pv 2) pa_nil)) pa_nil)))
 (pss_one (ps_asg (pe_op op_sub (pe_ix (r := rIxL K) ix_list (pv 2) (pv 3) (fun _ _ => rfl)) pe_int) (pg_sub (pv 2) (pv 3) set_list)))))
 (pss_one (ps_ret (pv 2))))), ?_⟩
  intro B ds d hR
  obtain ⟨⟩ := hR
  rename_i ws w hl hw h1
  refine sd_seq (sd_asgN (en_list (ed_var rfl) (.inl rfl)) (hlt rfl) ?_)
  refine sd_seq (sd_while (fun m δ => ∃ vs sl n, m = vs.sum ∧ vs.length = ws.length ∧ δ = [.sh (dN ws), .sh (.int w), .own (dI (nI vs)), sl] ∧ Vanbkh.lineWidth vs ≤ n + w ∧ Vanbkh.narrow w (Vanbkh.lineWidth ws) ws = Vanbkh.narrow w n vs) ws.sum ?_ ?_)
  · exact ⟨ws, .un, Vanbkh.lineWidth ws, rfl, rfl, rfl, by omega, rfl⟩
  rintro m δ ⟨vs, sl, n, rfl, hvl, rfl, hn, he⟩
  refine ⟨!decide (Vanbkh.lineWidth vs ≤ w), (et_is (et_test (ed_gt (ed_add (ed_add (ed_sumO (ns := nI vs) rfl) (ed_mulW ed_int (ed_lenO rfl) ?_)) ed_int) (ed_var rfl))) ?_), fun h => ?_, fun h => ?_⟩
  · show Nat.log2 3 + (Int.natAbs (((dI (nI vs)).length : Nat) : Int)).log2 < 1000000
    have e : (dI (nI vs)).length = ws.length := by rw [List.length_map, nI_length, hvl]
    rw [e]
    have := log_small (n := (Int.natAbs ((ws.length : Nat) : Int))) (Nat.lt_of_le_of_lt (m := 100) (by omega) (by decide))
    have : Nat.log2 3 = 1 := by decide
    omega
  · have e : (dI (nI vs)).length = vs.length := by rw [List.length_map, nI_length]
    rw [e, nI_sum]
    unfold Vanbkh.lineWidth
    rw [← decide_not]
    exact decide_eq_decide.mpr (by omega)
  · have hg : ¬ Vanbkh.lineWidth vs ≤ w := by simpa using h
    obtain ⟨b1, b2⟩ := widest_big hg (by rw [hvl]; exact hl)
    obtain ⟨j, e1, e2, e3, e4⟩ := narrowFirst_eq _ vs (maximum_mem b2)
    have e4 := e4 (by omega)
    refine sd_seq (sd_asg (ed_indexO (ns := nI vs) (m := (Vanbkh.maximum vs : Nat)) (j := j) rfl (ed_maxO (ns := nI vs) rfl ?_ ?_) ?_ ?_) (hlt rfl) ?_)
    · exact List.mem_map_of_mem (maximum_mem b2)
    · intro y hy
      obtain ⟨x, hx, rfl⟩ := List.mem_map.mp hy
      have := maximum_le hx
      omega
    · unfold nI
      rw [List.getElem?_map, e1]
      rfl
    · intro k hk z
      unfold nI at z
      rw [List.getElem?_map] at z
      cases q : vs[k]? with
      | none => rw [q] at z; cases z
      | some x =>
        rw [q] at z
        have : (x : Int) = (Vanbkh.maximum vs : Nat) := Option.some.inj z
        exact e2 k hk (by rw [q]; congr 1; omega)
    have hj : j < vs.length := (List.getElem?_eq_some_iff.mp e1).1
    refine (sd_setitem (ds := dI (nI vs)) (j := j) rfl (ed_sub (ed_ixO rfl (ed_var rfl) (d := .int (Vanbkh.maximum vs : Nat)) ?_) ed_int) (ed_var rfl) ?_ ?_)
    · refine atI_nat ?_
      unfold nI dI
      rw [List.getElem?_map, List.getElem?_map, e1]
      rfl
    · rw [List.length_map, nI_length]
      unfold ixN
      rw [if_pos (by omega), if_pos (by omega)]
      rfl
    · cases n with
      | zero => exact absurd (by omega : Vanbkh.lineWidth vs ≤ w) hg
      | succ n =>
        refine ⟨vs.sum - 1, by omega, Vanbkh.narrowFirst (Vanbkh.maximum vs) vs, .sh (.int j), n, by omega, by rw [narrowFirst_len, hvl], ?_, ?_, ?_⟩
        · rw [e3]
          have : (dI (nI vs)).set j (.int ((Vanbkh.maximum vs : Nat) - 1)) = dI (nI (vs.set j (Vanbkh.maximum vs - 1))) := by
            unfold nI dI
            rw [List.map_set, List.map_set]
            congr 2
            omega
          rw [← this]
          rfl
        · have hl2 := narrowFirst_len (Vanbkh.maximum vs) vs
          unfold Vanbkh.lineWidth at hn ⊢
          rw [hl2]
          omega
        · rw [he, narrow_step hg]
  · refine sd_frz 2 rfl (sd_ret (ed_var rfl) ?_)
    have hg : Vanbkh.lineWidth vs ≤ w := by simpa using h
    rw [he, narrow_done hg]
    rfl
end Rl
namespace Rl
open PySem PySem.Spec PyProof.Rows L2 Dg

inductive r_visible_widths : List D → D → Prop
  | mk {t : Vanbkh.Table} {w : Nat} (h : VT t) (h1 : 20 ≤ w) (h2 : w ≤ 120) : r_visible_widths [dT t, .int w] (dN (Vanbkh.columnWidths w t))
abbrev N_visible_widths : List Str := ["table", "width"]
theorem sc_visible_widths : FnScope N_visible_widths ["table", "width"] (defScope (top 85)) := ⟨rfl, rfl, rfl, by decide +kernel, rfl, by decide +kernel, by decide +kernel⟩
theorem ok_visible_widths {Pr : Program} {w : World} {K : PySem.W.Frag} {mg : Str → Option Value} {base : Heap} (T : Tx K mg) : Ok Pr w K mg base 8 "visible_widths" ["table", "width"] (spR K r_visible_widths) := by
  obtain ⟨fd, F⟩ := T.d_visible_widths
  refine ⟨⟨fd, fn_pure (N := N_visible_widths) F sc_visible_widths (fun ds d h => by cases h; rfl) ?_, F.bindsN fun _ _ _ _ _ _ us hl => match us, hl with | [_, _], _ => rfl⟩, F.kp, T.g_visible_widths⟩
  intro cdv A outer s H E hr
  refine ⟨_, (pss_one (ps_ret (pe_callO (ok_narrow T) (hr.mono (by decide)) rfl (pa_cons (pe_callO (ok_natural_widths T) (hr.mono (by decide)) rfl (pa_cons (pe_callO (ok_printed_rows T) (hr.mono (by decide)) rfl (pa_cons (pv 0) (pa_cons (pe_callO (ok_visible_count T) (hr.mono (by decide)) rfl (pa_cons (pv 0) (pa_cons (pv 1) pa_nil))) pa_nil))) pa_nil)) (pa_cons (pv 1) pa_nil))))), ?_⟩
  intro B ds d hR
  obtain ⟨⟩ := hR
  rename_i t w hv h1 h2
  obtain ⟨v1, v2, v3⟩ := vis_bd h1 h2 hv.lo
  have hl : ((Vanbkh.naturalWidths t).take (Vanbkh.visibleColumns w t.headers.length)).length = Vanbkh.visibleColumns w t.headers.length := by
    rw [List.length_take, naturals_len]
    omega
  exact (sd_ret (ed_call (ea_cons (ed_call (ea_cons (ed_call (ea_cons (ed_var rfl) (ea_cons (ed_call (ea_cons (ed_var rfl) (ea_cons (ed_var rfl) ea_nil)) (.mk h1 h2)) ea_nil)) (.mk hv)) ea_nil) (.mk hv v2)) (ea_cons (ed_var rfl) ea_nil)) (.mk (by rw [hl]; exact v3) h2 (fun x hx => naturals_bd hv x (List.mem_of_mem_take hx)))) rfl)
inductive r_ruler_line : List D → D → Prop
  | mk {ws : List Nat} (h : ws.length ≤ 8) (h1 : ∀ x ∈ ws, x ≤ 402) : r_ruler_line [dN ws] (dB (Vanbkh.ruler ws))
abbrev N_ruler_line : List Str := ["widths", "line", "width"]
theorem sc_ruler_line : FnScope N_ruler_line ["widths"] (defScope (top 86)) := ⟨rfl, rfl, rfl, by decide +kernel, rfl, by decide +kernel, by decide +kernel⟩
theorem ok_ruler_line {Pr : Program} {w : World} {K : PySem.W.Frag} {mg : Str → Option Value} {base : Heap} (T : Tx K mg) : Ok Pr w K mg base 1 "ruler_line" ["widths"] (spR K r_ruler_line) := by
  obtain ⟨fd, F⟩ := T.d_ruler_line
  refine ⟨⟨fd, fn_pure (N := N_ruler_line) F sc_ruler_line (fun ds d h => by cases h; rfl) ?_, F.bindsN fun _ _ _ _ _ _ us hl => match us, hl with | [_], _ => rfl⟩, F.kp, T.g_ruler_line⟩
  intro cdv A outer s H E hr
  refine ⟨_, (pss_cons (ps_set (i := 1) sc_ruler_line.nd rfl (Or.inl rfl) (pe_lst pa_nil))
 (pss_cons (ps_for PassesOwn.never rfl (pi_list (pv 0)) (pg_name (i := 2) sc_ruler_line.nd rfl (Or.inl rfl))
 (pss_one (ps_expr (pe_bm PySem.F.plainAttrs_list PySem.F.slot_list_extend PySem.F.type_list_extend mt_extend (pv 1) (pa_cons (pe_op op_cat (pe_lst (pa_cons (pe_gint rfl T.i_PLUS) pa_nil)) (pe_op op_rep (pe_lst (pa_cons (pe_gint rfl T.i_MINUS) pa_nil)) (pe_op op_add (pv 2) pe_int))) pa_nil)))))
 (pss_one (ps_ret (pe_op op_cat (pv 1) (pe_lst (pa_cons (pe_gint rfl T.i_PLUS) pa_nil))))))), ?_⟩
  intro B ds d hR
  obtain ⟨⟩ := hR
  rename_i ws h8 h1
  refine sd_seq (sd_asgN (en_lst0I) (hlt rfl) ?_)
  refine sd_seq (sd_forL (f := fun n : Nat => D.int (n : Int)) (l := ws) (dw_listL (ed_is (ed_var rfl) (by unfold dN dI nI; rw [List.map_map]; rfl))) (fun pre δ => ∃ sl, δ = [.sh (dN ws), .own (dI (bI (pre.flatMap fun n => 43 :: List.replicate (n + 2) 45))), sl]) ?_ ?_ ?_)
  · exact ⟨_, rfl⟩
  · rintro pre x post δ e ⟨sl, rfl⟩
    have hx := h1 x (by rw [e]; simp)
    have hp : pre.length ≤ 8 := by
      have := congrArg List.length e
      simp at this
      omega
    have hfl := flat_le (f := fun n => 43 :: List.replicate (n + 2) (45 : UInt8)) (c := 405) (l := pre) fun y hy => by
      have := h1 y (by rw [e]; simp [hy])
      simp
      omega
    refine gd_name (hlt rfl) ?_
    refine (sd_extendI (l := bI (pre.flatMap fun n => 43 :: List.replicate (n + 2) 45)) (m := bI (43 :: List.replicate (x + 2) 45)) rfl (ed_is (en_catI (en_lst1I ed_int).ed (en_repI (i := 45) (en_lst1I ed_int).ed (ed_add (ed_var rfl) ed_int) ?_ ?_).ed ?_).ed ?_) ?_ ?_)
    · omega
    · omega
    · rw [List.length_replicate]
      show 1 + _ ≤ _
      omega
    · show D.lst (dI (43 :: List.replicate ((x : Int) + 2).toNat 45)) = D.lst (dI (bi 43 :: bI (List.replicate (x + 2) 45)))
      rw [bI_rep]
      rfl
    · rw [bI_length, bI_length, List.length_cons, List.length_replicate]
      omega
    · exact ⟨.sh (.int x), by rw [List.flatMap_append, bI_append]; simp [List.flatMap_cons]⟩
  rintro δ ⟨sl, rfl⟩
  have hfl := flat_le (f := fun n => 43 :: List.replicate (n + 2) (45 : UInt8)) (c := 405) (l := ws) fun y hy => by
    have := h1 y hy
    simp
    omega
  refine sd_frz 1 rfl (sd_ret (en_catI (ed_var rfl) (en_lst1I ed_int).ed ?_).ed ?_)
  · rw [bI_length]
    show _ + 1 ≤ _
    omega
  · show D.lst _ = D.lst (dI (bI _))
    unfold Vanbkh.ruler
    rw [bI_append]
    rfl
inductive r_aligned_form : List D → D → Prop
  | mk {c : Vanbkh.Cell} {n : Nat} (h : Vanbkh.isValidCell c = true) (h1 : 1 ≤ n) (h2 : n ≤ 402) : r_aligned_form [dC c, dB (Vanbkh.printCell c), .int n] (dB (Vanbkh.alignCell n c))
abbrev N_aligned_form : List Str := ["cell", "printed", "width", "form"]
theorem sc_aligned_form : FnScope N_aligned_form ["cell", "printed", "width"] (defScope (top 87)) := ⟨rfl, rfl, rfl, by decide +kernel, rfl, by decide +kernel, by decide +kernel⟩
theorem ok_aligned_form {Pr : Program} {w : World} {K : PySem.W.Frag} {mg : Str → Option Value} {base : Heap} (T : Tx K mg) : Ok Pr w K mg base 2 "aligned_form" ["cell", "printed", "width"] (spR K r_aligned_form) := by
  obtain ⟨fd, F⟩ := T.d_aligned_form
  refine ⟨⟨fd, fn_pure (N := N_aligned_form) F sc_aligned_form (fun ds d h => by cases h; rfl) ?_, F.bindsN fun _ _ _ _ _ _ us hl => match us, hl with | [_, _, _], _ => rfl⟩, F.kp, T.g_aligned_form⟩
  intro cdv A outer s H E hr
  refine ⟨_, (pss_cons (ps_set (i := 3) sc_aligned_form.nd rfl (Or.inl rfl) (pe_callO (ok_truncate T) (hr.mono (by decide)) rfl (pa_cons (pv 1) (pa_cons (pv 2) pa_nil))))
 (pss_cons (ps_if (pt_val (pe_callO (ok_is_number_cell T) (hr.mono (by decide)) rfl (pa_cons (pv 0) pa_nil)))
 (pss_one (ps_ret (pe_callO (ok_fill_before T) (hr.mono (by decide)) rfl (pa_cons (pv 3) (pa_cons (pv 2) pa_nil)))))
 pss_nil)
 (pss_one (ps_ret (pe_callO (ok_fill_behind T) (hr.mono (by decide)) rfl (pa_cons (pv 3) (pa_cons (pv 2) pa_nil))))))), ?_⟩
  intro B ds d hR
  obtain ⟨⟩ := hR
  rename_i c n hv h1 h2
  have hp := printCell_len hv
  have ht := truncate_len (n := n) (Vanbkh.printCell c) h1
  refine sd_seq (sd_asg (ed_is (ed_call (ea_cons (ed_var rfl) (ea_cons (ed_var rfl) ea_nil)) (.mk (l := bI (Vanbkh.printCell c)) (n := n) (by rw [bI_length]; omega) (by omega))) (e := dB (Vanbkh.truncate n (Vanbkh.printCell c))) (by rw [mTrunc_bI _ _ h1]; rfl)) (hlt rfl) ?_)
  refine sd_seq (sd_if (et_B (ed_call (ea_cons (ed_var rfl) ea_nil) (.mk))) (fun h => ?_) (fun h => ?_))
  · refine (sd_ret (ed_call (ea_cons (ed_var rfl) (ea_cons (ed_var rfl) ea_nil)) (.mk (l := bI (Vanbkh.truncate n (Vanbkh.printCell c))) (n := n) (by rw [bI_length]; omega) (by omega) (by omega))) ?_)
    unfold Vanbkh.alignCell
    rw [if_pos h, mPadL_bI]
    rfl
  refine sd_next ?_
  refine (sd_ret (ed_call (ea_cons (ed_var rfl) (ea_cons (ed_var rfl) ea_nil)) (.mk (l := bI (Vanbkh.truncate n (Vanbkh.printCell c))) (n := n) (by rw [bI_length]; omega) (by omega) (by omega))) ?_)
  unfold Vanbkh.alignCell
  rw [if_neg (by rw [h]; simp), mPadR_bI]
  rfl
def rowF (x : Nat × Vanbkh.Cell) : List UInt8 := [124, 32] ++ Vanbkh.alignCell x.1 x.2 ++ [32]
inductive r_row_line : List D → D → Prop
  | mk {r : List Vanbkh.Cell} {ws : List Nat} (hv : ∀ c ∈ r, Vanbkh.isValidCell c = true) (h : ws.length ≤ r.length) (h8 : ws.length ≤ 8) (h1 : ∀ x ∈ ws, 1 ≤ x ∧ x ≤ 402) : r_row_line [dCs r, dBs (prRow ws.length r), dN ws] (dB (Vanbkh.rowLine ws r))
abbrev N_row_line : List Str := ["row", "printed", "widths", "line", "column", "width"]
theorem sc_row_line : FnScope N_row_line ["row", "printed", "widths"] (defScope (top 88)) := ⟨rfl, rfl, rfl, by decide +kernel, rfl, by decide +kernel, by decide +kernel⟩
theorem ok_row_line {Pr : Program} {w : World} {K : PySem.W.Frag} {mg : Str → Option Value} {base : Heap} (T : Tx K mg) : Ok Pr w K mg base 3 "row_line" ["row", "printed", "widths"] (spR K r_row_line) := by
  obtain ⟨fd, F⟩ := T.d_row_line
  refine ⟨⟨fd, fn_pure (N := N_row_line) F sc_row_line (fun ds d h => by cases h; rfl) ?_, F.bindsN fun _ _ _ _ _ _ us hl => match us, hl with | [_, _, _], _ => rfl⟩, F.kp, T.g_row_line⟩
  intro cdv A outer s H E hr
  refine ⟨_, (pss_cons (ps_set (i := 3) sc_row_line.nd rfl (Or.inl rfl) (pe_lst pa_nil))
 (pss_cons (ps_for PassesOwn.never rfl (pi_enum (by rfl) T.f_enumerate (pa_cons (pv 2) pa_nil)) (pg_tup rfl (pgs_cons (pg_name (i := 4) sc_row_line.nd rfl (Or.inl rfl)) (pgs_cons (pg_name (i := 5) sc_row_line.nd rfl (Or.inl rfl)) pgs_nil)))
 (pss_cons (ps_expr (pe_bm PySem.F.plainAttrs_list PySem.F.slot_list_extend PySem.F.type_list_extend mt_extend (pv 3) (pa_cons (pe_lst (pa_cons (pe_gint rfl T.i_BAR) (pa_cons (pe_gint rfl T.i_SPACE) pa_nil))) pa_nil)))
 (pss_cons (ps_expr (pe_bm PySem.F.plainAttrs_list PySem.F.slot_list_extend PySem.F.type_list_extend mt_extend (pv 3) (pa_cons (pe_callO (ok_aligned_form T) (hr.mono (by decide)) rfl (pa_cons (pe_ix (r := rIxL K) ix_list (pv 0) (pv 4) (fun _ _ => rfl)) (pa_cons (pe_ix (r := rIxL K) ix_list (pv 1) (pv 4) (fun _ _ => rfl)) (pa_cons (pv 5) pa_nil)))) pa_nil)))
 (pss_one (ps_expr (pe_bm PySem.F.plainAttrs_list PySem.F.slot_list_append PySem.F.type_list_append mt_append (pv 3) (pa_cons (pe_gint rfl T.i_SPACE) pa_nil)))))))
 (pss_one (ps_ret (pe_op op_cat (pv 3) (pe_lst (pa_cons (pe_gint rfl T.i_BAR) pa_nil))))))), ?_⟩
  intro B ds d hR
  obtain ⟨⟩ := hR
  rename_i r ws hv hr h8 h1
  have hz : (ws.zip r).length = ws.length := by simp; omega
  have bd : ∀ i, (((ws.zip r).take i).flatMap rowF).length ≤ 405 * 8 := fun i => by
    have := flat_le (f := rowF) (c := 405) (l := (ws.zip r).take i) fun x hx => by
      have hm : x.1 ∈ ws := (List.of_mem_zip (List.mem_of_mem_take hx)).1
      have := h1 x.1 hm
      have := align_len x.2 this.1
      unfold rowF
      simp
      omega
    have q : ((ws.zip r).take i).length ≤ 8 := by rw [List.length_take]; omega
    have : 405 * ((ws.zip r).take i).length ≤ 405 * 8 := Nat.mul_le_mul_left _ q
    omega
  refine sd_seq (sd_asgN (en_lst0I) (hlt rfl) ?_)
  refine sd_seq (sd_for (dw_enumL (f := fun n : Nat => D.int (n : Int)) (l := ws) (ed_is (ed_var rfl) (by unfold dN dI nI; rw [List.map_map]; rfl))) (fun i δ => ∃ s1 s2, δ = [.sh (dCs r), .sh (dBs (prRow ws.length r)), .sh (dN ws), .own (dI (bI (((ws.zip r).take i).flatMap rowF))), s1, s2]) ?_ ?_ ?_)
  · exact ⟨_, _, rfl⟩
  · rintro i δ hi ⟨s1, s2, rfl⟩
    have ewi : ws.getD i default = ws[i] := by rw [List.getD_eq_getElem?_getD, List.getElem?_eq_getElem hi]; rfl
    rw [nth_mapD hi, ewi]
    have hir : i < r.length := by omega
    have bw := h1 ws[i] (List.getElem_mem hi)
    have vc := hv r[i] (List.getElem_mem hir)
    have al := align_len (n := ws[i]) r[i] bw.1
    have b0 := bd i
    refine gd_tup2 (hlt rfl) (hlt rfl) ?_
    refine sd_seq (sd_extendI (l := bI (((ws.zip r).take i).flatMap rowF)) rfl (en_lst2I ed_int ed_int).ed (by rw [bI_length]; show _ + 2 ≤ _; omega) ?_)
    refine sd_seq (sd_extendI (l := bI (((ws.zip r).take i).flatMap rowF) ++ [124, 32]) (m := bI (Vanbkh.alignCell ws[i] r[i])) rfl (ed_call (ea_cons (ed_ix (ds := r.map dC) (ed_var rfl) (ed_var rfl) (atI_map dC (atI_nat (List.getElem?_eq_getElem hir)))) (ea_cons (ed_ix (ds := (prRow ws.length r).map dB) (ed_var rfl) (ed_var rfl) (atI_map dB (x := Vanbkh.printCell r[i]) (atI_nat ?_))) (ea_cons (ed_var rfl) ea_nil))) (.mk vc bw.1 bw.2)) ?_ ?_)
    · unfold prRow
      rw [List.getElem?_map, List.getElem?_take_of_lt hi, List.getElem?_eq_getElem hir]
      rfl
    · rw [List.length_append, bI_length, bI_length]
      show _ + 2 + _ ≤ _
      omega
    refine (sd_appendI (l := bI (((ws.zip r).take i).flatMap rowF) ++ [124, 32] ++ bI (Vanbkh.alignCell ws[i] r[i])) rfl ed_int ?_ ?_)
    · rw [List.length_append, List.length_append, bI_length, bI_length]
      show _ + 2 + _ < _
      omega
    · refine ⟨.sh (.int (i : Nat)), .sh (.int (ws[i] : Nat)), ?_⟩
      rw [take_snoc (by omega), List.flatMap_append, bI_append, List.getElem_zip]
      have e3 : bI ([(ws[i], r[i])].flatMap rowF) = [124, 32] ++ bI (Vanbkh.alignCell ws[i] r[i]) ++ [32] := by
        rw [List.flatMap_singleton]
        unfold rowF
        rw [bI_append, bI_append]
        rfl
      rw [e3, ← List.append_assoc, ← List.append_assoc]
      rfl
  rintro δ ⟨s1, s2, rfl⟩
  refine sd_frz 3 rfl (sd_ret (en_catI (ed_var rfl) (en_lst1I ed_int).ed ?_).ed ?_)
  · rw [bI_length]
    have := bd ws.length
    show _ + 1 ≤ _
    omega
  · show D.lst _ = D.lst (dI (bI _))
    unfold Vanbkh.rowLine
    rw [bI_append, ← hz, List.take_length]
    rfl

inductive r_framed_lines : List D → List D → Prop
  | mk {t : Vanbkh.Table} {ws : List Nat} (hv : VT t) (h : ws.length ≤ t.headers.length) (h1 : ∀ x ∈ ws, 1 ≤ x ∧ x ≤ 402) : r_framed_lines [dT t, .lst ((mPrinted ws.length t).map dBs), dN ws] ((Vanbkh.tableWith ws t).map dB)
abbrev N_framed_lines : List Str := ["table", "printed", "widths", "ruler", "lines", "place", "row"]
theorem sc_framed_lines : FnScope N_framed_lines ["table", "printed", "widths"] (defScope (top 89)) := ⟨rfl, rfl, rfl, by decide +kernel, rfl, by decide +kernel, by decide +kernel⟩
theorem ok_framed_lines {Pr : Program} {w : World} {K : PySem.W.Frag} {mg : Str → Option Value} {base : Heap} (T : Tx K mg) : Ok Pr w K mg base 4 "framed_lines" ["table", "printed", "widths"] (spN K r_framed_lines) := by
  obtain ⟨fd, F⟩ := T.d_framed_lines
  refine ⟨⟨fd, fn_new (N := N_framed_lines) F sc_framed_lines (fun ds d h => by cases h; rfl) ?_, F.bindsN fun _ _ _ _ _ _ us hl => match us, hl with | [_, _, _], _ => rfl⟩, F.kp, T.g_framed_lines⟩
  intro cdv A outer s H E hr
  refine ⟨_, (pss_cons (ps_set (i := 3) sc_framed_lines.nd rfl (Or.inl rfl) (pe_callO (ok_ruler_line T) (hr.mono (by decide)) rfl (pa_cons (pv 2) pa_nil)))
 (pss_cons (ps_set (i := 4) sc_framed_lines.nd rfl (Or.inl rfl) (pe_lst (pa_cons (pv 3) (pa_cons (pe_callO (ok_row_line T) (hr.mono (by decide)) rfl (pa_cons (pe_fldK (K := K) (pv 0) rfl rfl) (pa_cons (pe_ix (r := rIxL K) ix_list (pv 1) pe_int (fun _ _ => rfl)) (pa_cons (pv 2) pa_nil)))) (pa_cons (pv 3) pa_nil)))))
 (pss_cons (ps_for PassesOwn.never rfl (pi_enum (by rfl) T.f_enumerate (pa_cons (pe_fldK (K := K) (pv 0) rfl rfl) pa_nil)) (pg_tup rfl (pgs_cons (pg_name (i := 5) sc_framed_lines.nd rfl (Or.inl rfl)) (pgs_cons (pg_name (i := 6) sc_framed_lines.nd rfl (Or.inl rfl)) pgs_nil)))
 (pss_one (ps_expr (pe_bm PySem.F.plainAttrs_list PySem.F.slot_list_append PySem.F.type_list_append mt_append (pv 4) (pa_cons (pe_callO (ok_row_line T) (hr.mono (by decide)) rfl (pa_cons (pv 6) (pa_cons (pe_ix (r := rIxL K) ix_list (pv 1) (pe_op op_add (pv 5) pe_int) (fun _ _ => rfl)) (pa_cons (pv 2) pa_nil)))) pa_nil)))))
 (pss_cons (ps_expr (pe_bm PySem.F.plainAttrs_list PySem.F.slot_list_append PySem.F.type_list_append mt_append (pv 4) (pa_cons (pv 3) pa_nil)))
 (pss_one (ps_ret (pv 4))))))), ?_⟩
  intro B ds d hR
  obtain ⟨⟩ := hR
  rename_i t ws hv h h1
  have hi8 := hv.hi
  have hrs := hv.rs
  have hh := hv.row (t.headers.map .text) (by simp [mRowsH])
  refine sdn_seq (sd_asg (ed_call (ea_cons (ed_var rfl) ea_nil) (.mk (ws := ws) (by omega) (fun x hx => (h1 x hx).2))) (hlt rfl) ?_)
  refine sdn_seq (sd_asgN (en_is (es := [Vanbkh.ruler ws, Vanbkh.rowLine ws (t.headers.map .text), Vanbkh.ruler ws].map dB) (en_lst (ea_cons (ed_var rfl) (ea_cons (ed_call (ea_cons (ed_fld (d := dCs (t.headers.map .text)) (ed_var rfl) T.k_Table T.n_Table_headers rfl) (ea_cons (ed_ix (d := dBs (prRow ws.length (t.headers.map .text))) (ds := (mPrinted ws.length t).map dBs) (ed_var rfl) ed_int (atI_map dBs (atI_zero _ _))) (ea_cons (ed_var rfl) ea_nil))) (.mk hh.2 (by rw [hh.1]; exact h) (by omega) h1)) (ea_cons (ed_var rfl) ea_nil))) (hle rfl)) rfl) (hlt rfl) ?_)
  refine sdn_seq (sd_for (dw_enumL (f := dCs) (l := t.rows) (ed_fld (d := dRows t.rows) (ed_var rfl) T.k_Table T.n_Table_rows rfl)) (fun i δ => ∃ s1 s2, δ = [.sh (dT t), .sh (.lst ((mPrinted ws.length t).map dBs)), .sh (dN ws), .sh (dB (Vanbkh.ruler ws)), .own (([Vanbkh.ruler ws, Vanbkh.rowLine ws (t.headers.map .text), Vanbkh.ruler ws] ++ (t.rows.take i).map (Vanbkh.rowLine ws)).map dB), s1, s2]) ?_ ?_ ?_)
  · exact ⟨_, _, rfl⟩
  · rintro i δ hi ⟨s1, s2, rfl⟩
    have ewi : t.rows.getD i default = t.rows[i] := by rw [List.getD_eq_getElem?_getD, List.getElem?_eq_getElem hi]; rfl
    rw [nth_mapD hi, ewi]
    have hr := hv.row t.rows[i] (by simp [mRowsH])
    refine gd_tup2 (hlt rfl) (hlt rfl) ?_
    refine (sd_appendM (f := dB) (x := Vanbkh.rowLine ws t.rows[i]) rfl (ed_call (ea_cons (ed_var rfl) (ea_cons (ed_ix (ds := (mPrinted ws.length t).map dBs) (ed_var rfl) (ed_add (ed_var rfl) ed_int) (atI_map dBs (x := prRow ws.length t.rows[i]) (atI_nat (j := i + 1) ?_))) (ea_cons (ed_var rfl) ea_nil))) (.mk hr.2 (by rw [hr.1]; exact h) (by omega) h1)) ?_ ?_)
    · unfold mPrinted mRowsH
      rw [List.map_cons, List.getElem?_cons_succ, List.getElem?_map, List.getElem?_eq_getElem hi]
      rfl
    · simp
      omega
    · refine ⟨.sh (.int (i : Nat)), .sh (dCs t.rows[i]), ?_⟩
      have e : (t.rows.take (i + 1)).map (Vanbkh.rowLine ws) = (t.rows.take i).map (Vanbkh.rowLine ws) ++ [Vanbkh.rowLine ws t.rows[i]] := by
        rw [take_snoc hi, List.map_append]
        rfl
      rw [e, ← List.append_assoc]
      rfl
  rintro δ ⟨s1, s2, rfl⟩
  refine sdn_seq (sd_appendM (f := dB) (x := Vanbkh.ruler ws) rfl (ed_var rfl) (by simp; omega) ?_)
  have e : (Vanbkh.tableWith ws t) = ([Vanbkh.ruler ws, Vanbkh.rowLine ws (t.headers.map .text), Vanbkh.ruler ws] ++ (t.rows.take t.rows.length).map (Vanbkh.rowLine ws)) ++ [Vanbkh.ruler ws] := by
    rw [List.take_length]
    rfl
  rw [e]
  exact sdn_ret rfl
inductive r_table_lines : List D → D → Prop
  | mk {t : Vanbkh.Table} {w : Nat} (hv : VT t) (h1 : 20 ≤ w) (h2 : w ≤ 120) : r_table_lines [dT t, .int w] (dBs (Vanbkh.tableLines w t))
abbrev N_table_lines : List Str := ["table", "width", "count", "printed", "lines", "hidden"]
theorem sc_table_lines : FnScope N_table_lines ["table", "width"] (defScope (top 90)) := ⟨rfl, rfl, rfl, by decide +kernel, rfl, by decide +kernel, by decide +kernel⟩
theorem ok_table_lines {Pr : Program} {w : World} {K : PySem.W.Frag} {mg : Str → Option Value} {base : Heap} (T : Tx K mg) : Ok Pr w K mg base 8 "table_lines" ["table", "width"] (spR K r_table_lines) := by
  obtain ⟨fd, F⟩ := T.d_table_lines
  refine ⟨⟨fd, fn_pure (N := N_table_lines) F sc_table_lines (fun ds d h => by cases h; rfl) ?_, F.bindsN fun _ _ _ _ _ _ us hl => match us, hl with | [_, _], _ => rfl⟩, F.kp, T.g_table_lines⟩
  intro cdv A outer s H E hr
  refine ⟨_, (pss_cons (ps_set (i := 2) sc_table_lines.nd rfl (Or.inl rfl) (pe_callO (ok_visible_count T) (hr.mono (by decide)) rfl (pa_cons (pv 0) (pa_cons (pv 1) pa_nil))))
 (pss_cons (ps_set (i := 3) sc_table_lines.nd rfl (Or.inl rfl) (pe_callO (ok_printed_rows T) (hr.mono (by decide)) rfl (pa_cons (pv 0) (pa_cons (pv 2) pa_nil))))
 (pss_cons (ps_set (i := 4) sc_table_lines.nd rfl (Or.inl rfl) (pe_callO (ok_framed_lines T) (hr.mono (by decide)) rfl (pa_cons (pv 0) (pa_cons (pv 3) (pa_cons (pe_callO (ok_narrow T) (hr.mono (by decide)) rfl (pa_cons (pe_callO (ok_natural_widths T) (hr.mono (by decide)) rfl (pa_cons (pv 3) pa_nil)) (pa_cons (pv 1) pa_nil))) pa_nil)))))
 (pss_cons (ps_set (i := 5) sc_table_lines.nd rfl (Or.inl rfl) (pe_op op_sub (pe_callB (r := rLenQ K) call_len_seq (by rfl) T.f_len (by decide +kernel) (pa_cons (pe_fldK (K := K) (pv 0) rfl rfl) pa_nil)) (pv 2)))
 (pss_cons (ps_if (pt_cmpR op_gt (pv 5) pe_int (nomark _))
 (pss_one (ps_expr (pe_bm PySem.F.plainAttrs_list PySem.F.slot_list_append PySem.F.type_list_append mt_append (pv 4) (pa_cons (pe_op op_cat (pe_op op_cat (pe_callO (ok_bytes_of T) (hr.mono (by decide)) rfl (pa_cons pe_str pa_nil)) (pe_callO (ok_decimal_notation T) (hr.mono (by decide)) rfl (pa_cons (pv 5) pa_nil))) (pe_callO (ok_bytes_of T) (hr.mono (by decide)) rfl (pa_cons pe_str pa_nil))) pa_nil))))
 pss_nil)
 (pss_one (ps_ret (pv 4)))))))), ?_⟩
  intro B ds d hR
  obtain ⟨⟩ := hR
  rename_i t w hv h1 h2
  have hi8 := hv.hi
  obtain ⟨v1, v2, v3⟩ := vis_bd h1 h2 hv.lo
  obtain ⟨c1, c2⟩ := widths_bd hv h1 h2
  have hl : ((Vanbkh.naturalWidths t).take (Vanbkh.visibleColumns w t.headers.length)).length = Vanbkh.visibleColumns w t.headers.length := by
    rw [List.length_take, naturals_len]
    omega
  refine sd_seq (sd_asg (ed_call (ea_cons (ed_var rfl) (ea_cons (ed_var rfl) ea_nil)) (.mk h1 h2)) (hlt rfl) ?_)
  refine sd_seq (sd_asg (ed_call (ea_cons (ed_var rfl) (ea_cons (ed_var rfl) ea_nil)) (.mk hv)) (hlt rfl) ?_)
  refine sd_seq (sd_asgN (en_callN (ea_cons (ed_var rfl) (ea_cons (ed_is (ed_var rfl) (e := .lst ((mPrinted (Vanbkh.columnWidths w t).length t).map dBs)) (by rw [c1])) (ea_cons (ed_call (ea_cons (ed_call (ea_cons (ed_var rfl) ea_nil) (.mk hv v2)) (ea_cons (ed_var rfl) ea_nil)) (.mk (by rw [hl]; exact v3) h2 (fun x hx => naturals_bd hv x (List.mem_of_mem_take hx)))) ea_nil))) (.mk (ws := Vanbkh.columnWidths w t) hv (by omega) c2)) (hlt rfl) ?_)
  refine sd_seq (sd_asg (ed_sub (ed_lenM (l := t.headers.map Vanbkh.Cell.text) (f := dC) (ed_fld (ed_var rfl) T.k_Table T.n_Table_headers rfl)) (ed_var rfl)) (hlt rfl) ?_)
  rw [List.length_map]
  have tl := tableWith_len (t := t) (ws := Vanbkh.columnWidths w t) hv (by omega) c2
  refine sd_seq (sd_if (et_test (ed_gt (ed_var rfl) ed_int)) (fun h => ?_) (fun h => ?_))
  · have hlt' : (Vanbkh.columnWidths w t).length < t.headers.length := by
      have : ((t.headers.length : Int) - (Vanbkh.visibleColumns w t.headers.length : Nat)) > 0 := by simpa using h
      omega
    have ez : ((t.headers.length - (Vanbkh.columnWidths w t).length : Nat) : Int) = (t.headers.length : Int) - (Vanbkh.visibleColumns w t.headers.length : Nat) := by omega
    have dl := decimal_len (z := ((t.headers.length - (Vanbkh.columnWidths w t).length : Nat) : Int)) (k := 2) (by omega) (by decide)
    refine (sd_appendM (f := dB) (l := Vanbkh.tableWith (Vanbkh.columnWidths w t) t) (x := Vanbkh.ascii "(+" ++ Vanbkh.decimal ((t.headers.length - (Vanbkh.columnWidths w t).length : Nat) : Int) ++ Vanbkh.ascii ")") rfl (ed_is (en_catI (en_catI (ed_call (ea_cons ed_str ea_nil) (.mk (by decide))) (ed_is (ed_call (ea_cons (ed_var rfl) ea_nil) (.mk (by omega))) (e := dB (Vanbkh.decimal ((t.headers.length - (Vanbkh.columnWidths w t).length : Nat) : Int))) (by rw [ez])) ?_).ed (ed_call (ea_cons ed_str ea_nil) (.mk (by decide))) ?_).ed ?_) (by omega) ?_)
    · rw [bI_length]
      show 2 + _ ≤ _
      omega
    · rw [List.length_append, bI_length]
      show 2 + _ + 1 ≤ _
      omega
    · unfold dB
      rw [bI_append, bI_append]
      rfl
    · refine sd_frz 4 rfl (sd_ret (ed_var rfl) ?_)
      show _ = dBs (Vanbkh.tableWith (Vanbkh.columnWidths w t) t ++ (if (Vanbkh.columnWidths w t).length < t.headers.length then [Vanbkh.ascii "(+" ++ Vanbkh.decimal ((t.headers.length - (Vanbkh.columnWidths w t).length : Nat) : Int) ++ Vanbkh.ascii ")"] else []))
      rw [if_pos hlt']
      rfl
  refine sd_next ?_
  refine sd_frz 4 rfl (sd_ret (ed_var rfl) ?_)
  have hlt' : ¬ (Vanbkh.columnWidths w t).length < t.headers.length := by
    have : ¬ ((t.headers.length : Int) - (Vanbkh.visibleColumns w t.headers.length : Nat)) > 0 := by simpa using h
    omega
  show _ = dBs (Vanbkh.tableWith (Vanbkh.columnWidths w t) t ++ (if (Vanbkh.columnWidths w t).length < t.headers.length then [Vanbkh.ascii "(+" ++ Vanbkh.decimal ((t.headers.length - (Vanbkh.columnWidths w t).length : Nat) : Int) ++ Vanbkh.ascii ")"] else []))
  rw [if_neg hlt', List.append_nil]
  rfl
inductive r_full_text : List D → D → Prop
  | mk {t : Vanbkh.Table} (hv : VT t) : r_full_text [dT t] (dB (Vanbkh.tableText t))
abbrev N_full_text : List Str := ["table", "printed", "text", "place", "line"]
theorem sc_full_text : FnScope N_full_text ["table"] (defScope (top 91)) := ⟨rfl, rfl, rfl, by decide +kernel, rfl, by decide +kernel, by decide +kernel⟩
theorem ok_full_text {Pr : Program} {w : World} {K : PySem.W.Frag} {mg : Str → Option Value} {base : Heap} (T : Tx K mg) : Ok Pr w K mg base 8 "full_text" ["table"] (spR K r_full_text) := by
  obtain ⟨fd, F⟩ := T.d_full_text
  refine ⟨⟨fd, fn_pure (N := N_full_text) F sc_full_text (fun ds d h => by cases h; rfl) ?_, F.bindsN fun _ _ _ _ _ _ us hl => match us, hl with | [_], _ => rfl⟩, F.kp, T.g_full_text⟩
  intro cdv A outer s H E hr
  refine ⟨_, (pss_cons (ps_set (i := 1) sc_full_text.nd rfl (Or.inl rfl) (pe_callO (ok_printed_rows T) (hr.mono (by decide)) rfl (pa_cons (pv 0) (pa_cons (pe_callB (r := rLenQ K) call_len_seq (by rfl) T.f_len (by decide +kernel) (pa_cons (pe_fldK (K := K) (pv 0) rfl rfl) pa_nil)) pa_nil))))
 (pss_cons (ps_set (i := 2) sc_full_text.nd rfl (Or.inl rfl) (pe_lst pa_nil))
 (pss_cons (ps_for PassesOwn.never rfl (pi_enum (by rfl) T.f_enumerate (pa_cons (pe_callO (ok_framed_lines T) (hr.mono (by decide)) rfl (pa_cons (pv 0) (pa_cons (pv 1) (pa_cons (pe_callO (ok_natural_widths T) (hr.mono (by decide)) rfl (pa_cons (pv 1) pa_nil)) pa_nil)))) pa_nil)) (pg_tup rfl (pgs_cons (pg_name (i := 3) sc_full_text.nd rfl (Or.inl rfl)) (pgs_cons (pg_name (i := 4) sc_full_text.nd rfl (Or.inl rfl)) pgs_nil)))
 (pss_cons (ps_if (pt_cmpR op_gt (pv 3) pe_int (nomark _))
 (pss_one (ps_expr (pe_bm PySem.F.plainAttrs_list PySem.F.slot_list_append PySem.F.type_list_append mt_append (pv 2) (pa_cons (pe_gint rfl T.i_LINE_FEED) pa_nil))))
 pss_nil)
 (pss_one (ps_expr (pe_bm PySem.F.plainAttrs_list PySem.F.slot_list_extend PySem.F.type_list_extend mt_extend (pv 2) (pa_cons (pv 4) pa_nil))))))
 (pss_one (ps_ret (pv 2)))))), ?_⟩
  intro B ds d hR
  obtain ⟨⟩ := hR
  rename_i t hv
  have nl := naturals_len t
  have nb := naturals_bd hv
  have hi8 := hv.hi
  have tl := tableWith_len (t := t) (ws := Vanbkh.naturalWidths t) hv (by omega) nb
  refine sd_seq (sd_asg (ed_call (ea_cons (ed_var rfl) (ea_cons (ed_is (ed_lenM (l := t.headers.map Vanbkh.Cell.text) (f := dC) (ed_fld (ed_var rfl) T.k_Table T.n_Table_headers rfl)) (e := .int (t.headers.length : Nat)) (by rw [List.length_map])) ea_nil)) (.mk hv)) (hlt rfl) ?_)
  refine sd_seq (sd_asgN (en_lst0I) (hlt rfl) ?_)
  refine sd_seq (sd_for (dw_enumL (f := dB) (l := Vanbkh.tableWith (Vanbkh.naturalWidths t) t) (en_callN (ea_cons (ed_var rfl) (ea_cons (ed_is (ed_var rfl) (e := .lst ((mPrinted (Vanbkh.naturalWidths t).length t).map dBs)) (by rw [nl])) (ea_cons (ed_is (ed_call (ea_cons (ed_var rfl) ea_nil) (.mk hv (Nat.le_refl _))) (e := dN (Vanbkh.naturalWidths t)) (by rw [naturals_all])) ea_nil))) (.mk (ws := Vanbkh.naturalWidths t) hv (by omega) nb)).ed) (fun i δ => ∃ s1 s2, δ = [.sh (dT t), .sh (.lst ((mPrinted t.headers.length t).map dBs)), .own (dI (bI (Vanbkh.join [10] ((Vanbkh.tableWith (Vanbkh.naturalWidths t) t).take i)))), s1, s2]) ?_ ?_ ?_)
  · exact ⟨_, _, rfl⟩
  · rintro i δ hi ⟨s1, s2, rfl⟩
    have ewi : (Vanbkh.tableWith (Vanbkh.naturalWidths t) t).getD i default = (Vanbkh.tableWith (Vanbkh.naturalWidths t) t)[i] := by rw [List.getD_eq_getElem?_getD, List.getElem?_eq_getElem hi]; rfl
    rw [nth_mapD hi, ewi]
    have jl := join_len (c := 3241) (l := (Vanbkh.tableWith (Vanbkh.naturalWidths t) t).take i) fun x hx => tl.2 x (List.mem_of_mem_take hx)
    have jb : (3241 + 1) * ((Vanbkh.tableWith (Vanbkh.naturalWidths t) t).take i).length ≤ 3242 * 28 := Nat.mul_le_mul_left _ (by rw [List.length_take]; omega)
    have xl := tl.2 _ (List.getElem_mem hi)
    refine gd_tup2 (hlt rfl) (hlt rfl) ?_
    refine sd_cut [.sh (dT t), .sh (.lst ((mPrinted t.headers.length t).map dBs)), .own (dI (bI (Vanbkh.join [10] ((Vanbkh.tableWith (Vanbkh.naturalWidths t) t).take i)) ++ (if i = 0 then [] else [10]))), .sh (.int (i : Nat)), .sh (dB (Vanbkh.tableWith (Vanbkh.naturalWidths t) t)[i])] (sd_if (et_test (ed_gt (ed_var rfl) ed_int)) (fun h => ?_) (fun h => ?_)) ?_
    · refine (sd_appendI (l := bI (Vanbkh.join [10] ((Vanbkh.tableWith (Vanbkh.naturalWidths t) t).take i))) rfl ed_int (by rw [bI_length]; omega) ?_)
      have : ¬ i = 0 := by
        have : (i : Int) > 0 := by simpa using h
        omega
      rw [if_neg this]
      rfl
    · refine sd_next ?_
      have : i = 0 := by
        have : ¬ (i : Int) > 0 := by simpa using h
        omega
      rw [if_pos this, List.append_nil]
      rfl
    · have e0 : (if i = 0 then ([] : List Int) else [10]).length ≤ 1 := by split <;> simp
      refine (sd_extendI (l := bI (Vanbkh.join [10] ((Vanbkh.tableWith (Vanbkh.naturalWidths t) t).take i)) ++ (if i = 0 then [] else [10])) (m := bI (Vanbkh.tableWith (Vanbkh.naturalWidths t) t)[i]) rfl (ed_var rfl) ?_ ?_)
      · rw [List.length_append, bI_length, bI_length]
        omega
      · refine ⟨.sh (.int (i : Nat)), .sh (dB (Vanbkh.tableWith (Vanbkh.naturalWidths t) t)[i]), ?_⟩
        rw [take_snoc hi, join_snoc]
        by_cases z : i = 0
        · subst z
          rfl
        · have hne : ¬ (Vanbkh.tableWith (Vanbkh.naturalWidths t) t).take i = [] := fun z2 => by
            have := congrArg List.length z2
            rw [List.length_take, List.length_nil] at this
            omega
          rw [if_neg z, if_neg hne, bI_append, bI_append]
          rfl
  rintro δ ⟨s1, s2, rfl⟩
  refine sd_frz 2 rfl (sd_ret (ed_var rfl) ?_)
  show D.lst _ = D.lst _
  rw [List.take_length]
  rfl
end Rl
namespace Rl
open PySem PySem.Spec PyProof.Rows L2 Dg

def fv_Heading : List V → List (Str × V) := fun ws => match ws with | [v0, v1] => [("kind", .int 0), ("level", v0), ("text", v1)] | _ => []
abbrev N_Heading : List Str := ["self", "level", "text"]
theorem sc_Heading : FnScope N_Heading ["self", "level", "text"] (defScope (inClass (top 48) 0)) := ⟨rfl, rfl, rfl, by decide +kernel, rfl, by decide +kernel, by decide +kernel⟩
theorem ok_Heading {Pr : Program} {w : World} {K : PySem.W.Frag} {mg : Str → Option Value} {base : Heap} (T : Tx K mg) : OkI Pr w K mg base 1 "Heading" ["self", "level", "text"] (spI K "Heading" 2 fv_Heading) := by
  obtain ⟨fd, F⟩ := T.d_Heading
  refine ⟨⟨_, fd, T.m_Heading, ?_, F.bindsN fun _ _ _ _ _ _ us hl => match us, hl with | [_, _, _], _ => rfl⟩, T.g_Heading⟩
  refine F.ok sc_Heading (fun vs H Q E h => ?_) (fun cdv A outer s H vs Q E hr h => ⟨_, PSs.nox (pss_cons (ps_fld (pv 0) pe_int rfl)
 (pss_cons (ps_fld (pv 0) (pv 1) rfl)
 (pss_one (ps_fld (pv 0) (pv 2) rfl)))), ?_⟩)
  · obtain ⟨x, dx, ws, rfl, hl, _⟩ := h
    show ws.length + 1 = _
    rw [hl] <;> rfl
  · obtain ⟨x, dx, ws, rfl, hl, hx, q⟩ := h
    match ws, hl with
    | [v0, v1], _ =>
      refine ⟨_, rfl, x, _, dx, _, rfl, hx, T.k_Heading, T.n_Heading_kind, (by show 0 < 1000; decide), ?_⟩
      refine ⟨_, rfl, _, rfl, x, _, dx, _, rfl, upd_same, T.k_Heading, T.n_Heading_level, (by show 1 < 1000; decide), ?_⟩
      refine ⟨_, rfl, _, rfl, x, _, dx, _, rfl, upd_same, T.k_Heading, T.n_Heading_text, (by show 2 < 1000; decide), ?_⟩
      simp only [upd_upd]
      exact q
def fv_Paragraph : List V → List (Str × V) := fun ws => match ws with | [v0] => [("kind", .int 1), ("text", v0)] | _ => []
abbrev N_Paragraph : List Str := ["self", "text"]
theorem sc_Paragraph : FnScope N_Paragraph ["self", "text"] (defScope (inClass (top 49) 0)) := ⟨rfl, rfl, rfl, by decide +kernel, rfl, by decide +kernel, by decide +kernel⟩
theorem ok_Paragraph {Pr : Program} {w : World} {K : PySem.W.Frag} {mg : Str → Option Value} {base : Heap} (T : Tx K mg) : OkI Pr w K mg base 1 "Paragraph" ["self", "text"] (spI K "Paragraph" 1 fv_Paragraph) := by
  obtain ⟨fd, F⟩ := T.d_Paragraph
  refine ⟨⟨_, fd, T.m_Paragraph, ?_, F.bindsN fun _ _ _ _ _ _ us hl => match us, hl with | [_, _], _ => rfl⟩, T.g_Paragraph⟩
  refine F.ok sc_Paragraph (fun vs H Q E h => ?_) (fun cdv A outer s H vs Q E hr h => ⟨_, PSs.nox (pss_cons (ps_fld (pv 0) pe_int rfl)
 (pss_one (ps_fld (pv 0) (pv 1) rfl))), ?_⟩)
  · obtain ⟨x, dx, ws, rfl, hl, _⟩ := h
    show ws.length + 1 = _
    rw [hl] <;> rfl
  · obtain ⟨x, dx, ws, rfl, hl, hx, q⟩ := h
    match ws, hl with
    | [v0], _ =>
      refine ⟨_, rfl, x, _, dx, _, rfl, hx, T.k_Paragraph, T.n_Paragraph_kind, (by show 0 < 1000; decide), ?_⟩
      refine ⟨_, rfl, _, rfl, x, _, dx, _, rfl, upd_same, T.k_Paragraph, T.n_Paragraph_text, (by show 1 < 1000; decide), ?_⟩
      simp only [upd_upd]
      exact q
def fv_Table : List V → List (Str × V) := fun ws => match ws with | [v0, v1] => [("kind", .int 2), ("headers", v0), ("rows", v1)] | _ => []
abbrev N_Table : List Str := ["self", "headers", "rows"]
theorem sc_Table : FnScope N_Table ["self", "headers", "rows"] (defScope (inClass (top 50) 0)) := ⟨rfl, rfl, rfl, by decide +kernel, rfl, by decide +kernel, by decide +kernel⟩
theorem ok_Table {Pr : Program} {w : World} {K : PySem.W.Frag} {mg : Str → Option Value} {base : Heap} (T : Tx K mg) : OkI Pr w K mg base 1 "Table" ["self", "headers", "rows"] (spI K "Table" 2 fv_Table) := by
  obtain ⟨fd, F⟩ := T.d_Table
  refine ⟨⟨_, fd, T.m_Table, ?_, F.bindsN fun _ _ _ _ _ _ us hl => match us, hl with | [_, _, _], _ => rfl⟩, T.g_Table⟩
  refine F.ok sc_Table (fun vs H Q E h => ?_) (fun cdv A outer s H vs Q E hr h => ⟨_, PSs.nox (pss_cons (ps_fld (pv 0) pe_int rfl)
 (pss_cons (ps_fld (pv 0) (pv 1) rfl)
 (pss_one (ps_fld (pv 0) (pv 2) rfl)))), ?_⟩)
  · obtain ⟨x, dx, ws, rfl, hl, _⟩ := h
    show ws.length + 1 = _
    rw [hl] <;> rfl
  · obtain ⟨x, dx, ws, rfl, hl, hx, q⟩ := h
    match ws, hl with
    | [v0, v1], _ =>
      refine ⟨_, rfl, x, _, dx, _, rfl, hx, T.k_Table, T.n_Table_kind, (by show 0 < 1000; decide), ?_⟩
      refine ⟨_, rfl, _, rfl, x, _, dx, _, rfl, upd_same, T.k_Table, T.n_Table_headers, (by show 1 < 1000; decide), ?_⟩
      refine ⟨_, rfl, _, rfl, x, _, dx, _, rfl, upd_same, T.k_Table, T.n_Table_rows, (by show 2 < 1000; decide), ?_⟩
      simp only [upd_upd]
      exact q
def fv_Plot : List V → List (Str × V) := fun ws => match ws with | [v0, v1] => [("kind", .int 3), ("height", v0), ("points", v1)] | _ => []
abbrev N_Plot : List Str := ["self", "height", "points"]
theorem sc_Plot : FnScope N_Plot ["self", "height", "points"] (defScope (inClass (top 51) 0)) := ⟨rfl, rfl, rfl, by decide +kernel, rfl, by decide +kernel, by decide +kernel⟩
theorem ok_Plot {Pr : Program} {w : World} {K : PySem.W.Frag} {mg : Str → Option Value} {base : Heap} (T : Tx K mg) : OkI Pr w K mg base 1 "Plot" ["self", "height", "points"] (spI K "Plot" 2 fv_Plot) := by
  obtain ⟨fd, F⟩ := T.d_Plot
  refine ⟨⟨_, fd, T.m_Plot, ?_, F.bindsN fun _ _ _ _ _ _ us hl => match us, hl with | [_, _, _], _ => rfl⟩, T.g_Plot⟩
  refine F.ok sc_Plot (fun vs H Q E h => ?_) (fun cdv A outer s H vs Q E hr h => ⟨_, PSs.nox (pss_cons (ps_fld (pv 0) pe_int rfl)
 (pss_cons (ps_fld (pv 0) (pv 1) rfl)
 (pss_one (ps_fld (pv 0) (pv 2) rfl)))), ?_⟩)
  · obtain ⟨x, dx, ws, rfl, hl, _⟩ := h
    show ws.length + 1 = _
    rw [hl] <;> rfl
  · obtain ⟨x, dx, ws, rfl, hl, hx, q⟩ := h
    match ws, hl with
    | [v0, v1], _ =>
      refine ⟨_, rfl, x, _, dx, _, rfl, hx, T.k_Plot, T.n_Plot_kind, (by show 0 < 1000; decide), ?_⟩
      refine ⟨_, rfl, _, rfl, x, _, dx, _, rfl, upd_same, T.k_Plot, T.n_Plot_height, (by show 1 < 1000; decide), ?_⟩
      refine ⟨_, rfl, _, rfl, x, _, dx, _, rfl, upd_same, T.k_Plot, T.n_Plot_points, (by show 2 < 1000; decide), ?_⟩
      simp only [upd_upd]
      exact q
def fv_Check : List V → List (Str × V) := fun ws => match ws with | [v0, v1] => [("kind", .int 4), ("passed", v0), ("text", v1)] | _ => []
abbrev N_Check : List Str := ["self", "passed", "text"]
theorem sc_Check : FnScope N_Check ["self", "passed", "text"] (defScope (inClass (top 52) 0)) := ⟨rfl, rfl, rfl, by decide +kernel, rfl, by decide +kernel, by decide +kernel⟩
theorem ok_Check {Pr : Program} {w : World} {K : PySem.W.Frag} {mg : Str → Option Value} {base : Heap} (T : Tx K mg) : OkI Pr w K mg base 1 "Check" ["self", "passed", "text"] (spI K "Check" 2 fv_Check) := by
  obtain ⟨fd, F⟩ := T.d_Check
  refine ⟨⟨_, fd, T.m_Check, ?_, F.bindsN fun _ _ _ _ _ _ us hl => match us, hl with | [_, _, _], _ => rfl⟩, T.g_Check⟩
  refine F.ok sc_Check (fun vs H Q E h => ?_) (fun cdv A outer s H vs Q E hr h => ⟨_, PSs.nox (pss_cons (ps_fld (pv 0) pe_int rfl)
 (pss_cons (ps_fld (pv 0) (pv 1) rfl)
 (pss_one (ps_fld (pv 0) (pv 2) rfl)))), ?_⟩)
  · obtain ⟨x, dx, ws, rfl, hl, _⟩ := h
    show ws.length + 1 = _
    rw [hl] <;> rfl
  · obtain ⟨x, dx, ws, rfl, hl, hx, q⟩ := h
    match ws, hl with
    | [v0, v1], _ =>
      refine ⟨_, rfl, x, _, dx, _, rfl, hx, T.k_Check, T.n_Check_kind, (by show 0 < 1000; decide), ?_⟩
      refine ⟨_, rfl, _, rfl, x, _, dx, _, rfl, upd_same, T.k_Check, T.n_Check_passed, (by show 1 < 1000; decide), ?_⟩
      refine ⟨_, rfl, _, rfl, x, _, dx, _, rfl, upd_same, T.k_Check, T.n_Check_text, (by show 2 < 1000; decide), ?_⟩
      simp only [upd_upd]
      exact q
def fv_BarChart : List V → List (Str × V) := fun ws => match ws with | [v0] => [("kind", .int 5), ("bars", v0)] | _ => []
abbrev N_BarChart : List Str := ["self", "bars"]
theorem sc_BarChart : FnScope N_BarChart ["self", "bars"] (defScope (inClass (top 53) 0)) := ⟨rfl, rfl, rfl, by decide +kernel, rfl, by decide +kernel, by decide +kernel⟩
theorem ok_BarChart {Pr : Program} {w : World} {K : PySem.W.Frag} {mg : Str → Option Value} {base : Heap} (T : Tx K mg) : OkI Pr w K mg base 1 "BarChart" ["self", "bars"] (spI K "BarChart" 1 fv_BarChart) := by
  obtain ⟨fd, F⟩ := T.d_BarChart
  refine ⟨⟨_, fd, T.m_BarChart, ?_, F.bindsN fun _ _ _ _ _ _ us hl => match us, hl with | [_, _], _ => rfl⟩, T.g_BarChart⟩
  refine F.ok sc_BarChart (fun vs H Q E h => ?_) (fun cdv A outer s H vs Q E hr h => ⟨_, PSs.nox (pss_cons (ps_fld (pv 0) pe_int rfl)
 (pss_one (ps_fld (pv 0) (pv 1) rfl))), ?_⟩)
  · obtain ⟨x, dx, ws, rfl, hl, _⟩ := h
    show ws.length + 1 = _
    rw [hl] <;> rfl
  · obtain ⟨x, dx, ws, rfl, hl, hx, q⟩ := h
    match ws, hl with
    | [v0], _ =>
      refine ⟨_, rfl, x, _, dx, _, rfl, hx, T.k_BarChart, T.n_BarChart_kind, (by show 0 < 1000; decide), ?_⟩
      refine ⟨_, rfl, _, rfl, x, _, dx, _, rfl, upd_same, T.k_BarChart, T.n_BarChart_bars, (by show 1 < 1000; decide), ?_⟩
      simp only [upd_upd]
      exact q
def fv_Call : List V → List (Str × V) := fun ws => match ws with | [v0, v1, v2] => [("number", v0), ("integers", v1), ("listed", v2)] | _ => []
abbrev N_Call : List Str := ["self", "number", "integers", "listed"]
theorem sc_Call : FnScope N_Call ["self", "number", "integers", "listed"] (defScope (inClass (top 127) 0)) := ⟨rfl, rfl, rfl, by decide +kernel, rfl, by decide +kernel, by decide +kernel⟩
theorem ok_Call {Pr : Program} {w : World} {K : PySem.W.Frag} {mg : Str → Option Value} {base : Heap} (T : Tx K mg) : OkI Pr w K mg base 1 "Call" ["self", "number", "integers", "listed"] (spI K "Call" 3 fv_Call) := by
  obtain ⟨fd, F⟩ := T.d_Call
  refine ⟨⟨_, fd, T.m_Call, ?_, F.bindsN fun _ _ _ _ _ _ us hl => match us, hl with | [_, _, _, _], _ => rfl⟩, T.g_Call⟩
  refine F.ok sc_Call (fun vs H Q E h => ?_) (fun cdv A outer s H vs Q E hr h => ⟨_, PSs.nox (pss_cons (ps_fld (pv 0) (pv 1) rfl)
 (pss_cons (ps_fld (pv 0) (pv 2) rfl)
 (pss_one (ps_fld (pv 0) (pv 3) rfl)))), ?_⟩)
  · obtain ⟨x, dx, ws, rfl, hl, _⟩ := h
    show ws.length + 1 = _
    rw [hl] <;> rfl
  · obtain ⟨x, dx, ws, rfl, hl, hx, q⟩ := h
    match ws, hl with
    | [v0, v1, v2], _ =>
      refine ⟨_, rfl, _, rfl, x, _, dx, _, rfl, hx, T.k_Call, T.n_Call_number, (by show 0 < 1000; decide), ?_⟩
      refine ⟨_, rfl, _, rfl, x, _, dx, _, rfl, upd_same, T.k_Call, T.n_Call_integers, (by show 1 < 1000; decide), ?_⟩
      refine ⟨_, rfl, _, rfl, x, _, dx, _, rfl, upd_same, T.k_Call, T.n_Call_listed, (by show 2 < 1000; decide), ?_⟩
      simp only [upd_upd]
      exact q
end Rl
namespace Dg
open PySem PySem.Spec PyProof.Rows L2
section
variable {K : PySem.W.Frag} {B : Bs} {G G' H H' : Hp} {σ : L2.St} {δ : List Sl} {X Y : List Addr} {ta : TA} {te tb tc tx : TE} {tt : TT} {d e : D} {t u : TS} {P : Po}
def obD (it : Str × List (Str × D)) : D := .obj it.1 it.2
theorem SA.st {i : Nat} {p : Addr} {xs : List Addr} {its : List (Str × List (Str × D))} (S : SA K B G H σ δ X) (h : δ[i]? = some (.st p xs its)) : σ[i]? = some (some (.ref p)) ∧ H p = some (.lst (xs.map V.ref)) ∧ Paired (ItA K G H) xs its ∧ (p :: xs).Nodup ∧ ∀ q ∈ p :: xs, G q = none ∧ H q ≠ none := by
  obtain ⟨F, s1, s2, s3, s4⟩ := S.sl
  obtain ⟨o, F1, Fi, F2, e1, e2, x, k⟩ := s1.cut h
  subst e1
  cases x with
  | st n a b =>
    refine ⟨e2, a, b, ?_, fun q m => s3 q ?_⟩
    · rw [List.append_assoc, List.nodup_append] at s2
      have := s2.2.1
      rw [List.append_assoc, List.nodup_append] at this
      exact this.1
    · simp only [List.mem_append]
      exact .inl (.inr (.inl m))
def frzH (Z : List Addr) (G H : Hp) : Hp := fun a => if a ∈ Z then H a else G a
def thaw (Z : List Addr) (G : Hp) : Hp := fun a => if a ∈ Z then none else G a
theorem frz_in {Z : List Addr} {a : Addr} (h : a ∈ Z) : frzH Z G H a = H a := by unfold frzH; rw [if_pos h]
theorem frz_out {Z : List Addr} {a : Addr} (h : a ∉ Z) : frzH Z G H a = G a := by unfold frzH; rw [if_neg h]
theorem thaw_in {Z : List Addr} {a : Addr} (h : a ∈ Z) : thaw Z G a = none := by unfold thaw; rw [if_pos h]
theorem thaw_out {Z : List Addr} {a : Addr} (h : a ∉ Z) : thaw Z G a = G a := by unfold thaw; rw [if_neg h]
theorem frz_ex {Z : List Addr} (hz : ∀ q ∈ Z, G q = none) : Ex G (frzH Z G H) := fun a o h => by
  rw [frz_out (fun m => by rw [hz a m] at h; cases h)]
  exact h
theorem frz_H {Z : List Addr} (e : Ex G H) : Ex (frzH Z G H) H := fun a o h => by
  by_cases m : a ∈ Z
  · rw [frz_in m] at h
    exact h
  · rw [frz_out m] at h
    exact e a o h
theorem SA.thawed {Z : List Addr} (S : SA K B G H σ δ X) (hz : ∀ q ∈ Z, G q = none) (e1 : Ex (frzH Z G H) G') (e2 : Ex H H') (e3 : Ex G' H') (e4 : ∀ a o, H a = some o → frzH Z G H a = none → G' a = none) : SA K B (thaw Z G') H' σ δ X ∧ Ex G (thaw Z G') := by
  have x1 : Ex G (thaw Z G') := fun a o h => by
    have m : a ∉ Z := fun m => by rw [hz a m] at h; cases h
    rw [thaw_out m]
    exact e1 _ _ (by rw [frz_out m]; exact h)
  refine ⟨S.after x1 e2 (fun a o h => ?_) (fun a o h g => ?_), x1⟩
  · by_cases m : a ∈ Z
    · rw [thaw_in m] at h
      cases h
    · rw [thaw_out m] at h
      exact e3 a o h
  · by_cases m : a ∈ Z
    · exact thaw_in m
    · rw [thaw_out m]
      exact e4 a o h (by rw [frz_out m]; exact g)
theorem paired_refs {Z : List Addr} : ∀ {xs : List Addr} {its : List (Str × List (Str × D))}, Paired (ItA K G H) xs its → (∀ q ∈ xs, q ∈ Z) → Ex G (frzH Z G H) → Ats K (frzH Z G H) (xs.map V.ref) (its.map obD)
  | _, _, .nil, _, _ => .nil
  | _, _, .cons r t, h, e => by
    obtain ⟨dx, vs, h1, h2⟩ := r
    exact .cons (.obj (by rw [frz_in (h _ (by simp))]; exact h1) (h2.mono e)) (paired_refs t (fun q m => h q (by simp [m])) e)
/-- the state handed on as a datum; the answer is no address -/
theorem ed_callS {i : Nat} {p : Addr} {xs : List Addr} {its : List (Str × List (Str × D))} {R : List D → D → Prop} {E : XK} {ds : List D} {b : Bool} (hi : δ[i]? = some (.st p xs its)) (h : EA K B δ ta ds) (hR : R (.lst (its.map obD) :: ds) (.bl b)) :
    ED K B δ (tCall (spR K R) [] E (tCons (tVar i) ta)) (.bl b) := fun G H σ X S Q k => by
  obtain ⟨e1, _⟩ := S.st hi
  refine ⟨_, e1, h G H σ X S _ fun vs G1 H1 x1 x2 S1 a => ?_⟩
  obtain ⟨_, g1, g2, g3, g4⟩ := S1.st hi
  have hz : ∀ q ∈ p :: xs, G1 q = none := fun q m => (g4 q m).1
  have ex := frz_ex (H := H1) hz
  rw [List.append_nil]
  refine ⟨frzH (p :: xs) G1 H1, _, _, frz_H S1.rel.s, .cons (.lst (by rw [frz_in (by simp)]; exact g1) (paired_refs g2 (fun q m => by simp [m]) ex)) (a.mono ex), hR, fun v G' H' f1 f2 f3 f4 av => ?_⟩
  obtain ⟨S2, x3⟩ := S1.thawed hz f1 f2 f3 f4
  rw [av.bl_eq]
  exact k _ _ _ (x1.trans x3) (x2.trans f2) S2 .bl
/-- one of its objects handed on -/
theorem ed_callAl {i j k : Nat} {p x : Addr} {xs : List Addr} {its : List (Str × List (Str × D))} {it : Str × List (Str × D)} {R : List D → D → Prop} {E : XK} {ds : List D} {b : Bool} (hi : δ[i]? = some (.st p xs its)) (hj : δ[j]? = some (.al x)) (hx : xs[k]? = some x) (ht : its[k]? = some it) (h : EA K B δ ta ds) (hR : R (obD it :: ds) (.bl b)) :
    ED K B δ (tCall (spR K R) [] E (tCons (tVar j) ta)) (.bl b) := fun G H σ X S Q kk => by
  have e1 : σ[j]? = some (some (.ref x)) := by
    obtain ⟨F, s1, _⟩ := S.sl
    obtain ⟨o, F1, Fi, F2, _, e2, y, _⟩ := s1.cut hj
    cases y
    exact e2
  refine ⟨_, e1, h G H σ X S _ fun vs G1 H1 x1 x2 S1 a => ?_⟩
  obtain ⟨_, g1, g2, g3, g4⟩ := S1.st hi
  have hz : ∀ q ∈ [x], G1 q = none := fun q m => by
    have : q = x := by simpa using m
    rw [this]
    exact (g4 x (List.mem_cons_of_mem _ (List.mem_of_getElem? hx))).1
  have ex := frz_ex (H := H1) hz
  obtain ⟨x', hx', dx, fs, h1, h2⟩ := paired_at g2 ht
  rw [hx] at hx'
  cases hx'
  rw [List.append_nil]
  refine ⟨frzH [x] G1 H1, _, _, frz_H S1.rel.s, .cons (.obj (by rw [frz_in (by simp)]; exact h1) (h2.mono ex)) (a.mono ex), hR, fun v G' H' f1 f2 f3 f4 av => ?_⟩
  obtain ⟨S2, x3⟩ := S1.thawed hz f1 f2 f3 f4
  rw [av.bl_eq]
  exact kk _ _ _ (x1.trans x3) (x2.trans f2) S2 .bl
theorem at_thaw {Z : List Addr} {v : V} {l : List Int} (a : At K G v (.lst (dI l))) (h : ∀ q ∈ Z, G q ≠ some (.lst (l.map V.int))) : At K (thaw Z G) v (.lst (dI l)) := by
  obtain ⟨q, vs, rfl, h1, h2⟩ := a.lst_eq
  have e := h2.ints_eq
  subst e
  have m : q ∉ Z := fun m => h q m h1
  exact .lst (by rw [thaw_out m]; exact h1) (Ats.of_ints l)
theorem ItA.notL {x : Addr} {it : Str × List (Str × D)} (h : ItA K G H x it) (us : List V) : H x ≠ some (.lst us) := by
  obtain ⟨dx, vs, h1, _⟩ := h
  rw [h1]
  simp
/-- the state handed on as a datum; the answer, a list of whole numbers that isn't empty, is given back -/
theorem sd_retSh {i : Nat} {p : Addr} {xs : List Addr} {its : List (Str × List (Str × D))} {R : List D → D → Prop} {E : XK} {ds : List D} {l : List Int} (hi : δ[i]? = some (.st p xs its)) (h : EA K B δ ta ds) (hR : R (.lst (its.map obD) :: ds) (.lst (dI l))) (hl : l ≠ []) (q : P.r (.lst (dI l)) δ) :
    SD K B δ (tRet (tCall (spR K R) [] E (tCons (tVar i) ta))) P := fun G H σ S E' k1 k2 k3 k4 => by
  obtain ⟨e1, _⟩ := S.st hi
  refine ⟨_, e1, h G H σ [] S _ fun vs G1 H1 x1 x2 S1 a => ?_⟩
  obtain ⟨_, g1, g2, g3, g4⟩ := S1.st hi
  have hz : ∀ q ∈ p :: xs, G1 q = none := fun q m => (g4 q m).1
  have ex := frz_ex (H := H1) hz
  rw [List.append_nil]
  refine ⟨frzH (p :: xs) G1 H1, _, _, frz_H S1.rel.s, .cons (.lst (by rw [frz_in (by simp)]; exact g1) (paired_refs g2 (fun q m => by simp [m]) ex)) (a.mono ex), hR, fun v G' H' f1 f2 f3 f4 av => ?_⟩
  obtain ⟨S2, x3⟩ := S1.thawed hz f1 f2 f3 f4
  refine k2 v _ H' σ δ _ (x1.trans x3) S2 (at_thaw av fun q m z => ?_) q
  rcases List.mem_cons.mp m with rfl | m
  · have := f1 q _ (by rw [frz_in (by simp)]; exact g1)
    rw [this] at z
    have z' : xs.map V.ref = l.map V.int := HO.lst.inj (Option.some.inj z)
    obtain ⟨a0, l0, rfl⟩ := List.exists_cons_of_ne_nil hl
    cases xs with
    | nil => cases z'
    | cons b bs => cases (List.cons.inj z').1
  · have hm : ∀ {xs : List Addr} {its : List (Str × List (Str × D))}, Paired (ItA K G1 H1) xs its → q ∈ xs → ∃ it, ItA K G1 H1 q it := by
      intro xs its b
      induction b with
      | nil => intro m; simp at m
      | cons r t ih =>
        intro m
        rcases List.mem_cons.mp m with rfl | m
        · exact ⟨_, r⟩
        · exact ih m
    obtain ⟨it, dx, us, h1, _⟩ := hm g2 m
    have := f1 q _ (by rw [frz_in (by simp [m])]; exact h1)
    rw [this] at z
    cases z
theorem ed_lenSt {i : Nat} {p : Addr} {xs : List Addr} {its : List (Str × List (Str × D))} (h : δ[i]? = some (.st p xs its)) : ED K B δ (tCB (rLenQ K) (tCons (tVar i) tNil)) (.int its.length) := fun G H σ X S Q k => by
  obtain ⟨e1, g1, g2, _⟩ := S.st h
  refine ⟨_, e1, p, xs.map V.ref, rfl, .inl (.of g1), ?_⟩
  rw [List.length_map, paired_len g2]
  exact k _ _ _ (Ex.refl _) (Ex.refl _) S .int
/-- table = items[index] -/
theorem sd_asgIx {i j k : Nat} {p x : Addr} {xs : List Addr} {its : List (Str × List (Str × D))} {z : Int} (hi : δ[i]? = some (.st p xs its)) (hb : ED K B δ tb (.int z)) (hz : atI xs z = some x) (hj : j < δ.length) (q : P.n (δ.set j (.al x))) (hji : j ≠ i) (hf : ∃ s, δ[j]? = some s ∧ s.flat = true) : SD K B δ (tAsg (tOp (rIxL K) (tVar i) tb) (gName j)) P := fun G H σ S E k1 k2 k3 k4 => by
  obtain ⟨e1, _⟩ := S.st hi
  refine ⟨_, e1, hb G H σ [] S _ fun v G1 H1 x1 x2 S1 a => ?_⟩
  obtain ⟨_, g1, g2, _⟩ := S1.st hi
  refine ⟨p, _, z, .ref x, rfl, a.int_eq, .of g1, ?_, ?_⟩
  · unfold L2.atI at hz ⊢
    rw [List.length_map]
    cases w : ixN xs.length z with
    | none => rw [w] at hz; cases hz
    | some m =>
      rw [w] at hz
      have hz' : xs[m]? = some x := hz
      show (xs.map V.ref)[m]? = _
      rw [List.getElem?_map, hz']
      rfl
  · refine k1 G1 H1 _ _ x1 ?_ q
    obtain ⟨F, s1, s2, s3, s4⟩ := S1.sl
    obtain ⟨o, F1, Fi, F2, f1, f2, y, kk⟩ := s1.cut (i := j) (s := δ[j]) (by simp [hj])
    subst f1
    refine ⟨S1.rel, F1 ++ ([] ++ F2), kk H1 (some (.ref x)) (.al x) [] (fun a u e _ => e) .al, ?_, fun q m => s3 q ?_, s4⟩
    · refine s2.sublist ?_
      simp only [List.nil_append, List.append_assoc]
      exact (List.Sublist.refl F1).append (List.sublist_append_right Fi (F2 ++ []))
    · simp only [List.nil_append, List.mem_append] at m ⊢
      rcases m with (m | m) | m
      · exact .inl (.inl m)
      · exact .inl (.inr (.inr m))
      · exact .inr m
theorem SA.al {j : Nat} {x : Addr} (S : SA K B G H σ δ X) (hj : δ[j]? = some (.al x)) : σ[j]? = some (some (.ref x)) := by
  obtain ⟨F, s1, _⟩ := S.sl
  obtain ⟨o, F1, Fi, F2, _, e2, y, _⟩ := s1.cut hj
  cases y
  exact e2
/-- a field of one of its objects -/
theorem ed_fldA {i j k : Nat} {p x : Addr} {xs : List Addr} {its : List (Str × List (Str × D))} {it : Str × List (Str × D)} {f : Str} (hi : δ[i]? = some (.st p xs its)) (hj : δ[j]? = some (.al x)) (hx : xs[k]? = some x) (ht : its[k]? = some it) (hc : Cls K (He.ga K it.1)) (hn : NoAttr K (He.ga K it.1) f) (hl : it.2.lookup f = some d) :
    ED K B δ (tFld K (tVar j) f) d := fun G H σ X S Q kk => by
  obtain ⟨_, g1, g2, _⟩ := S.st hi
  obtain ⟨x', hx', dx, fs, h1, h2⟩ := paired_at g2 ht
  rw [hx] at hx'
  cases hx'
  obtain ⟨w, q1, q2⟩ := h2.get hl
  exact ⟨_, S.al hj, x, _, dx, fs, w, rfl, h1, hc, hn, q1, kk _ _ _ (Ex.refl _) (Ex.refl _) S q2⟩
theorem ed_isiA {i j k : Nat} {p x : Addr} {xs : List Addr} {its : List (Str × List (Str × D))} {it : Str × List (Str × D)} {c2 : Str} {b : Bool} (hi : δ[i]? = some (.st p xs its)) (hj : δ[j]? = some (.al x)) (hx : xs[k]? = some x) (ht : its[k]? = some it) (T : TyK K it.1) (hk : PySem.W.kitOne K (.ref (He.ga K it.1)) (.ref (He.ga K c2)) = some b) :
    ED K B δ (tCB (rIsi K) (tCons (tVar j) (tCons (tC (.ref (He.ga K c2))) tNil))) (.bl b) := fun G H σ X S Q kk => by
  obtain ⟨_, g1, g2, _⟩ := S.st hi
  obtain ⟨x', hx', dx, fs, h1, h2⟩ := paired_at g2 ht
  rw [hx] at hx'
  cases hx'
  exact ⟨_, S.al hj, .ref x, _, _, _, b, rfl, .own _, .base (.ins h1 T.cl T.ha T.hn T.htk T.hm), hk, kk _ _ _ (Ex.refl _) (Ex.refl _) S .bl⟩
end
end Dg
namespace Dg
open PySem PySem.Spec PyProof.Rows L2
section
variable {K : PySem.W.Frag} {B : Bs} {G G' H H' : Hp} {σ : L2.St} {δ : List Sl} {X Y : List Addr} {ta : TA} {te tb tc tx : TE} {tt : TT} {d e : D} {t u : TS} {P : Po}
theorem nodup_mid {A C D' E' : List Addr} (h : (A ++ C ++ D').Nodup) (he : E'.Nodup) (hs : ∀ x ∈ E', x ∈ C) : (A ++ E' ++ D').Nodup := by
  rw [List.nodup_append, List.nodup_append] at h ⊢
  obtain ⟨⟨h1, h2, h3⟩, h4, h5⟩ := h
  refine ⟨⟨h1, he, fun a ha b hb => h3 a ha b (hs b hb)⟩, h4, fun a ha b hb => h5 a ?_ b hb⟩
  rcases List.mem_append.mp ha with ha | ha
  · exact List.mem_append_left _ ha
  · exact List.mem_append_right _ (hs a ha)
/-- the list written anew, with objects that it had; the objects as H2 has them -/
theorem SA.stSet {i : Nat} {p : Addr} {xs xs' : List Addr} {its its' : List (Str × List (Str × D))} {H2 : Hp} (S : SA K B G H σ δ X) (h : δ[i]? = some (.st p xs its)) (hn : (p :: xs').Nodup) (hs : ∀ x ∈ xs', x ∈ xs)
    (hp : H2 p = some (.lst (xs'.map V.ref))) (ho : ∀ a, a ∉ p :: xs → H2 a = H a) (hd : ∀ a, H a ≠ none → H2 a ≠ none) (hit : Paired (ItA K G H2) xs' its') : SA K B G H2 σ (δ.set i (.st p xs' its')) X := by
  obtain ⟨F, s1, s2, s3, s4⟩ := S.sl
  obtain ⟨o, F1, Fi, F2, e1, e2, x, k⟩ := s1.cut h
  subst e1
  cases x with
  | st n a b =>
    have own : ∀ q ∈ p :: xs, G q = none := fun q m => (s3 q (by simp only [List.mem_append]; exact .inl (.inr (.inl m)))).1
    have s2' : (F1 ++ (p :: xs) ++ (F2 ++ X)).Nodup := by simpa [List.append_assoc] using s2
    have dis : ∀ q, q ∈ F1 ++ F2 ++ X → q ∉ p :: xs := fun q m z => by
      rw [List.nodup_append, List.nodup_append] at s2'
      simp only [List.mem_append] at m
      rcases m with (m | m) | m
      · exact s2'.1.2.2 q m q z rfl
      · exact s2'.2.2 q (List.mem_append_right _ z) q (List.mem_append_left _ m) rfl
      · exact s2'.2.2 q (List.mem_append_right _ z) q (List.mem_append_right _ m) rfl
    have sub : ∀ q ∈ p :: xs', q ∈ p :: xs := fun q m => by
      rcases List.mem_cons.mp m with rfl | m
      · simp
      · exact List.mem_cons_of_mem _ (hs q m)
    have q := k H2 (some (.ref p)) (.st p xs' its') (p :: xs') (fun a u e m => by
      rw [ho a (dis a (by simp only [List.mem_append] at m ⊢; rcases m with m | m; exact .inl (.inl m); exact .inl (.inr m)))]
      exact e) (.st (fun c m => n c (sub c m)) hp hit)
    rw [set_self e2] at q
    refine ⟨⟨S.rel.g, fun c u e w => ?_, fun c u e => ?_, S.rel.f, fun c e => hd c (S.rel.t c e)⟩, _, q, ?_, fun c m => ?_, s4⟩
    · have nm : c ∉ p :: xs := fun m => by
        rcases n c m with z | z
        · rw [z] at e; cases e
        · exact w z
      rw [ho c nm]
      exact S.rel.h c u e w
    · have nm : c ∉ p :: xs := fun m => by rw [own c m] at e; cases e
      rw [ho c nm]
      exact S.rel.s c u e
    · have := nodup_mid s2' hn sub
      simpa [List.append_assoc] using this
    · have m' : c ∈ F1 ++ (p :: xs ++ F2) ++ X := by
        simp only [List.mem_append] at m ⊢
        rcases m with (m | m | m) | m
        · exact .inl (.inl m)
        · exact .inl (.inr (.inl (sub c m)))
        · exact .inl (.inr (.inr m))
        · exact .inr m
      exact ⟨(s3 c m').1, hd c (s3 c m').2⟩
theorem ita_up {q : Addr} {o : HO} : ∀ {xs : List Addr} {its : List (Str × List (Str × D))}, Paired (ItA K G H) xs its → q ∉ xs → Paired (ItA K G (upd H q o)) xs its
  | _, _, .nil, _ => .nil
  | _, _, .cons (a := a) r t, h => by
    obtain ⟨dx, vs, h1, h2⟩ := r
    exact .cons ⟨dx, vs, by rw [upd_ne (fun z => h (by rw [← z]; simp))]; exact h1, h2⟩ (ita_up t (fun m => h (by simp [m])))
theorem upd_dom {q : Addr} {o : HO} (a : Addr) (h : H a ≠ none) : upd H q o a ≠ none := by
  by_cases z : a = q
  · rw [z, upd_same]
    simp
  · rw [upd_ne z]
    exact h
theorem map_erase {α β : Type} (f : α → β) : ∀ (l : List α) (k : Nat), (l.map f).eraseIdx k = (l.eraseIdx k).map f
  | [], _ => rfl
  | _ :: _, 0 => rfl
  | a :: l, k + 1 => congrArg (f a :: ·) (map_erase f l k)
theorem seq_ix {z : Int} {n k : Nat} (h0 : 0 ≤ z) (h1 : z < n) (hk : z.toNat = k) : PySem.seqIndex? z n = some k := by
  unfold PySem.seqIndex?
  have e : (if z < 0 then z + (n : Int) else z) = z := if_neg (by omega)
  show (if (decide (0 ≤ if z < 0 then z + (n : Int) else z) && decide ((if z < 0 then z + (n : Int) else z) < n)) = true then some (if z < 0 then z + (n : Int) else z).toNat else none) = some k
  rw [e, if_pos (by simp; omega), hk]
/-- items.pop(index), what it gives dropped -/
theorem paired_erase {α β : Type} {R : α → β → Prop} : ∀ {l : List α} {m : List β} (k : Nat), Paired R l m → Paired R (l.eraseIdx k) (m.eraseIdx k)
  | _, _, _, .nil => .nil
  | _, _, 0, .cons _ t => t
  | _, _, k + 1, .cons r t => .cons r (paired_erase k t)
theorem sd_popSt {i k : Nat} {p : Addr} {xs : List Addr} {its : List (Str × List (Str × D))} {z : Int} (hi : δ[i]? = some (.st p xs its)) (hb : ED K B δ tb (.int z)) (h0 : 0 ≤ z) (h1 : z < 2 ^ 63) (hk : z.toNat = k) (hl : k < xs.length) (q : P.n (δ.set i (.st p (xs.eraseIdx k) (its.eraseIdx k)))) :
    SD K B δ (tDrop (tBM K "list" rPopAt (tVar i) (tCons tb tNil))) P := fun G H σ S E k1 k2 k3 k4 => by
  obtain ⟨e1, g1, g2, g3, g4⟩ := S.st hi
  refine ⟨_, e1, .inl ⟨rfl, _, .of g1⟩, ea_cons hb ea_nil G H σ [] S _ fun vs G1 H1 x1 x2 S1 a => ?_⟩
  obtain ⟨v, rfl, a1⟩ := a.one
  obtain ⟨_, f1, f2, f3, f4⟩ := S1.st hi
  have np := (List.nodup_cons.mp f3)
  refine ⟨p, xs.map V.ref, z, k, .ref xs[k], rfl, by rw [a1.int_eq], f1, by omega, h1, ?_, ?_, k1 _ _ _ _ x1 ?_ q⟩
  · exact seq_ix h0 (by rw [List.length_map]; omega) hk
  · rw [List.getElem?_map, List.getElem?_eq_getElem hl]
    rfl
  · have e : (xs.map V.ref).eraseIdx k = (xs.eraseIdx k).map V.ref := map_erase _ _ _
    rw [e]
    have sub : ∀ x ∈ xs.eraseIdx k, x ∈ xs := fun x m => (List.eraseIdx_sublist xs k).subset m
    refine S1.stSet hi (List.nodup_cons.mpr ⟨fun m => np.1 (sub p m), np.2.sublist (List.eraseIdx_sublist xs k)⟩) sub upd_same (fun a m => upd_ne (fun z => m (by rw [z]; simp))) upd_dom (ita_up (paired_erase k f2) (fun m => np.1 (sub p m)))
def rInsL : V → List V → Hp → VK → Prop := fun x vs H Q => ∃ l xs i y, x = V.ref l ∧ vs = [V.int i, y] ∧ H l = some (HO.lst xs) ∧ xs.length < sizeLine ∧ 0 ≤ i ∧ i < 2 ^ 63 ∧ Q V.non (upd H l (HO.lst (List.take i.toNat xs ++ [y] ++ List.drop i.toNat xs)))
def moveL {α : Type} (l : List α) (k m : Nat) (x : α) : List α := (l.eraseIdx k).take m ++ [x] ++ (l.eraseIdx k).drop m
theorem paired_move {α β : Type} {R : α → β → Prop} {l : List α} {n : List β} {k m : Nat} {a : α} {b : β} (h : Paired R l n) (hr : R a b) : Paired R (moveL l k m a) (moveL n k m b) := by
  have tk : ∀ {l : List α} {n : List β} (m : Nat), Paired R l n → Paired R (l.take m) (n.take m) := by
    intro l n m h
    induction h generalizing m with
    | nil => cases m <;> exact .nil
    | cons r t ih =>
      cases m with
      | zero => exact .nil
      | succ m => exact .cons r (ih m)
  have dp : ∀ {l : List α} {n : List β} (m : Nat), Paired R l n → Paired R (l.drop m) (n.drop m) := by
    intro l n m h
    induction h generalizing m with
    | nil => cases m <;> exact .nil
    | cons r t ih =>
      cases m with
      | zero => exact .cons r t
      | succ m => exact ih m
  have ap : ∀ {l l' : List α} {n n' : List β}, Paired R l n → Paired R l' n' → Paired R (l ++ l') (n ++ n') := by
    intro l l' n n' h h'
    induction h with
    | nil => exact h'
    | cons r t ih => exact .cons r ih
  have e := paired_erase k h
  exact ap (ap (tk m e) (.cons hr .nil)) (dp m e)
theorem move_perm {α : Type} {l : List α} {k m : Nat} {x : α} (h : l[k]? = some x) : (moveL l k m x).Perm l := by
  unfold moveL
  have e1 : ((l.eraseIdx k).take m ++ [x] ++ (l.eraseIdx k).drop m).Perm (x :: l.eraseIdx k) := by
    rw [List.append_assoc]
    have := (List.perm_middle (a := x) (l₁ := (l.eraseIdx k).take m) (l₂ := (l.eraseIdx k).drop m))
    rw [List.take_append_drop] at this
    exact this
  refine e1.trans ?_
  have hk := (List.getElem?_eq_some_iff.mp h)
  have e2 : l = l.take k ++ x :: l.drop (k + 1) := by
    conv => lhs; rw [← List.take_append_drop k l]
    rw [List.drop_eq_getElem_cons hk.1, hk.2]
  have e3 : l.eraseIdx k = l.take k ++ l.drop (k + 1) := List.eraseIdx_eq_take_drop_succ l k
  rw [e3]
  conv => rhs; rw [e2]
  exact List.perm_middle.symm
/-- item = items.pop(index); items.insert(target, item) -/
theorem sd_moveSt {i j k m : Nat} {p : Addr} {xs : List Addr} {its : List (Str × List (Str × D))} {it : Str × List (Str × D)} {z y : Int} (hi : δ[i]? = some (.st p xs its)) (hb : ED K B δ tb (.int z)) (h0 : 0 ≤ z) (h1 : z < 2 ^ 63) (hk : z.toNat = k) (hl : k < xs.length) (ht : its[k]? = some it) (hs : xs.length < 1000)
    (hji : j ≠ i) (hj : j < δ.length) (hf : ∃ s, δ[j]? = some s ∧ s.flat = true) (hm : m ≠ j) (hc : δ[m]? = some (.sh (.int y))) (hy0 : 0 ≤ y) (hy : y < 2 ^ 63)
    (q : ∀ x, xs[k]? = some x → SD K B ((δ.set i (.st p (moveL xs k y.toNat x) (moveL its k y.toNat it))).set j (.al x)) u P) :
    SD K B δ (tSeq (tAsg (tBM K "list" rPopAt (tVar i) (tCons tb tNil)) (gName j)) (tSeq (tDrop (tBM K "list" rInsL (tVar i) (tCons (tVar m) (tCons (tVar j) tNil)))) u)) P := fun G H σ S E k1 k2 k3 k4 => by
  obtain ⟨e1, g1, g2, g3, g4⟩ := S.st hi
  refine ⟨_, e1, .inl ⟨rfl, _, .of g1⟩, ea_cons hb ea_nil G H σ [] S _ fun vs G1 H1 x1 x2 S1 a => ?_⟩
  obtain ⟨v, rfl, a1⟩ := a.one
  obtain ⟨_, f1, f2, f3, f4⟩ := S1.st hi
  have np := (List.nodup_cons.mp f3)
  have hx : xs[k]? = some xs[k] := List.getElem?_eq_getElem hl
  have er : (xs.map V.ref).eraseIdx k = (xs.eraseIdx k).map V.ref := map_erase _ _ _
  refine ⟨p, xs.map V.ref, z, k, .ref xs[k], rfl, by rw [a1.int_eq], f1, by omega, h1, seq_ix h0 (by rw [List.length_map]; omega) hk, by rw [List.getElem?_map, hx]; rfl, ?_⟩
  rw [er]
  have ljσ : j < σ.length := by rw [S.len]; exact hj
  obtain ⟨vm, em, am⟩ := S1.sh hc
  refine ⟨.ref p, by rw [List.getElem?_set_ne hji]; exact e1, .inl ⟨rfl, _, .of upd_same⟩, vm, by rw [List.getElem?_set_ne (Ne.symm hm)]; exact em, .ref xs[k], by rw [List.getElem?_set_self ljσ], ?_⟩
  refine ⟨p, (xs.eraseIdx k).map V.ref, y, .ref xs[k], rfl, by rw [am.int_eq], upd_same, ?_, hy0, hy, ?_⟩
  · refine sz_lt ?_
    rw [List.length_map]
    have := List.length_eraseIdx_le xs k
    omega
  rw [upd_upd]
  have em2 : List.take y.toNat ((xs.eraseIdx k).map V.ref) ++ [V.ref xs[k]] ++ List.drop y.toNat ((xs.eraseIdx k).map V.ref) = (moveL xs k y.toNat xs[k]).map V.ref := by
    unfold moveL
    rw [List.map_append, List.map_append, List.map_take, List.map_drop]
    rfl
  rw [em2]
  have pm := move_perm (m := y.toNat) hx
  have sub : ∀ x ∈ moveL xs k y.toNat xs[k], x ∈ xs := fun x mm => pm.mem_iff.mp mm
  obtain ⟨x', hx', rit⟩ := paired_at f2 ht
  rw [hx] at hx'
  cases hx'
  have S2 := S1.stSet (H2 := upd H1 p (.lst ((moveL xs k y.toNat xs[k]).map V.ref))) (its' := moveL its k y.toNat it) hi (List.nodup_cons.mpr ⟨fun mm => np.1 (sub p mm), pm.nodup_iff.mpr np.2⟩) sub upd_same (fun a mm => upd_ne (fun zz => mm (by rw [zz]; simp))) upd_dom (ita_up (paired_move f2 rit) (fun mm => np.1 (sub p mm)))
  have S3 : SA K B G1 (upd H1 p (.lst ((moveL xs k y.toNat xs[k]).map V.ref))) (σ.set j (some (.ref xs[k]))) ((δ.set i (.st p (moveL xs k y.toNat xs[k]) (moveL its k y.toNat it))).set j (.al xs[k])) [] := by
    obtain ⟨F, s1, s2, s3, s4⟩ := S2.sl
    obtain ⟨o, F1, Fi, F2, w1, w2, yy, kk⟩ := s1.cut (i := j) (s := (δ.set i (.st p (moveL xs k y.toNat xs[k]) (moveL its k y.toNat it)))[j]'(by rw [List.length_set]; exact hj)) (List.getElem?_eq_getElem _)
    subst w1
    refine ⟨S2.rel, F1 ++ ([] ++ F2), kk _ (some (.ref xs[k])) (.al xs[k]) [] (fun a u e _ => e) .al, ?_, fun q m => s3 q ?_, s4⟩
    · refine s2.sublist ?_
      simp only [List.nil_append, List.append_assoc]
      exact (List.Sublist.refl F1).append (List.sublist_append_right Fi (F2 ++ []))
    · simp only [List.nil_append, List.mem_append] at m ⊢
      rcases m with (m | m) | m
      · exact .inl (.inl m)
      · exact .inl (.inr (.inr m))
      · exact .inr m
  exact (q xs[k] hx).run x1 S3 k1 k2 k3 k4
/-- a field of one of its objects set -/
theorem paired_setAt {α β : Type} {R R' : α → β → Prop} {q : α} {y : β} : ∀ {l : List α} {m : List β} {k : Nat}, Paired R l m → l.Nodup → l[k]? = some q → (∀ a b, a ≠ q → R a b → R' a b) → R' q y → Paired R' l (m.set k y)
  | _, _, _, .nil, _, e, _, _ => by simp at e
  | _, _, 0, .cons (a := a0) r t, nd, e, h, hy => by
    simp at e
    subst e
    have n1 := (List.nodup_cons.mp nd).1
    have mp : ∀ {l : List α} {m : List β}, Paired R l m → (∀ a ∈ l, a ≠ a0) → Paired R' l m := by
      intro l m hh
      induction hh with
      | nil => intro _; exact .nil
      | cons r t ih => intro ne; exact .cons (h _ _ (ne _ (by simp)) r) (ih (fun a ma => ne a (by simp [ma])))
    exact .cons hy (mp t fun a ma z => n1 (by rw [← z]; exact ma))
  | _, _, k + 1, .cons (a := a) r t, nd, e, h, hy => by
    have n1 := (List.nodup_cons.mp nd)
    refine .cons (h _ _ (fun z => n1.1 ?_) r) (paired_setAt t n1.2 (by simpa using e) h hy)
    rw [z]
    exact List.mem_of_getElem? (by simpa using e)
theorem sd_setFld {i j k : Nat} {p x : Addr} {xs : List Addr} {its : List (Str × List (Str × D))} {c : Str} {fs fs' : List (Str × D)} {f : Str} (hi : δ[i]? = some (.st p xs its)) (hj : δ[j]? = some (.al x)) (hx : xs[k]? = some x) (ht : its[k]? = some (c, fs)) (hc : Cls K (He.ga K c)) (hn : NoAttr K (He.ga K c) f) (h : ED K B δ te d)
    (hlen : fs.length < 1000) (hput : ∀ G vs v, Afs K G vs fs → At K G v d → Afs K G (putF f v vs) fs') (q : P.n (δ.set i (.st p xs (its.set k (c, fs'))))) : SD K B δ (sFld K (tVar j) te f) P := fun G H σ S E k1 k2 k3 k4 =>
  h G H σ [] S _ fun v G1 H1 x1 x2 S1 a => by
    obtain ⟨_, f1, f2, f3, f4⟩ := S1.st hi
    have np := (List.nodup_cons.mp f3)
    obtain ⟨x', hx', dx, vs, h1, h2⟩ := paired_at f2 ht
    rw [hx] at hx'
    cases hx'
    refine ⟨_, S1.al hj, x, _, dx, vs, rfl, h1, hc, hn, by rw [h2.length]; exact hlen, k1 G1 _ σ _ x1 ?_ q⟩
    have xm : x ∈ xs := List.mem_of_getElem? hx
    have pne : p ≠ x := fun z => np.1 (by rw [z]; exact xm)
    refine S1.stSet hi f3 (fun _ m => m) (by rw [upd_ne pne]; exact f1) (fun a m => upd_ne (fun z => m (by rw [z]; exact List.mem_cons_of_mem _ xm))) upd_dom ?_
    exact paired_setAt f2 np.2 hx (fun a b ne ⟨dx', vs', w1, w2⟩ => ⟨dx', vs', by rw [upd_ne ne]; exact w1, w2⟩) ⟨dx, putF f v vs, upd_same, hput _ _ _ h2 a⟩
end
end Dg
namespace Dg
open PySem PySem.Spec PyProof.Rows L2
section
variable {K : PySem.W.Frag} {B : Bs} {G G' H H' : Hp} {σ : L2.St} {δ : List Sl} {X Y : List Addr} {ta : TA} {te tb tc tx : TE} {tt : TT} {d e : D} {t u : TS} {P : Po}
/-- called with the state and data: what it answers, and the state that it leaves -/
def spS (K : PySem.W.Frag) (R : List (Str × List (Str × D)) → List D → D → List (Str × List (Str × D)) → Prop) : Sp := fun vs H Q _ => ∃ G p ws xs its ds d its', vs = .ref p :: ws ∧ Ex G H ∧ Ats K G ws ds ∧ H p = some (.lst (xs.map V.ref)) ∧ Paired (ItA K G H) xs its ∧ (p :: xs).Nodup ∧ (∀ q ∈ p :: xs, G q = none) ∧ R its ds d its' ∧
  ∀ v G' H' xs', Ex G G' → (∀ a o, H a = some o → a ∉ p :: xs → H' a = some o) → Ex G' H' → (∀ a o, H a = some o → G a = none → G' a = none) → (∀ a, H a ≠ none → H' a ≠ none) → H' p = some (.lst (xs'.map V.ref)) → Paired (ItA K G' H') xs' its' → (p :: xs').Nodup → (∀ q ∈ xs', (q ∈ xs ∨ H q = none) ∧ G' q = none ∧ H' q ≠ none) → At K G' v d → Q v H'
def entryS (N : List Str) (p : Addr) (xs : List Addr) (its : List (Str × List (Str × D))) (ds : List D) : List Sl := .st p xs its :: (ds.map Sl.sh ++ List.replicate (N.length - 1 - ds.length) .un)
theorem sa_entryS {N : List Str} {p : Addr} {xs : List Addr} {its : List (Str × List (Str × D))} {ws : List V} {ds : List D} (e : Ex G H) (a : Ats K G ws ds) (hp : H p = some (.lst (xs.map V.ref))) (hi : Paired (ItA K G H) xs its) (nd : (p :: xs).Nodup) (hg : ∀ q ∈ p :: xs, G q = none) :
    SA K ⟨G, H, fun q => q ∈ p :: xs⟩ G H (L2.start N (.ref p :: ws)) (entryS N p xs its ds) [] := by
  have there : ∀ {xs : List Addr} {its : List (Str × List (Str × D))}, Paired (ItA K G H) xs its → ∀ q ∈ xs, H q ≠ none := by
    intro xs its b
    induction b with
    | nil => intro q m; simp at m
    | cons r t ih =>
      intro q m
      rcases List.mem_cons.mp m with rfl | m
      · obtain ⟨dx, vs, h1, _⟩ := r
        rw [h1]
        simp
      · exact ih q m
  refine ⟨⟨Ex.refl _, fun _ _ h _ => h, e, fun _ _ _ h => h, fun _ h => h⟩, (p :: xs) ++ [], ?_, by simpa using nd, fun q m => ?_, fun q m => by simp at m⟩
  · unfold L2.start entryS
    rw [List.map_cons, List.length_cons]
    have en : N.length - (ws.length + 1) = N.length - 1 - ds.length := by rw [a.length]; omega
    rw [en]
    exact SlsA.cons (F := p :: xs) (F' := []) (.st (fun q m => .inr m) hp hi) (slsA_entry a)
  · have m' : q ∈ p :: xs := by simpa using m
    refine ⟨hg q m', ?_⟩
    rcases List.mem_cons.mp m' with rfl | m'
    · rw [hp]
      simp
    · exact there hi q m'
/-- the rule for a def of the state -/
theorem fn_state {Pr : Program} {w : World} {mg : Str → Option Value} {base : Heap} {x qual : Str} {params : Arguments} {body : List Stmt} {scope : Scope} {dvs : List V} {kws : List (Str × V)} {f : Addr} {fd : FuncData} {N ps : List Str} {k : Nat} {R : List (Str × List (Str × D)) → List D → D → List (Str × List (Str × D)) → Prop}
    (F : FunD K x qual params body scope dvs kws f fd) (S : FnScope N ps scope) (len : ∀ its ds d its', R its ds d its' → ds.length + 1 = ps.length)
    (hbody : ∀ (cdv : Value) (A : Around) (outer : List Env) (s : Shared) (H : Hp) (E : XK), Room k (A.deeper (envOfC qual scope s.heap.objs.size f cdv)) →
      ∃ t, PSs (cxOf CX0 Pr w K mg base N qual scope f cdv A outer s H E).nox body t ∧ ∀ B p xs its ds d its', R its ds d its' → SD K B (entryS N p xs its ds) t { n := fun _ => False, r := fun d' δ' => d' = d ∧ ∃ xs', δ'[0]? = some (.st p xs' its') }) : FnOk Pr w K mg base CX0 (k + 1) f fd ps (spS K R) := by
  refine F.ok S (fun vs H Q E h => ?_) (fun cdv A outer s H vs Q E hr h => ?_)
  · obtain ⟨G, p, ws, xs, its, ds, d, its', rfl, _, a, _, _, _, _, r, _⟩ := h
    rw [List.length_cons, a.length]
    exact len its ds d its' r
  · obtain ⟨t, ht, hs⟩ := hbody cdv A outer s H E hr
    refine ⟨t, PSs.nox ht, ?_⟩
    obtain ⟨G, p, ws, xs, its, ds, d, its', rfl, e, a, hp, hi, nd, hg, r, q⟩ := h
    refine hs ⟨G, H, fun q => q ∈ p :: xs⟩ p xs its ds d its' r G H _ (sa_entryS e a hp hi nd hg) _ (fun G' H' σ' δ' e1 S' hn => hn.elim) (fun v G' H' σ' δ' d' e1 S' av hd => ?_) (fun _ _ _ _ _ _ z => z.elim) (fun _ _ _ _ _ _ z => z.elim)
    obtain ⟨rfl, xs', h0⟩ := hd
    obtain ⟨_, f1, f2, f3, f4⟩ := S'.st h0
    have own : ∀ q ∈ p :: xs', H q = none ∨ q ∈ p :: xs := by
      obtain ⟨F', s1, _⟩ := S'.sl
      obtain ⟨o, F1, Fi, F2, _, _, y, _⟩ := s1.cut h0
      cases y with
      | st n a b => exact n
    refine q v G' H' xs' e1 (fun b o hb nb => S'.rel.h b o hb nb) S'.rel.s (fun b o hb hgg => S'.rel.f b o hb hgg) (fun b hb => S'.rel.t b hb) f1 f2 f3 (fun q m => ⟨?_, f4 q (List.mem_cons_of_mem _ m)⟩) av
    rcases own q (List.mem_cons_of_mem _ m) with z | z
    · exact .inr z
    · rcases List.mem_cons.mp z with z | z
      · exact absurd (z ▸ m) (List.nodup_cons.mp f3).1
      · exact .inl z
/-- after such a call -/
theorem SA.afterS {i : Nat} {p : Addr} {xs xs' : List Addr} {its its' : List (Str × List (Str × D))} (S : SA K B G H σ δ X) (h : δ[i]? = some (.st p xs its)) (e1 : Ex G G') (e2 : ∀ a o, H a = some o → a ∉ p :: xs → H' a = some o) (e3 : Ex G' H') (e4 : ∀ a o, H a = some o → G a = none → G' a = none) (e5 : ∀ a, H a ≠ none → H' a ≠ none)
    (hp : H' p = some (.lst (xs'.map V.ref))) (hit : Paired (ItA K G' H') xs' its') (nd : (p :: xs').Nodup) (hq : ∀ q ∈ xs', (q ∈ xs ∨ H q = none) ∧ G' q = none ∧ H' q ≠ none) : SA K B G' H' σ (δ.set i (.st p xs' its')) X := by
  obtain ⟨F, s1, s2, s3, s4⟩ := S.sl
  have s1' := s1
  obtain ⟨o, F1, Fi, F2, w1, w2, x, k⟩ := s1.cut h
  subst w1
  cases x with
  | st n a b =>
    have s2' : (F1 ++ (p :: xs) ++ (F2 ++ X)).Nodup := by simpa [List.append_assoc] using s2
    have dis : ∀ q, q ∈ F1 ++ F2 ++ X → q ∉ p :: xs := fun q m z => by
      rw [List.nodup_append, List.nodup_append] at s2'
      simp only [List.mem_append] at m
      rcases m with (m | m) | m
      · exact s2'.1.2.2 q m q z rfl
      · exact s2'.2.2 q (List.mem_append_right _ z) q (List.mem_append_left _ m) rfl
      · exact s2'.2.2 q (List.mem_append_right _ z) q (List.mem_append_right _ m) rfl
    have old : ∀ q ∈ F1 ++ F2 ++ X, H q ≠ none := fun q m => (s3 q (by
      simp only [List.mem_append] at m ⊢
      rcases m with (m | m) | m
      · exact .inl (.inl m)
      · exact .inl (.inr (.inr m))
      · exact .inr m)).2
    have nd2 : (F1 ++ (p :: xs') ++ (F2 ++ X)).Nodup := by
      have base : (F1 ++ (F2 ++ X)).Nodup := s2'.sublist (by
        rw [List.append_assoc]
        exact (List.Sublist.refl F1).append (List.sublist_append_right _ _))
      have np' : ∀ q ∈ p :: xs', q ∉ F1 ++ (F2 ++ X) := fun q m z => by
        have z' : q ∈ F1 ++ F2 ++ X := by rw [List.append_assoc]; exact z
        rcases List.mem_cons.mp m with rfl | m
        · exact dis q z' (by simp)
        · rcases (hq q m).1 with hx | hx
          · exact dis q z' (List.mem_cons_of_mem _ hx)
          · exact old q z' hx
      rw [List.nodup_append, List.nodup_append]
      rw [List.nodup_append] at base
      refine ⟨⟨base.1, nd, fun a ha b hb z => np' b hb (by rw [← z]; exact List.mem_append_left _ ha)⟩, base.2.1, fun a ha b hb => ?_⟩
      rcases List.mem_append.mp ha with ha | ha
      · exact base.2.2 a ha b hb
      · exact fun z => np' a ha (by rw [z]; exact List.mem_append_right _ hb)
    have gnone : ∀ q, H q ≠ none → G q = none → G' q = none := fun q hh hg => by
      cases z : H q with
      | none => exact absurd z hh
      | some o => exact e4 q o z hg
    have H0n : ∀ q ∈ xs', B.H0 q = none ∨ B.W q := fun q m => by
      rcases (hq q m).1 with hx | hx
      · exact n q (List.mem_cons_of_mem _ hx)
      · cases z : B.H0 q with
        | none => exact .inl rfl
        | some o => exact absurd hx (S.rel.t q (by rw [z]; simp))
    have q0 := k H (some (.ref p)) .un [] (fun a u e _ => e) .un
    rw [set_self w2] at q0
    have q1 : SlsA K B G' H' σ (δ.set i .un) (F1 ++ ([] ++ F2)) := by
      have mid : SlsA K B G H' σ (δ.set i .un) (F1 ++ ([] ++ F2)) := q0.at_ fun a u hu m => e2 a u hu (dis a (by
        simp only [List.nil_append, List.mem_append] at m ⊢
        exact .inl m))
      exact mid.mono e1 (Ex.refl _)
    have hun : (δ.set i .un)[i]? = some .un := by
      rw [List.getElem?_set_self (List.getElem?_eq_some_iff.mp h).1]
    obtain ⟨o2, J1, Ji, J2, y1, y2, y3, y4⟩ := q1.cut hun
    cases y3 with
    | un =>
      have q2 := y4 H' (some (.ref p)) (.st p xs' its') (p :: xs') (fun a u e _ => e) (.st (fun c m => by
        rcases List.mem_cons.mp m with rfl | m
        · exact n c (by simp)
        · exact H0n c m) hp hit)
      have es : σ.set i (some (V.ref p)) = σ := set_self w2
      rw [es, List.set_set] at q2
      have eJ : J1 ++ J2 = F1 ++ F2 := by
        have : F1 ++ ([] ++ F2) = J1 ++ ([] ++ J2) := y1
        simpa using this.symm
      have pe : (J1 ++ (p :: xs' ++ J2) ++ X).Perm (F1 ++ (p :: xs') ++ (F2 ++ X)) := by
        have a1 : (J1 ++ (p :: xs' ++ J2) ++ X).Perm ((p :: xs') ++ (J1 ++ J2 ++ X)) := by
          have : (J1 ++ (p :: xs' ++ J2)).Perm ((p :: xs') ++ (J1 ++ J2)) := by
            rw [← List.append_assoc, ← List.append_assoc]
            exact List.Perm.append_right J2 List.perm_append_comm
          have := List.Perm.append_right X this
          simpa [List.append_assoc] using this
        have a2 : (F1 ++ (p :: xs') ++ (F2 ++ X)).Perm ((p :: xs') ++ (F1 ++ F2 ++ X)) := by
          have := List.Perm.append_right (F2 ++ X) (List.perm_append_comm (l₁ := F1) (l₂ := p :: xs'))
          simpa [List.append_assoc] using this
        rw [eJ] at a1
        exact a1.trans a2.symm
      refine ⟨⟨S.rel.g.trans e1, fun c u e w => ?_, e3, fun c u e g0 => ?_, fun c e => e5 c (S.rel.t c e)⟩, _, q2, pe.nodup_iff.mpr nd2, fun c m => ?_, s4⟩
      · have nm : c ∉ p :: xs := fun m => by
          rcases n c m with z | z
          · rw [z] at e; cases e
          · exact w z
        exact e2 c u (S.rel.h c u e w) nm
      · exact gnone c (S.rel.t c (by rw [e]; simp)) (S.rel.f c u e g0)
      · have m' := pe.mem_iff.mp m
        simp only [List.mem_append, List.mem_cons] at m'
        rcases m' with (m' | rfl | m') | m' | m'
        · have o1 := s3 c (by simp [m'])
          exact ⟨gnone c o1.2 o1.1, e5 c o1.2⟩
        · have o1 := s3 c (by simp)
          exact ⟨gnone c o1.2 o1.1, e5 c o1.2⟩
        · exact (hq c m').2
        · have o1 := s3 c (by simp [m'])
          exact ⟨gnone c o1.2 o1.1, e5 c o1.2⟩
        · have o1 := s3 c (by simp [m'])
          exact ⟨gnone c o1.2 o1.1, e5 c o1.2⟩
/-- return f(items, ..) -/
theorem sd_retS {i : Nat} {p : Addr} {xs : List Addr} {its its' : List (Str × List (Str × D))} {R : List (Str × List (Str × D)) → List D → D → List (Str × List (Str × D)) → Prop} {E : XK} {ds : List D} (hi : δ[i]? = some (.st p xs its)) (h : EA K B δ ta ds) (hR : R its ds d its') (q : ∀ xs', P.r d (δ.set i (.st p xs' its'))) :
    SD K B δ (tRet (tCall (spS K R) [] E (tCons (tVar i) ta))) P := fun G H σ S E' k1 k2 k3 k4 => by
  obtain ⟨e1, _⟩ := S.st hi
  refine ⟨_, e1, h G H σ [] S _ fun vs G1 H1 x1 x2 S1 a => ?_⟩
  obtain ⟨_, g1, g2, g3, g4⟩ := S1.st hi
  rw [List.append_nil]
  refine ⟨G1, p, vs, xs, its, ds, d, its', rfl, S1.rel.s, a, g1, g2, g3, fun q m => (g4 q m).1, hR, fun v G' H' xs' f1 f2 f3 f4 f5 f6 f7 f8 f9 av => ?_⟩
  exact k2 v G' H' σ _ _ (x1.trans f1) (S1.afterS hi f1 f2 f3 f4 f5 f6 f7 f8 f9) av (q xs')
/-- x = f(items, ..) -/
theorem sd_asgS {i j : Nat} {p : Addr} {xs : List Addr} {its its' : List (Str × List (Str × D))} {R : List (Str × List (Str × D)) → List D → D → List (Str × List (Str × D)) → Prop} {E : XK} {ds : List D} (hi : δ[i]? = some (.st p xs its)) (h : EA K B δ ta ds) (hR : R its ds d its') (hj : j < δ.length) (q : ∀ xs', P.n ((δ.set i (.st p xs' its')).set j (.sh d))) :
    SD K B δ (tAsg (tCall (spS K R) [] E (tCons (tVar i) ta)) (gName j)) P := fun G H σ S E' k1 k2 k3 k4 => by
  obtain ⟨e1, _⟩ := S.st hi
  refine ⟨_, e1, h G H σ [] S _ fun vs G1 H1 x1 x2 S1 a => ?_⟩
  obtain ⟨_, g1, g2, g3, g4⟩ := S1.st hi
  rw [List.append_nil]
  refine ⟨G1, p, vs, xs, its, ds, d, its', rfl, S1.rel.s, a, g1, g2, g3, fun q m => (g4 q m).1, hR, fun v G' H' xs' f1 f2 f3 f4 f5 f6 f7 f8 f9 av => ?_⟩
  exact k1 G' H' _ _ (x1.trans f1) ((S1.afterS hi f1 f2 f3 f4 f5 f6 f7 f8 f9).put av (by rw [List.length_set]; exact hj)) (q xs')
end
end Dg
namespace Dg
open PySem PySem.Spec PyProof.Rows L2
section
variable {K : PySem.W.Frag} {B : Bs} {G G' H H' : Hp} {σ : L2.St} {δ : List Sl} {X Y : List Addr} {ta : TA} {te tb tc tx : TE} {tt : TT} {d e : D} {t u : TS} {P : Po}
abbrev It0 := Str × List (Str × D)
/-- items.append(item), and the index of the item -/
def spApp : Sp := fun vs H Q _ => ∃ p zs y, vs = [.ref p, y] ∧ H p = some (.lst zs) ∧ zs.length < 1000 ∧ ∀ l, (upd H p (.lst (zs ++ [y]))) l = none → Q (.ref l) (upd (upd H p (.lst (zs ++ [y]))) l (.lst [.int zs.length]))
/-- a new object -/
def EI (K : PySem.W.Frag) (B : Bs) (δ : List Sl) (te : TE) (it : It0) : Prop := ∀ G H σ X, SA K B G H σ δ X → ∀ Q : VK, (∀ x G' H', Ex G G' → Ex H H' → SA K B G' H' σ δ (x :: X) → ItA K G' H' x it → Q (.ref x) H') → te σ H Q
theorem ei_make {c : Str} {n : Nat} {fv : List V → List (Str × V)} {E : XK} {ds : List D} {fs : List (Str × D)} (h : EA K B δ ta ds) (hn : ds.length = n) (hf : ∀ G vs, Ats K G vs ds → Afs K G (fv vs) fs) :
    EI K B δ (tMake (He.ga K c) (spI K c n fv) [] E ta) (c, fs) := fun G H σ X S Q k =>
  h G H σ X S _ fun vs G1 H1 e1 e2 S1 a x dx hx hdx hne => by
    rw [List.append_nil]
    refine ⟨x, dx, vs, rfl, by rw [a.length]; exact hn, upd_same, rfl, ?_⟩
    rw [upd_upd]
    have S2 := S1.fresh (o := .own x) hdx
    have hx2 : (upd H1 dx (.own x)) x = none := by rw [upd_ne (Ne.symm hne)]; exact hx
    have S3 := S2.mine (o := .ins (He.ga K c) dx (fv vs)) hx2
    have g1 : Ex G1 (upd G1 dx (.own x)) := Ex.new (S1.rel.s.none hdx)
    exact k x _ _ (e1.trans g1) (e2.trans ((Ex.new hdx).trans (Ex.new hx2))) S3 ⟨dx, fv vs, upd_same, (hf _ _ a).mono g1⟩
theorem SA.stApp {i : Nat} {p x : Addr} {xs : List Addr} {its : List It0} {it : It0} (S : SA K B G H σ δ (x :: X)) (h : δ[i]? = some (.st p xs its)) (hit : ItA K G H x it) : SA K B G (upd H p (.lst ((xs ++ [x]).map V.ref))) σ (δ.set i (.st p (xs ++ [x]) (its ++ [it]))) X := by
  obtain ⟨F, s1, s2, s3, s4⟩ := S.sl
  obtain ⟨o, F1, Fi, F2, e1, e2, y, k⟩ := s1.cut h
  subst e1
  cases y with
  | st n a b =>
    have hG : G p = none := (s3 p (by simp)).1
    have s2' : (F1 ++ (p :: xs) ++ (F2 ++ x :: X)).Nodup := by simpa [List.append_assoc] using s2
    have np : p ∉ F1 ++ F2 ++ x :: X := fun m => by
      rw [List.nodup_append, List.nodup_append] at s2'
      simp only [List.mem_append] at m
      rcases m with (m | m) | m
      · exact s2'.1.2.2 p m p (by simp) rfl
      · exact s2'.2.2 p (List.mem_append_right _ (by simp)) p (List.mem_append_left _ m) rfl
      · exact s2'.2.2 p (List.mem_append_right _ (by simp)) p (List.mem_append_right _ m) rfl
    have npxs : p ∉ xs := by
      rw [List.nodup_append, List.nodup_append] at s2'
      exact (List.nodup_cons.mp s2'.1.2.1).1
    have npx : x ≠ p := fun z => np (by rw [← z]; simp)
    have hB : B.H0 x = none := s4 x (by simp)
    have hnp : B.H0 p = none ∨ B.W p := n p (by simp)
    have q := k (upd H p (.lst ((xs ++ [x]).map V.ref))) (some (.ref p)) (.st p (xs ++ [x]) (its ++ [it])) (p :: (xs ++ [x])) (fun a u e m => by
      rw [upd_ne (fun z => np (by rw [← z]; exact List.mem_append_left _ m))]
      exact e) (.st (fun c m => by
        rcases List.mem_cons.mp m with rfl | m
        · exact hnp
        · rcases List.mem_append.mp m with m | m
          · exact n c (List.mem_cons_of_mem _ m)
          · have : c = x := by simpa using m
            rw [this]
            exact .inl hB) upd_same (paired_snoc (ita_up b npxs) (let ⟨dx, vs, c, d⟩ := hit; ⟨dx, vs, by rw [upd_ne npx]; exact c, d⟩)))
    rw [set_self e2] at q
    have pe : (F1 ++ (p :: (xs ++ [x]) ++ F2) ++ X).Perm (F1 ++ (p :: xs ++ F2) ++ x :: X) := by
      simp only [List.append_assoc, List.cons_append]
      refine List.Perm.append_left F1 (List.Perm.cons p (List.Perm.append_left xs ?_))
      show (x :: (F2 ++ X)).Perm (F2 ++ x :: X)
      exact List.perm_middle.symm
    refine ⟨⟨S.rel.g, fun c u e w => ?_, fun c u e => ?_, S.rel.f, fun c e => upd_dom c (S.rel.t c e)⟩, _, q, pe.nodup_iff.mpr s2, fun c m => ?_, fun c m => s4 c (List.mem_cons_of_mem _ m)⟩
    · rw [upd_ne (fun z => by
        subst z
        rcases hnp with z | z
        · rw [z] at e; cases e
        · exact w z)]
      exact S.rel.h c u e w
    · rw [upd_ne (fun z => by rw [z, hG] at e; cases e)]
      exact S.rel.s c u e
    · have o1 := s3 c (pe.mem_iff.mp m)
      exact ⟨o1.1, upd_dom c o1.2⟩
/-- the end of both -/
theorem app_tail {i : Nat} {p x : Addr} {xs : List Addr} {its : List It0} {it : It0} {Q : VK} (S : SA K B G H σ δ [x]) (hi : δ[i]? = some (.st p xs its)) (hit : ItA K G H x it) (hs : xs.length < 1000)
    (k : ∀ v G' H', Ex G G' → SA K B G' H' σ (δ.set i (.st p (xs ++ [x]) (its ++ [it]))) [] → At K G' v (.lst [.int its.length]) → Q v H') : ∀ E, spApp [.ref p, .ref x] H Q E := fun E => by
  obtain ⟨_, g1, g2, g3, g4⟩ := S.st hi
  refine ⟨p, xs.map V.ref, .ref x, rfl, g1, by rw [List.length_map]; exact hs, fun l hl => ?_⟩
  have S2 := S.stApp hi hit
  have em : (xs ++ [x]).map V.ref = xs.map V.ref ++ [.ref x] := List.map_append
  rw [em] at S2
  have S3 := S2.fresh (o := .lst [.int (xs.map V.ref).length]) hl
  refine k _ _ _ (Ex.new (S2.rel.s.none hl)) S3 ?_
  rw [List.length_map, paired_len g2]
  rw [List.length_map, paired_len g2] at S3
  exact .lst upd_same (.cons .int .nil)
theorem sd_retApp {i : Nat} {p : Addr} {xs : List Addr} {its : List It0} {it : It0} {E : XK} (hi : δ[i]? = some (.st p xs its)) (h : EI K B δ te it) (hs : xs.length < 1000) (q : ∀ x, P.r (.lst [.int its.length]) (δ.set i (.st p (xs ++ [x]) (its ++ [it])))) :
    SD K B δ (tRet (tCall spApp [] E (tCons (tVar i) (tCons te tNil)))) P := fun G H σ S E' k1 k2 k3 k4 => by
  obtain ⟨e1, _⟩ := S.st hi
  refine ⟨_, e1, h G H σ [] S _ fun x G1 H1 x1 x2 S1 hit => ?_⟩
  exact app_tail S1 hi hit hs (fun v G' H' f1 f2 f3 => k2 v G' H' _ _ _ (x1.trans f1) f2 f3 (q x)) E
theorem SA.takeOi {j : Nat} {x : Addr} {it : It0} (S : SA K B G H σ δ X) (h : δ[j]? = some (.oi x it)) : σ[j]? = some (some (.ref x)) ∧ ItA K G H x it ∧ SA K B G H σ (δ.set j .un) (x :: X) := by
  obtain ⟨F, s1, s2, s3, s4⟩ := S.sl
  obtain ⟨o, F1, Fi, F2, e1, e2, y, k⟩ := s1.cut h
  subst e1
  cases y with
  | oi n a =>
    have q := k H (some (.ref x)) .un [] (fun a u e _ => e) .un
    rw [set_self e2] at q
    refine ⟨e2, a, S.rel, _, q, ?_, fun c m => s3 c ?_, fun c m => ?_⟩
    · have e : (F1 ++ ([] ++ F2) ++ x :: X).Perm (F1 ++ ([x] ++ F2) ++ X) := by
        simp only [List.nil_append, List.append_assoc, List.singleton_append]
        exact List.Perm.append_left F1 List.perm_middle
      rw [e.nodup_iff]
      exact s2
    · simp only [List.nil_append, List.mem_append, List.mem_cons, List.singleton_append] at m ⊢
      rcases m with (m | m) | m | m
      · exact .inl (.inl m)
      · exact .inl (.inr (.inr m))
      · exact .inl (.inr (.inl m))
      · exact .inr m
    · rcases List.mem_cons.mp m with rfl | m
      · exact n
      · exact s4 c m
theorem sd_retAppV {i j : Nat} {p x : Addr} {xs : List Addr} {its : List It0} {it : It0} {E : XK} (hi : δ[i]? = some (.st p xs its)) (hj : δ[j]? = some (.oi x it)) (hji : j ≠ i) (hs : xs.length < 1000) (q : P.r (.lst [.int its.length]) ((δ.set j .un).set i (.st p (xs ++ [x]) (its ++ [it])))) :
    SD K B δ (tRet (tCall spApp [] E (tCons (tVar i) (tCons (tVar j) tNil)))) P := fun G H σ S E' k1 k2 k3 k4 => by
  obtain ⟨e1, _⟩ := S.st hi
  obtain ⟨e2, hit, S1⟩ := S.takeOi hj
  refine ⟨_, e1, _, e2, ?_⟩
  exact app_tail S1 (by rw [List.getElem?_set_ne hji]; exact hi) hit hs (fun v G' H' f1 f2 f3 => k2 v G' H' _ _ _ f1 f2 f3 q) E
theorem SA.putOi {j : Nat} {x : Addr} {it : It0} (S : SA K B G H σ δ (x :: X)) (a : ItA K G H x it) (hi : j < δ.length) : SA K B G H (σ.set j (some (.ref x))) (δ.set j (.oi x it)) X := by
  obtain ⟨F, s1, s2, s3, s4⟩ := S.sl
  obtain ⟨o, F1, Fi, F2, e1, e2, y, k⟩ := s1.cut (i := j) (s := δ[j]) (by simp [hi])
  subst e1
  refine ⟨S.rel, F1 ++ ([x] ++ F2), k H (some (.ref x)) (.oi x it) [x] (fun a u e _ => e) (.oi (s4 x (by simp)) a), ?_, fun q m => s3 q ?_, fun q m => s4 q (List.mem_cons_of_mem _ m)⟩
  · have e : (F1 ++ ([x] ++ F2) ++ X).Perm (F1 ++ (F2 ++ x :: X)) := by
      rw [List.append_assoc]
      refine List.Perm.append_left F1 ?_
      simpa using (List.perm_middle (a := x) (l₁ := F2) (l₂ := X)).symm
    rw [e.nodup_iff]
    simp only [List.append_assoc] at s2
    refine s2.sublist ?_
    exact (List.Sublist.refl F1).append (List.sublist_append_right Fi (F2 ++ x :: X))
  · simp only [List.singleton_append, List.mem_append, List.mem_cons] at m ⊢
    rcases m with (m | m | m) | m
    · exact .inl (.inl m)
    · exact .inr (.inl m)
    · exact .inl (.inr (.inr m))
    · exact .inr (.inr m)
theorem sd_asgMk {j : Nat} {it : It0} (h : EI K B δ te it) (hj : j < δ.length) (q : ∀ x, P.n (δ.set j (.oi x it))) : SD K B δ (tAsg te (gName j)) P := fun G H σ S E k1 k2 k3 k4 =>
  h G H σ [] S _ fun x G1 H1 x1 x2 S1 hit => k1 _ _ _ _ x1 (S1.putOi hit hj) (q x)
/-- an object of one's own handed on as a datum; the answer is a list of whole numbers -/
theorem ed_callOi {j : Nat} {x : Addr} {it : It0} {R : List D → D → Prop} {E : XK} {l : List Int} (hj : δ[j]? = some (.oi x it)) (hR : R [obD it] (.lst (dI l))) : ED K B δ (tCall (spR K R) [] E (tCons (tVar j) tNil)) (.lst (dI l)) := fun G H σ X S Q k => by
  obtain ⟨e2, hit, S1⟩ := S.takeOi hj
  have hz : ∀ q ∈ [x], G q = none := fun q m => by
    have : q = x := by simpa using m
    rw [this]
    obtain ⟨F, _, _, s3, _⟩ := S1.sl
    exact (s3 x (by simp)).1
  have ex := frz_ex (H := H) hz
  obtain ⟨dx, fs, h1, h2⟩ := hit
  refine ⟨_, e2, ?_⟩
  refine ⟨frzH [x] G H, _, _, frz_H S.rel.s, .cons (.obj (by rw [frz_in (by simp)]; exact h1) (h2.mono ex)) .nil, hR, fun v G' H' f1 f2 f3 f4 av => ?_⟩
  obtain ⟨S2, x3⟩ := S.thawed hz f1 f2 f3 f4
  refine k v _ H' x3 f2 S2 (at_thaw av fun q m z => ?_)
  have : q = x := by simpa using m
  subst this
  have := f1 q _ (by rw [frz_in (by simp)]; exact h1)
  rw [this] at z
  cases z
theorem ed_isNOi {j : Nat} {x : Addr} {it : It0} (hj : δ[j]? = some (.oi x it)) : ED K B δ (tIsN (tVar j)) (.bl false) := fun G H σ X S Q k => by
  obtain ⟨e2, _, _⟩ := S.takeOi hj
  exact ⟨_, e2, k _ _ _ (Ex.refl _) (Ex.refl _) S .bl⟩
/-- a def that answers None or a new object -/
def SDI (K : PySem.W.Frag) (B : Bs) (δ : List Sl) (ts : TS) (o : Option It0) : Prop := ∀ G H σ, SA K B G H σ δ [] → ∀ E : Ends,
  (o = none → ∀ G' H' σ' δ', Ex G G' → SA K B G' H' σ' δ' [] → E.rt .non H') → (∀ it, o = some it → ∀ x G' H' σ' δ', Ex G G' → SA K B G' H' σ' δ' [x] → ItA K G' H' x it → E.rt (.ref x) H') → ts E σ H
theorem sdi_seq {o : Option It0} (h : SD K B δ t { n := fun δ' => SDI K B δ' u o, r := fun d _ => d = .non ∧ o = none }) : SDI K B δ (tSeq t u) o := fun G H σ S E k1 k2 =>
  h G H σ S { E with nx := u E } (fun G' H' σ' δ' a b c => c G' H' σ' b E (fun ho G2 H2 σ2 δ2 a2 b2 => k1 ho G2 H2 σ2 δ2 (a.trans a2) b2) (fun it ho x G2 H2 σ2 δ2 a2 b2 c2 => k2 it ho x G2 H2 σ2 δ2 (a.trans a2) b2 c2)) (fun v G' H' σ' δ' d a b av hd => by
    obtain ⟨rfl, ho⟩ := hd
    rw [av.non_eq]
    exact k1 ho G' H' σ' δ' a b) (fun _ _ _ _ _ _ z => z.elim) (fun _ _ _ _ _ _ z => z.elim)
theorem sdi_ret {j : Nat} {x : Addr} {it : It0} (hj : δ[j]? = some (.oi x it)) : SDI K B δ (tRet (tVar j)) (some it) := fun G H σ S E k1 k2 => by
  obtain ⟨e2, hit, S1⟩ := S.takeOi hj
  exact ⟨_, e2, k2 it rfl x _ _ _ _ (Ex.refl _) S1 hit⟩
def spNI (K : PySem.W.Frag) (R : List D → Option It0 → Prop) : Sp := fun vs H Q _ => ∃ G ds o, Ex G H ∧ Ats K G vs ds ∧ R ds o ∧
  (o = none → ∀ G' H', Ex G G' → Ex H H' → Ex G' H' → (∀ a o, H a = some o → G a = none → G' a = none) → Q .non H') ∧
  (∀ it, o = some it → ∀ x G' H', Ex G G' → Ex H H' → Ex G' H' → (∀ a o, H a = some o → G a = none → G' a = none) → H x = none → G' x = none → ItA K G' H' x it → Q (.ref x) H')
theorem fn_newI {Pr : Program} {w : World} {mg : Str → Option Value} {base : Heap} {x qual : Str} {params : Arguments} {body : List Stmt} {scope : Scope} {dvs : List V} {kws : List (Str × V)} {f : Addr} {fd : FuncData} {N ps : List Str} {k : Nat} {R : List D → Option It0 → Prop}
    (F : FunD K x qual params body scope dvs kws f fd) (S : FnScope N ps scope) (len : ∀ ds d, R ds d → ds.length = ps.length)
    (hbody : ∀ (cdv : Value) (A : Around) (outer : List Env) (s : Shared) (H : Hp) (E : XK), Room k (A.deeper (envOfC qual scope s.heap.objs.size f cdv)) →
      ∃ t, PSs (cxOf CX0 Pr w K mg base N qual scope f cdv A outer s H E).nox body t ∧ ∀ B ds d, R ds d → SDI K B (entry N ds) t d) : FnOk Pr w K mg base CX0 (k + 1) f fd ps (spNI K R) := by
  refine F.ok S (fun vs H Q E h => ?_) (fun cdv A outer s H vs Q E hr h => ?_)
  · obtain ⟨G, ds, d, _, a, r, _⟩ := h
    rw [a.length]
    exact len ds d r
  · obtain ⟨t, ht, hs⟩ := hbody cdv A outer s H E hr
    refine ⟨t, PSs.nox ht, ?_⟩
    obtain ⟨G, ds, d, e, a, r, q1, q2⟩ := h
    refine hs ⟨G, H, fun _ => False⟩ ds d r G H _ (sa_entry e a) _ (fun ho G' H' σ' δ' e1 S' => ?_) (fun it ho x G' H' σ' δ' e1 S' hit => ?_)
    · exact q1 ho G' H' e1 (fun b o hb => S'.rel.h b o hb (fun z => z)) S'.rel.s (fun b o hb hg => S'.rel.f b o hb hg)
    · obtain ⟨F, s1, s2, s3, s4⟩ := S'.sl
      exact q2 it ho x G' H' e1 (fun b o hb => S'.rel.h b o hb (fun z => z)) S'.rel.s (fun b o hb hg => S'.rel.f b o hb hg) (s4 x (by simp)) (s3 x (by simp)).1 hit
theorem sd_asgCI {j : Nat} {R : List D → Option It0 → Prop} {E : XK} {ds : List D} {o : Option It0} (h : EA K B δ ta ds) (hR : R ds o) (hj : j < δ.length) (q1 : o = none → P.n (δ.set j (.sh .non))) (q2 : ∀ it x, o = some it → P.n (δ.set j (.oi x it))) :
    SD K B δ (tAsg (tCall (spNI K R) [] E ta) (gName j)) P := fun G H σ S E' k1 k2 k3 k4 =>
  h G H σ [] S _ fun vs G1 H1 x1 x2 S1 a => by
    rw [List.append_nil]
    refine ⟨G1, ds, o, S1.rel.s, a, hR, fun ho G' H' f1 f2 f3 f4 => ?_, fun it ho x G' H' f1 f2 f3 f4 hp hp' hit => ?_⟩
    · exact k1 G' H' _ _ (x1.trans f1) ((S1.after f1 f2 f3 f4).put .non hj) (q1 ho)
    · refine k1 G' H' _ _ (x1.trans f1) (SA.putOi ?_ hit hj) (q2 it x ho)
      have S2 := S1.after f1 f2 f3 f4
      obtain ⟨F', t1, t2, t3, t4⟩ := S1.sl
      have nH : H' x ≠ none := by
        obtain ⟨dx, fs, h1, _⟩ := hit
        rw [h1]
        simp
      refine ⟨S2.rel, F', t1.mono f1 f2, ?_, fun c m => ?_, fun c m => ?_⟩
      · have np : x ∉ F' ++ [] := fun m => (t3 x m).2 hp
        have pe : (F' ++ x :: []).Perm (x :: (F' ++ [])) := List.perm_middle
        rw [pe.nodup_iff]
        exact List.nodup_cons.mpr ⟨np, t2⟩
      · rcases (List.perm_middle (a := x) (l₁ := F') (l₂ := [])).mem_iff.mp m with m
        rcases List.mem_cons.mp m with rfl | m
        · exact ⟨hp', nH⟩
        · obtain ⟨q1, q2⟩ := t3 c m
          cases z : H1 c with
          | none => exact absurd z q2
          | some o => exact ⟨f4 c o z q1, by rw [f2 c o z]; simp⟩
      · have : c = x := by simpa using m
        subst this
        cases z : B.H0 c with
        | none => rfl
        | some o => exact absurd hp (S1.rel.t c (by rw [z]; simp))
/-- a new list becomes the state -/
theorem sd_toSt (i : Nat) (hi : δ[i]? = some (.own [])) (h : ∀ p, SD K B (δ.set i (.st p [] [])) t P) : SD K B δ t P := fun G H σ S E k1 k2 k3 k4 => by
  obtain ⟨F, s1, s2, s3, s4⟩ := S.sl
  obtain ⟨o, F1, Fi, F2, e1, e2, x, k⟩ := s1.cut hi
  subst e1
  cases x with
  | own n a b =>
    rename_i p vs
    cases b
    have hq : ∀ c ∈ [p], B.H0 c = none ∨ B.W c := fun c m => by
      have e : c = p := by simpa using m
      rw [e]
      exact .inl n
    have q := k H (some (.ref p)) (.st p [] []) [p] (fun a u e _ => e) (.st hq a .nil)
    rw [set_self e2] at q
    exact (h p).run (Ex.refl _) ⟨S.rel, _, q, s2, s3, s4⟩ k1 k2 k3 k4
theorem sd_lenSt {i : Nat} {p : Addr} {xs : List Addr} {its : List It0} (hi : δ[i]? = some (.st p xs its)) (h : xs.length = its.length → SD K B δ t P) : SD K B δ t P := fun G H σ S E k1 k2 k3 k4 => by
  obtain ⟨_, _, g2, _⟩ := S.st hi
  exact h (paired_len g2) G H σ S E k1 k2 k3 k4
end
end Dg
namespace Rl
open PySem PySem.Spec PyProof.Rows L2 Dg

theorem fv2 {K : PySem.W.Frag} {G : Hp} {vs : List V} {a b : D} (h : Ats K G vs [a, b]) : ∃ x y, vs = [x, y] ∧ At K G x a ∧ At K G y b := h.two
def itTab (t : Vanbkh.Table) : It0 := ("Table", tbl t)
inductive r_read_full_text : List D → Option It0 → Prop
  | mk {l : List Int} (h : l.length ≤ 99999) : r_read_full_text [.lst (dI l)] ((mReadFull l).map itTab)
abbrev N_read_full_text : List Str := ["text", "rows", "table", "header"]
theorem sc_read_full_text : FnScope N_read_full_text ["text"] (defScope (top 97)) := ⟨rfl, rfl, rfl, by decide +kernel, rfl, by decide +kernel, by decide +kernel⟩
theorem ok_read_full_text {Pr : Program} {w : World} {K : PySem.W.Frag} {mg : Str → Option Value} {base : Heap} (T : Tx K mg) : Ok Pr w K mg base 9 "read_full_text" ["text"] (spNI K r_read_full_text) := by
  obtain ⟨fd, F⟩ := T.d_read_full_text
  refine ⟨⟨fd, fn_newI (N := N_read_full_text) F sc_read_full_text (fun ds d h => by cases h; rfl) ?_, F.bindsN fun _ _ _ _ _ _ us hl => match us, hl with | [_], _ => rfl⟩, F.kp, T.g_read_full_text⟩
  intro cdv A outer s H E hr
  refine ⟨_, (pss_cons (ps_set (i := 1) sc_read_full_text.nd rfl (Or.inl rfl) (pe_callO (ok_read_rows T) (hr.mono (by decide)) rfl (pa_cons (pe_callO (ok_split_at T) (hr.mono (by decide)) rfl (pa_cons (pv 0) (pa_cons (pe_gint rfl T.i_LINE_FEED) pa_nil))) pa_nil)))
 (pss_cons (ps_if (PW.pt (pw_or (pt_cmp (pc_isN (pv 1)) rfl) (pw_or1 (pt_not (pt_val (pe_callB (r := rAll K) (cr_all rfl) (by rfl) T.f_all (by decide +kernel) (pa_cons (pe_lc (own := [("header", 3)]) (g := gName 3) (tt := tYes) rfl sc_read_full_text.nd (pi_list (pe_ix (r := rIxL K) ix_list (pv 1) pe_int (fun _ _ => rfl))) (blkOk_by (own := [("header", 3)]) (N := N_read_full_text) (sc := (defScope (top 97))) (by decide +kernel)) (fun _ _ _ _ _ => pg_name (i := 3) sc_read_full_text.nd rfl (Or.inl rfl)) (fun _ _ _ _ _ => pts_nil) (fun _ _ _ _ _ => (pe_callO (ok_is_text_cell T) (hr.mono (by decide)) rfl (pa_cons (pv 3) pa_nil)))) pa_nil)))))))
 (pss_one (ps_ret pe_non))
 pss_nil)
 (pss_cons (ps_set (i := 2) sc_read_full_text.nd rfl (Or.inl rfl) (pe_makeO (ok_Table T) (hr.mono (by decide)) rfl (pa_cons (pe_ix (r := rIxL K) ix_list (pv 1) pe_int (fun _ _ => rfl)) (pa_cons (pe_slice (r := rSlL K) sl_list (pv 1) (po_some pe_int) po_none) pa_nil))))
 (pss_cons (ps_if (pt_cmpR (op_neD hr.units) (pe_callO (ok_full_text T) (hr.mono (by decide)) rfl (pa_cons (pv 2) pa_nil)) (pv 0) (nomark _))
 (pss_one (ps_ret pe_non))
 pss_nil)
 (pss_one (ps_ret (pv 2))))))), ?_⟩
  intro B ds d hR
  obtain ⟨⟩ := hR
  rename_i l hl
  have hs := mSplit_len 10 l
  refine sdi_seq (sd_asg (ed_call (ea_cons (ed_call (ea_cons (ed_var rfl) (ea_cons ed_int ea_nil)) (.mk (b := false) (l := l) (by omega))) ea_nil) (.mk (by omega) (fun p hp => by have := hs.2 p hp; omega))) (hlt rfl) ?_)
  have hf : mReadFull l = match mReadRows (mSplit 10 l) with
    | none => none
    | some rows => if !((rows.headD []).all fun c => !Vanbkh.isNumber c) then none else if bI (Vanbkh.tableText (mTable rows)) = l then some (mTable rows) else none := rfl
  cases q : mReadRows (mSplit 10 l) with
  | none =>
    refine sdi_seq (sd_if (et_or (b := false) (et_B (ed_isN (ed_var rfl))) (fun h => absurd h (by decide))) (fun h => ?_) (fun h => absurd h (by decide)))
    refine (sd_ret ed_non ?_)
    refine ⟨rfl, ?_⟩
    rw [hf, q]
    rfl
  | some rows =>
    obtain ⟨h1, h2, h3⟩ := mReadRows_ok q
    obtain ⟨r0, rr, rfl⟩ := List.exists_cons_of_ne_nil h1
    have q0 := h3 r0 (by simp)
    refine sdi_seq (sd_if (et_or (b := !(r0.all fun c => !Vanbkh.isNumber c)) (et_B (ed_isN (ed_var rfl))) (fun h => (et_not (et_B (ed_is (ed_all (ed_is (en_lcL (f := dC) (l := r0) (g := fun c => D.bl (!Vanbkh.isNumber c)) (dw_listL (ed_ix (ds := (r0 :: rr).map dCs) (ed_var rfl) ed_int (atI_zero _ _))) rfl rfl (fun x hx => (ed_call (ea_cons (ed_var rfl) ea_nil) (.mk))) (by omega)).ed (e := .lst ((r0.map (fun c => !Vanbkh.isNumber c)).map D.bl)) (by rw [List.map_map]; rfl))) (e := .bl (r0.all fun c => !Vanbkh.isNumber c)) (by rw [List.all_map]; rfl)))))) (fun h => ?_) (fun h => ?_))
    · refine (sd_ret ed_non ?_)
      refine ⟨rfl, ?_⟩
      have h' : (!(r0.all fun c => !Vanbkh.isNumber c)) = true := h
      rw [hf, q]
      show (if (!(r0.all fun c => !Vanbkh.isNumber c)) = true then none else _).map itTab = none
      rw [if_pos h']
      rfl
    refine sd_next ?_
    have h' : (!(r0.all fun c => !Vanbkh.isNumber c)) = false := h
    have h'' : (r0.all fun c => !Vanbkh.isNumber c) = true := by simpa using h'
    obtain ⟨v, e⟩ := mTable_VT q h''
    have eh : (mTable (r0 :: rr)).headers.map Vanbkh.Cell.text = r0 := (List.cons.inj e).1.symm
    have er : (mTable (r0 :: rr)).rows = rr := (List.cons.inj e).2.symm
    have ts := text_short v
    refine sdi_seq (sd_asgMk (ei_make (fs := tbl (mTable (r0 :: rr))) (ea_cons (ed_ix (d := dCs r0) (ds := (r0 :: rr).map dCs) (ed_var rfl) ed_int (atI_zero _ _)) (ea_cons (ed_is (en_slice (ds := (r0 :: rr).map dCs) (ed_var rfl) (eo_some ed_int) eo_none).ed (e := dRows rr) (by rw [cutD_from _ (by omega)]; rfl)) ea_nil)) rfl (fun G vs hv => ?_)) (hlt rfl) (fun x0 => ?_))
    · obtain ⟨x, y, rfl, ax, ay⟩ := fv2 hv
      unfold tbl
      rw [eh, er]
      exact .cons .int (.cons ax (.cons ay .nil))
    refine sdi_seq (sd_if (et_B (ed_neL (l := bI (Vanbkh.tableText (mTable (r0 :: rr)))) (m := l) (ed_callOi (x := x0) rfl (.mk v)) (ed_var rfl))) (fun h => ?_) (fun h => ?_))
    · refine (sd_ret ed_non ?_)
      refine ⟨rfl, ?_⟩
      rw [hf, q]
      show (if (!(r0.all fun c => !Vanbkh.isNumber c)) = true then none else if bI (Vanbkh.tableText (mTable (r0 :: rr))) = l then some (mTable (r0 :: rr)) else none).map itTab = none
      rw [if_neg (by rw [h']; simp), if_neg (by simpa using h)]
      rfl
    refine sd_next ?_
    have ef : mReadFull l = some (mTable (r0 :: rr)) := by
      rw [hf, q]
      show (if (!(r0.all fun c => !Vanbkh.isNumber c)) = true then none else if bI (Vanbkh.tableText (mTable (r0 :: rr))) = l then some (mTable (r0 :: rr)) else none) = _
      rw [if_neg (by rw [h']; simp), if_pos (by simpa using h)]
    rw [ef]
    exact sdi_ret rfl
end Rl
namespace Rl
open PySem PySem.Spec PyProof.Rows L2 Dg NdefX LamX
/-! ### the key of a row: the nested def -/
abbrev sKey : Stmt := (defBody (top 119)).getD 0 (.Pass ⟨0, 0, 0, 0⟩)
def qKey : Str := "order_rows.<locals>.cell_in_column"
def mkKey (cl : List (Str × Addr)) : Addr → NF := NF.of sKey "cell_in_column" qKey cl
def spKey (K : PySem.W.Frag) : List (Option V) → Sp := fun ws vs H Q _ => ∃ p xs c y, vs = [.ref p] ∧ ws = [some (.int c)] ∧ SqL K H p xs ∧ L2.atI xs c = some y ∧ Q y H
theorem ns_key : NScope ["row", "column"] ["row"] ["column"] (C8.fnScope sKey) := nscope_by (by decide +kernel)
theorem nok_key {Pr : Program} {w : World} {K : PySem.W.Frag} {mg : Str → Option Value} {base : Heap} {f c' : Addr} {cl : List (Str × Addr)} : NOk Pr w K mg base CX0 1 f (mkKey cl c') ["row"] ["column"] (spKey K) := by
  refine nok_of (N := ["row", "column"]) ns_key (fun doc pm ctv us hl => match us, hl with | [_], _ => rfl) (fun ws vs H Q E h => ?_) (fun A outer s H vs ws Q E hr hf hc hw h => ⟨_, pss_one (ps_ret (pe_ix (r := rIxL K) ix_list (pv 0) (pv 1) (fun _ _ => rfl))), ?_⟩)
  · obtain ⟨p, xs, c, y, rfl, _⟩ := h
    rfl
  · obtain ⟨p, xs, c, y, rfl, rfl, h1, h2, q⟩ := h
    exact ⟨.ref p, rfl, .int c, rfl, p, xs, c, y, rfl, rfl, h1, h2, q⟩
/-! ### sorted(rows, key=cell_in_column) -/
theorem reads_cell {P : Program} {w : World} {K : PySem.W.Frag} {G H : Hp} {v : V} {c : Vanbkh.Cell} (e : Ex G H) (a : At K G v (dC c)) : ∃ q, v = .ref q ∧ ∀ h : Heap, HOk P w H h → Reads h (.ref q) (kD c) [] := by
  have hint : ∀ (h : Heap) (l : List Int) (its : List Value), Vals (l.map V.int) its → ReadsAll h its (l.map PyData.int) [] := by
    intro h l
    induction l with
    | nil =>
      intro its r
      cases r
      exact .nil
    | cons i l ih =>
      intro its r
      cases r with
      | cons r1 r2 =>
        obtain ⟨t, rfl⟩ := r1
        exact ReadsAll.cons (as := []) (bs := []) (.int i t) (ih _ r2)
  cases c with
  | number z =>
    obtain ⟨q, vs, rfl, h1, h2⟩ := a.tup_eq
    obtain ⟨x, y, rfl, a1, a2⟩ := h2.two
    refine ⟨q, rfl, fun h ok => ?_⟩
    obtain ⟨_, its, rv, o, g1, g2, n, g3⟩ : _ ∧ ∃ its : List Value, Vals _ its ∧ IsTup h q its.toArray := ok q _ (e _ _ h1)
    rw [a1.int_eq, a2.int_eq] at rv
    exact .tuple g1 g2 g3 (by
      have := hint h [0, z] its rv
      simpa using this)
  | text t =>
    obtain ⟨q, vs, rfl, h1, h2⟩ := a.tup_eq
    obtain ⟨x, y, rfl, a1, a2⟩ := h2.two
    obtain ⟨q2, vs2, rfl, k1, k2⟩ := a2.tup_eq
    have ev := k2.ints_eq
    subst ev
    refine ⟨q, rfl, fun h ok => ?_⟩
    obtain ⟨_, its, rv, o, g1, g2, n, g3⟩ : _ ∧ ∃ its : List Value, Vals _ its ∧ IsTup h q its.toArray := ok q _ (e _ _ h1)
    obtain ⟨_, its2, rv2, o2, g4, g5, n2, g6⟩ : _ ∧ ∃ its : List Value, Vals _ its ∧ IsTup h q2 its.toArray := ok q2 _ (e _ _ k1)
    rw [a1.int_eq] at rv
    cases rv with
    | cons r1 rv =>
      cases rv with
      | cons r2 rv =>
        cases rv
        obtain ⟨u1, rfl⟩ := r1
        cases r2
        exact .tuple g1 g2 g3 (ReadsAll.cons (as := []) (bs := []) (.int 1 u1) (ReadsAll.cons (as := []) (bs := []) (.tuple g4 g5 g6 (by simpa using hint h (bI t) its2 rv2)) .nil))
def RowR (K : PySem.W.Frag) (G : Hp) (v : Value) (r : List Vanbkh.Cell) : Prop := ∃ y, RelV y v ∧ At K G y (dCs r)
theorem rows_each {K : PySem.W.Frag} {G : Hp} : ∀ {vs : List V} {us : List Value} {rows : List (List Vanbkh.Cell)}, Ats K G vs (rows.map dCs) → Vals vs us → PySem.W.EachIs (RowR K G) us rows
  | _, _, [], a, r => by
    cases a
    cases r
    exact .nil
  | _, _, _ :: _, a, r => by
    cases a with
    | cons a1 a2 =>
      cases r with
      | cons r1 r2 => exact .cons ⟨_, r1, a1⟩ (rows_each a2 r2)
theorem rows_back {K : PySem.W.Frag} {G : Hp} : ∀ {us : List Value} {xs : List V} {rows : List (List Vanbkh.Cell)}, PySem.W.EachIs (RowR K G) us rows → Vals xs us → Ats K G xs (rows.map dCs)
  | _, _, _, .nil, r => by
    cases r
    exact .nil
  | _, _, _, .cons a t, r => by
    cases r with
    | @cons x _ _ _ r1 r2 =>
      obtain ⟨y, ry, ay⟩ := a
      have exy : x = y := by
        obtain ⟨p, vs, rfl, _, _⟩ := ay.lst_eq
        cases ry
        cases x <;> first
          | (cases r1; rfl)
          | (obtain ⟨_, z⟩ := r1; cases z)
          | cases r1
      rw [exy]
      exact .cons ay (rows_back t r2)
/-- where the call of sorted stands -/
def SortTold (K : PySem.W.Frag) (cl : List (Str × Addr)) (ji : Nat) (b : Bool) (zs : V → List V) (σ : L2.St) (vs ys : List V) (H2 : Hp) (Q : VK) : Prop := ∃ x f c' G rows col, vs = [x] ∧ ys = zs (.ref f) ∧ H2 f = some (FnO f (mkKey cl c')) ∧ H2 c' = some (CodeO c' (mkKey cl c').qual) ∧ slotAt σ ji = some (.int col) ∧ Ex G H2 ∧ At K G x (dRows rows) ∧
  (∀ r ∈ rows, 0 ≤ col ∧ col < r.length) ∧ ∀ p xs, H2 p = none → Ats K G xs ((rows.mergeSort (rowLe b col.toNat)).map dCs) → Q (.ref p) (upd H2 p (.lst xs))
def tSortK (K : PySem.W.Frag) (cl : List (Str × Addr)) (ji : Nat) (b : Bool) (zs : V → List V) (ta tk : TA) : TE := fun σ H Q => ta σ H fun vs H1 => tk σ H1 fun ys H2 => SortTold K cl ji b zs σ vs ys H2 Q
theorem pe_sortK {X : Cx} {K : PySem.W.Frag} {cl : List (Str × Addr)} {ji : Nat} {b : Bool} {zs : V → List V} {ks : List Str} {e : Expr} {kws : List Keyword} {p pos : Pos} {ta tk : TA} (hK : X.K = K) (hr : Room 3 X.A) (cp : X.Ok → Caps X cl ["column"] [ji]) (hg : Gl X "sorted") (hm : X.mg "sorted" = none)
    (hw : ∀ (f : Addr) (ws : List Value), Vals (zs (.ref f)) ws → (∀ a, argsOk "sorted" ⟨[.ref a], ks.zip ws⟩) ∧ (∀ a, argsOk "list.sort" ⟨[a], ks.zip ws⟩) ∧ ∀ x, Builtin.«list.sort» ⟨[.ref x], ks.zip ws⟩ = PyProof.Rows.ksk_tree x (.ref f) b)
    (ha : PA X [e] ta) (hk : PK X kws tk) (he : backTo pos (starEach [e] X.env) = (false, eval e X.env) :: backTo pos (starEach [] X.env) := by rfl) (hpl : (backTo pos (starEach [e] X.env)).any (·.1) = false := by rfl)
    (hall : (backToKw pos (keywordEach kws X.env)).all (·.1.isSome) = true := by rfl) (hnone : (backToKw pos (keywordEach kws X.env)).any (·.1.isNone) = false := by rfl) (hks : (backToKw pos (keywordEach kws X.env)).filterMap (·.1) = ks := by rfl) :
    PE X (.Call (.Name "sorted" p) [e] kws pos) (tSortK K cl ji b zs ta tk) := by
  subst hK
  refine ⟨fun pins s σ H Q I h => ?_⟩
  refine wpAny_Call_Name_kw (ld_blt I hg hm (u := .builtin "sorted") (by decide +kernel) ?_ (by decide) (by decide))
  refine PyProof.Rows.callWith_kw (thn (ha.run pos pins s σ H _ I h) fun us s1 ⟨vs, H1, I1, r1, q1⟩ => thn (hk.run pos pins s1 σ H1 _ I1 q1) fun ws s2 ⟨ys, H2, I2, r2, q2⟩ => ?_) he hpl hall hnone
  rw [hks]
  obtain ⟨x, f, c', G, rows, col, rfl, rfl, hf, hc, hj, eG, ax, hcol, q⟩ := q2
  obtain ⟨l, xs, rfl, g1, g2⟩ := ax.lst_eq
  obtain rfl := Vals.ref1 r1
  obtain ⟨w1, w2, w3⟩ := hw f ws r2
  obtain ⟨its, rv, hl, hz⟩ := I2.list (SqL.of (eG _ _ g1))
  refine sorted_by (fun r : List Vanbkh.Cell => r.getD col.toNat (.number 0)) (R := RowR X.K G) I2 hl.isList (by rw [← rv.length]; exact hz) (rows_each g2 rv) (by have := hr.un; omega) (w1 l) (fun x => w2 (.ref x)) w3 (fun v r hR hmem ps s' I' => ?_) (fun v r ⟨y, hy, _⟩ => ⟨y, hy⟩) (fun D out zs' s3 eo ro hD I3 => ⟨.ref D, _, I3, rfl, q D zs' hD (rows_back eo ro)⟩)
  obtain ⟨y, ry, ay⟩ := hR
  obtain ⟨p', cs, rfl, k1, k2⟩ := ay.lst_eq
  cases ry
  have hc2 := hcol r hmem
  have hr2 : r[col.toNat]? = some (r.getD col.toNat (.number 0)) := by
    rw [List.getD_eq_getElem?_getD, List.getElem?_eq_getElem (by omega)]
    rfl
  obtain ⟨u, u1, u2⟩ := k2.get (i := col.toNat) (d := dC (r.getD col.toNat (.number 0))) (by rw [List.getElem?_map, hr2]; rfl)
  obtain ⟨qa, rfl, hread⟩ := reads_cell (P := X.prog) (w := X.w) (H := H2) eG u2
  have cells := cells_of I' (cp I'.ok)
  have ec : [ji].map (slotAt σ) = [some (.int col)] := by rw [List.map_cons, hj] <;> rfl
  rw [ec] at cells
  refine wpAny_call (codeAny_mono (nok_key.run X.A.in1.in1 X.stack s' H2 [.ref p'] [.ref p'] [some (.int col)] (fun v H3 => H3 = H2 ∧ v = .ref qa) (fun _ _ _ => False) hr.in1.in1 I'.env0.in1.in1 hf hc cells (.cons rfl .nil) ⟨p', cs, col, .ref qa, rfl, rfl, SqL.of (eG _ _ k1), atI_lt hc2.1 u1, rfl, rfl⟩) fun res s3 hres => ?_)
  cases res with
  | error e => exact False.elim hres
  | ok fl =>
    cases fl with
    | ret u3 =>
      obtain ⟨v3, H3, J, rv3, rfl, rfl⟩ := I'.after hres
      cases rv3
      exact ⟨J, qa, rfl, hread⟩
    | next => exact False.elim hres
    | brk => exact False.elim hres
    | cont => exact False.elim hres
end Rl
namespace Rl
open PySem PySem.Spec PyProof.Rows L2 Dg NdefX LamX
/-! ### data alone -/
def isDat : HO → Bool
  | .lst _ => true
  | .tup _ => true
  | .ins _ _ _ => true
  | .frz _ _ => true
  | _ => false
def NT (G : Hp) : Prop := ∀ b o, G b = some o → isDat o = true
theorem nt_ext {G H H1 : Hp} (n : NT G) (e : Ex G H) (x : ExtN H H1) : Ex G H1 := fun b o h => x b o (e b o h) fun ps z => by
  have := n b o h
  rw [z] at this
  cases this
/-! ### order_rows -/
abbrev odP : He.Defn := ("order_rows", none)
def tabs (K : PySem.W.Frag) : List NTab := [((He.cT K odP).2, fun _ _ => qKey)]
abbrev N_order_rows : List Str := ["rows", "column", "descending", "cell_in_column"]
theorem sc_order_rows : FnScope N_order_rows ["rows", "column", "descending"] (defScope (top 119)) := ⟨rfl, rfl, rfl, by decide +kernel, rfl, by decide +kernel, by decide +kernel⟩
theorem nb_key : ndefB (defScope (top 119)) (C8.fnScope sKey) ["column"] = true := by decide +kernel
def spOrd (K : PySem.W.Frag) : Sp := fun vs H Q _ => ∃ G x rows col d, vs = [x, .int col, .int d] ∧ Ex G H ∧ NT G ∧ At K G x (dRows rows) ∧ (∀ r ∈ rows, 0 ≤ col ∧ col < r.length) ∧ TabsN (tabs K) H ∧
  ∀ H1 p xs, ExtN H H1 → (∀ b, H1 b = none → H b = none) → TabsN (tabs K) H1 → H1 p = none → Ats K G xs ((rows.mergeSort (rowLe (decide (d = 1)) col.toNat)).map dCs) → Q (.ref p) (upd H1 p (.lst xs))
theorem ok_order_rows {Pr : Program} {w : World} {K : PySem.W.Frag} {mg : Str → Option Value} {base : Heap} (T : Tx K mg) (TB : TabB base mg (He.cT K odP).1 (He.cT K odP).2) : Ok Pr w K mg base 4 "order_rows" ["rows", "column", "descending"] (spOrd K) := by
  obtain ⟨fd, F⟩ := T.d_order_rows
  have F2 := F
  obtain ⟨oc, od, dV, kV, doc, pm, an, cdv, ct, osl, rfl, lk, hcd, _, _⟩ := F.ex
  obtain ⟨c, rfl⟩ := He.codeIn_ref hcd
  have ec : (He.cT K odP).1 = c := He.codeOf_eq lk rfl
  rw [ec] at TB
  refine ⟨⟨_, fn_of (N := N_order_rows) lk hcd sc_order_rows (fun vs H Q E h => ?_) (fun A outer s H vs Q E hr h => ⟨_, PSs.nox (pss_cons (ps_ndefMS (st := sKey) (T := tabs K) (nm := fun _ _ => qKey) (i := 3) (name := "cell_in_column") rfl TB rfl (List.mem_singleton.mpr rfl) rfl (fun p hp _ => by rw [List.mem_singleton.mp hp]) (ndef_free nb_key) rfl rfl rfl sc_order_rows.nd rfl (Or.inl rfl) (Or.inr rfl))
    (pss_cons (ps_if (pt_cmpR op_eq (pv 2) pe_int (nomark _)) (pss_one (ps_ret (pe_sortK (ji := 1) (b := true) (ks := ["key", "reverse"]) (zs := fun f => [f, .bl true]) rfl (hr.mono (by decide)) (fun ok => Caps.made (scope := C8.fnScope sKey) ok (ndef_free nb_key) (ndef_fr nb_key) rfl) rfl T.f_sorted ?_ (pa_cons (pv 0) pa_nil) (pk_cons (pv 3) (pk_cons pe_bl pk_nil))))) pss_nil)
    (pss_one (ps_ret (pe_sortK (ji := 1) (b := false) (ks := ["key"]) (zs := fun f => [f]) rfl (hr.mono (by decide)) (fun ok => Caps.made (scope := C8.fnScope sKey) ok (ndef_free nb_key) (ndef_fr nb_key) rfl) rfl T.f_sorted ?_ (pa_cons (pv 0) pa_nil) (pk_cons (pv 3) pk_nil)))))), ?_⟩), F2.bindsN fun _ _ _ _ _ _ us hl => match us, hl with | [_, _, _], _ => rfl⟩, F2.kp, T.g_order_rows⟩
  · obtain ⟨G, x, rows, col, d, rfl, _⟩ := h
    rfl
  · intro f ws r
    obtain ⟨w1, w2, rfl, e1, e2⟩ := vals2 r
    obtain rfl : w1 = Value.ref f := e1
    obtain rfl : w2 = Value.bool true := e2
    exact ⟨fun a => ksk_s2 _ _ _, fun a => ksk_l2 _ _ _, fun x => ksk_t2 _ _ _⟩
  · intro f ws r
    obtain ⟨w1, rfl, e1⟩ := vals1 r
    obtain rfl : w1 = Value.ref f := e1
    exact ⟨fun a => ksk_s1 _ _, fun a => ksk_l1 _ _, fun x => ksk_t1 _ _⟩
  · obtain ⟨G, x, rows, col, d, rfl, eG, nG, ax, hcol, hT, q⟩ := h
    refine ⟨hT, fun f c' H1 eN nn T1 f0 f1 c1 => ?_⟩
    have e1 := nt_ext nG eG eN
    refine ⟨.int d, rfl, rfl, _, rfl, ?_⟩
    by_cases hd : d = 1
    · subst hd
      refine (if_pos (by simp)).mpr ?_
      exact ⟨x, rfl, .ref f, rfl, x, f, c', G, rows, col, rfl, rfl, f1, c1, rfl, e1, ax, hcol, fun p xs hp hxs => q H1 p xs eN nn T1 hp hxs⟩
    · have ed : decide (V.int d = V.int 1) = false := by
        rw [L2.dec_int]
        simpa using hd
      rw [ed]
      refine (if_neg Bool.false_ne_true).mpr ?_
      refine ⟨x, rfl, .ref f, rfl, x, f, c', G, rows, col, rfl, rfl, f1, c1, rfl, e1, ax, hcol, fun p xs hp hxs => q H1 p xs eN nn T1 hp ?_⟩
      rw [decide_eq_false hd]
      exact hxs
end Rl
namespace Dg
open PySem PySem.Spec PyProof.Rows L2 NdefX LamX Rl
/-! ### data kept, all else left out -/
def noT (G : Hp) : Hp := fun b => match G b with
  | some o => if isDat o = true then some o else none
  | none => none
section
variable {K : PySem.W.Frag} {B : Bs} {G G' H H' : Hp} {σ : L2.St} {δ : List Sl} {X : List Addr}
theorem noT_of {b : Addr} {o : HO} (h : G b = some o) (d : isDat o = true) : noT G b = some o := by
  unfold noT
  rw [h]
  exact if_pos d
theorem of_noT {b : Addr} {o : HO} (h : noT G b = some o) : G b = some o ∧ isDat o = true := by
  unfold noT at h
  cases e : G b with
  | none => rw [e] at h; cases h
  | some u =>
    rw [e] at h
    have h' : (if isDat u = true then some u else none) = some o := h
    by_cases q : isDat u = true
    · rw [if_pos q] at h'
      cases h'
      exact ⟨rfl, q⟩
    · rw [if_neg q] at h'
      cases h'
theorem nt_noT : NT (noT G) := fun b o h => (of_noT h).2
theorem noT_ex : Ex (noT G) G := fun b o h => (of_noT h).1
theorem noT_none {b : Addr} (h : G b = none) : noT G b = none := by
  unfold noT
  rw [h]
theorem noT_up (n : NT G) (e : Ex G G') : Ex G (noT G') := fun b o h => noT_of (e b o h) (n b o h)
mutual
theorem At.dat : ∀ {v : V} {d : D}, At K G v d → At K (noT G) v d
  | _, _, .non => .non
  | _, _, .bl => .bl
  | _, _, .int => .int
  | _, _, .str => .str
  | _, _, .lst h t => .lst (noT_of h rfl) (Ats.dat t)
  | _, _, .tup h t => .tup (noT_of h rfl) (Ats.dat t)
  | _, _, .obj h t => .obj (noT_of h rfl) (Afs.dat t)
  | _, _, .rq h => .rq (by
    rcases h with (h | ⟨o, h⟩) | h
    · exact .inl (.inl (noT_of h rfl))
    · exact .inl (.inr ⟨o, noT_of h rfl⟩)
    · exact .inr h)
theorem Ats.dat : ∀ {v : List V} {d : List D}, Ats K G v d → Ats K (noT G) v d
  | _, _, .nil => .nil
  | _, _, .cons h t => .cons (At.dat h) (Ats.dat t)
theorem Afs.dat : ∀ {v : List (Str × V)} {d : List (Str × D)}, Afs K G v d → Afs K (noT G) v d
  | _, _, .nil => .nil
  | _, _, .cons h t => .cons (At.dat h) (Afs.dat t)
end
theorem SlA.dat {o : Option V} {s : Sl} {F : List Addr} (x : SlA K B G H o s F) : SlA K B (noT G) H o s F := by
  cases x with
  | un => exact .un
  | sh a => exact .sh a.dat
  | own n a b => exact .own n a b.dat
  | ow2 n a b => exact .ow2 n a (Paired.mapP b fun q ds ⟨vs, c, d⟩ => ⟨vs, c, d.dat⟩)
  | st n a b => exact .st n a (Paired.mapP b fun q ds ⟨dx, vs, c, d⟩ => ⟨dx, vs, c, d.dat⟩)
  | al => exact .al
  | oi n a =>
    obtain ⟨dx, vs, c, d⟩ := a
    exact .oi n ⟨dx, vs, c, d.dat⟩
theorem SlsA.dat : ∀ {σ : L2.St} {δ : List Sl} {F : List Addr}, SlsA K B G H σ δ F → SlsA K B (noT G) H σ δ F
  | _, _, _, .nil => .nil
  | _, _, _, .cons a b => .cons a.dat b.dat
theorem SA.dat (S : SA K B G H σ δ X) (n : NT B.G0) : SA K B (noT G) H σ δ X := by
  obtain ⟨F, s1, s2, s3, s4⟩ := S.sl
  exact ⟨⟨noT_up n S.rel.g, S.rel.h, noT_ex.trans S.rel.s, fun a o h z => noT_none (S.rel.f a o h z), S.rel.t⟩, F, s1.dat, s2, fun p m => ⟨noT_none (s3 p m).1, (s3 p m).2⟩, s4⟩
/-! ### the base, with tables that grew -/
def tabO : HO → Bool
  | .tbl _ => true
  | .ext _ => true
  | _ => false
theorem tab_dat {o : HO} (h : tabO o = true) : isDat o = false := by cases o <;> first | rfl | cases h
def upH (B : Bs) (H : Hp) : Hp := fun a => match H a with
  | some o => if tabO o = true then some o else (match B.H0 a with
    | some u => if tabO u = true then none else some u
    | none => none)
  | none => match B.H0 a with
    | some u => if tabO u = true then none else some u
    | none => none
def upB (B : Bs) (H : Hp) : Bs := ⟨B.G0, upH B H, B.W⟩
theorem upH_tab {a : Addr} {o : HO} (h : H a = some o) (t : tabO o = true) : upH B H a = some o := by
  unfold upH
  rw [h]
  exact if_pos t
theorem upH_old {a : Addr} {o : HO} (h : B.H0 a = some o) (t : tabO o = false) (n : ∀ u, H a = some u → tabO u = false) : upH B H a = some o := by
  unfold upH
  cases e : H a with
  | none =>
    rw [h]
    show (if tabO o = true then none else some o) = some o
    rw [if_neg (by rw [t]; simp)]
  | some u =>
    show (if tabO u = true then some u else _) = some o
    rw [if_neg (by rw [n u e]; simp), h]
    show (if tabO o = true then none else some o) = some o
    rw [if_neg (by rw [t]; simp)]
theorem of_upH {a : Addr} {o : HO} (h : upH B H a = some o) : (H a = some o ∧ tabO o = true) ∨ (B.H0 a = some o ∧ tabO o = false) := by
  have old : (match B.H0 a with | some u => if tabO u = true then none else some u | none => none) = some o → B.H0 a = some o ∧ tabO o = false := fun q => by
    cases e : B.H0 a with
    | none => rw [e] at q; cases q
    | some u =>
      rw [e] at q
      have q' : (if tabO u = true then none else some u) = some o := q
      by_cases z : tabO u = true
      · rw [if_pos z] at q'; cases q'
      · rw [if_neg z] at q'; cases q'; exact ⟨rfl, by simpa using z⟩
  unfold upH at h
  cases e : H a with
  | none => rw [e] at h; exact .inr (old h)
  | some u =>
    rw [e] at h
    have h' : (if tabO u = true then some u else (match B.H0 a with | some u => if tabO u = true then none else some u | none => none)) = some o := h
    by_cases z : tabO u = true
    · rw [if_pos z] at h'; cases h'; exact .inl ⟨rfl, z⟩
    · rw [if_neg z] at h'; exact .inr (old h')
theorem upH_none {a : Addr} {o : HO} (h : B.H0 a = none) (n : H a = some o) (t : tabO o = false) : upH B H a = none := by
  cases e : upH B H a with
  | none => rfl
  | some u =>
    rcases of_upH e with ⟨q, z⟩ | ⟨q, z⟩
    · rw [n] at q
      cases q
      rw [t] at z
      cases z
    · rw [h] at q
      cases q
theorem extN_keep {a : Addr} {o : HO} (x : ExtN H H') (h : H a = some o) (t : tabO o = false) : H' a = some o := x a o h fun ps z => by
  rw [z] at t
  cases t
theorem SlA.up (x : ExtN H H') {o : Option V} {s : Sl} {F : List Addr} (h : SlA K B G H o s F) : SlA K (upB B H') G H' o s F := by
  have key : ∀ {q : Addr} {u : HO}, H q = some u → tabO u = false → (B.H0 q = none → upH B H' q = none) := fun {q u} hq t n => upH_none n (extN_keep x hq t) t
  have all : ∀ {β : Type} {P : Addr → β → Prop} {qs : List Addr} {l : List β}, Paired P qs l → (∀ q b, P q b → ∃ u, H q = some u ∧ tabO u = false) → ∀ q ∈ qs, ∃ u, H q = some u ∧ tabO u = false := by
    intro β P qs l h f
    induction h with
    | nil => intro q m; simp at m
    | cons r t ih =>
      intro q m
      rcases List.mem_cons.mp m with rfl | m
      · exact f _ _ r
      · exact ih q m
  cases h with
  | un => exact .un
  | sh a => exact .sh a
  | own n a b => exact .own (key a rfl n) (extN_keep x a rfl) b
  | ow2 n a b =>
    refine .ow2 (fun q m => ?_) (extN_keep x a rfl) (Paired.mapP b fun q ds ⟨vs, c, d⟩ => ⟨vs, extN_keep x c rfl, d⟩)
    rcases List.mem_cons.mp m with rfl | m'
    · exact key a rfl (n _ m)
    · obtain ⟨u, hu, tu⟩ := all b (fun q ds ⟨vs, c, d⟩ => ⟨_, c, rfl⟩) q m'
      exact key hu tu (n q m)
  | st n a b =>
    refine .st (fun q m => ?_) (extN_keep x a rfl) (Paired.mapP b fun q ds ⟨dx, vs, c, d⟩ => ⟨dx, vs, extN_keep x c rfl, d⟩)
    rcases n q m with z | z
    · refine .inl ?_
      rcases List.mem_cons.mp m with rfl | m'
      · exact key a rfl z
      · obtain ⟨u, hu, tu⟩ := all b (fun q ds ⟨dx, vs, c, d⟩ => ⟨_, c, rfl⟩) q m'
        exact key hu tu z
    · exact .inr z
  | al => exact .al
  | oi n a =>
    obtain ⟨dx, vs, c, d⟩ := a
    exact .oi (key c rfl n) ⟨dx, vs, extN_keep x c rfl, d⟩
theorem SlsA.up (x : ExtN H H') : ∀ {σ : L2.St} {δ : List Sl} {F : List Addr}, SlsA K B G H σ δ F → SlsA K (upB B H') G H' σ δ F
  | _, _, _, .nil => .nil
  | _, _, _, .cons a b => .cons (a.up x) (b.up x)
theorem SA.up (S : SA K B G H σ δ []) (nG : NT G) (x : ExtN H H') (dom : ∀ a, H a ≠ none → H' a ≠ none) : SA K (upB B H') G H' σ δ [] := by
  obtain ⟨F, s1, s2, s3, s4⟩ := S.sl
  have eG : Ex G H' := nt_ext nG S.rel.s x
  refine ⟨⟨S.rel.g, fun a o h w => ?_, eG, fun a o h z => ?_, fun a h => ?_⟩, F, s1.up x, s2, fun p m => ⟨(s3 p m).1, dom p (s3 p m).2⟩, fun p m => by simp at m⟩
  · rcases of_upH h with ⟨q, _⟩ | ⟨q, t⟩
    · exact q
    · exact extN_keep x (S.rel.h a o q w) t
  · rcases of_upH h with ⟨q, t⟩ | ⟨q, _⟩
    · cases e : G a with
      | none => rfl
      | some u =>
        have d := nG a u e
        have q2 := eG a u e
        rw [q] at q2
        cases q2
        rw [tab_dat t] at d
        cases d
    · exact S.rel.f a o q z
  · cases e : upH B H' a with
    | none => exact absurd e h
    | some u =>
      rcases of_upH e with ⟨q, _⟩ | ⟨q, _⟩
      · rw [q]
        simp
      · exact dom a (S.rel.t a (by rw [q]; simp))
end
end Dg
namespace Dg
open PySem PySem.Spec PyProof.Rows L2 NdefX LamX Rl
/-! ### defs of the state that make the nested def -/
def noTbl (o : HO) : Prop := ∀ ps, o ≠ .tbl ps
structure PostT (K : PySem.W.Frag) (G0 H0 : Hp) (p : Addr) (xs : List Addr) (its' : List It0) (d : D) (v : V) (G' H' : Hp) (xs' : List Addr) : Prop where
  g : Ex G0 G'
  h : ∀ a o, H0 a = some o → noTbl o → a ∉ p :: xs → H' a = some o
  s : Ex G' H'
  f : ∀ a o, H0 a = some o → noTbl o → a ∉ p :: xs → G0 a = none → G' a = none
  pg : G' p = none
  l : H' p = some (.lst (xs'.map V.ref))
  i : Paired (ItA K G' H') xs' its'
  n : (p :: xs').Nodup
  q : ∀ q ∈ xs', (q ∈ xs ∨ H0 q = none ∨ ∃ ps, H0 q = some (.tbl ps)) ∧ G' q = none ∧ H' q ≠ none
  v : At K G' v d
  tb : TabsN (tabs K) H'
def spST (K : PySem.W.Frag) (R : List It0 → List D → D → List It0 → Prop) : Sp := fun vs H Q _ => ∃ G p ws xs its ds d its', vs = .ref p :: ws ∧ Ex G H ∧ NT G ∧ TabsN (tabs K) H ∧ Ats K G ws ds ∧ H p = some (.lst (xs.map V.ref)) ∧ Paired (ItA K G H) xs its ∧ (p :: xs).Nodup ∧ (∀ q ∈ p :: xs, G q = none) ∧ R its ds d its' ∧
  ∀ v G' H' xs', PostT K G H p xs its' d v G' H' xs' → Q v H'
/-- the base of such a def -/
structure OkB (K : PySem.W.Frag) (B : Bs) (p : Addr) (xs : List Addr) : Prop where
  nt : NT B.G0
  tb : TabsN (tabs K) B.H0
  w : ∀ a, B.W a ↔ a ∈ p :: xs
  k : ∀ a ∈ p :: xs, ∃ o, B.H0 a = some o ∧ tabO o = false
def RTB (K : PySem.W.Frag) (B : Bs) (p : Addr) (xs : List Addr) (its' : List It0) (d : D) (v : V) (H' : Hp) : Prop := ∃ G' xs', PostT K B.G0 B.H0 p xs its' d v G' H' xs'
def SDR (K : PySem.W.Frag) (B : Bs) (δ : List Sl) (ts : TS) (RT : V → Hp → Prop) : Prop := ∀ G H σ, SA K B G H σ δ [] → ∀ E : Ends, (∀ v H', RT v H' → E.rt v H') → ts E σ H
section
variable {K : PySem.W.Frag} {B : Bs} {G G' H H' : Hp} {σ : L2.St} {δ : List Sl} {X : List Addr} {ta : TA} {te : TE} {tt : TT} {t u : TS} {d : D} {RT : V → Hp → Prop} {p : Addr} {xs : List Addr} {its its' : List It0}
theorem tabsN_keep {T : List NTab} (h : TabsN T H) (k : ∀ a o, H a = some o → tabO o = true → H' a = some o) : TabsN T H' := fun q hq => by
  obtain ⟨ps, h1, h2, h3⟩ := h q hq
  refine ⟨ps, k _ _ h1 rfl, h2, fun pos cv hc => ?_⟩
  obtain ⟨c, e1, e2⟩ := h3 pos cv hc
  exact ⟨c, e1, k _ _ e2 rfl⟩
theorem OkB.off (O : OkB K B p xs) {a : Addr} {o : HO} (h : B.H0 a = some o) (t : tabO o = true) : ¬ B.W a := fun w => by
  obtain ⟨u, hu, tu⟩ := O.k a ((O.w a).mp w)
  rw [h] at hu
  cases hu
  rw [t] at tu
  cases tu
theorem SA.tabs (S : SA K B G H σ δ X) (O : OkB K B p xs) : TabsN (Rl.tabs K) H := tabsN_keep O.tb fun a o h t => S.rel.h a o h (O.off h t)
theorem SA.own_st {i : Nat} {xs1 : List Addr} (S : SA K B G H σ δ X) (h : δ[i]? = some (.st p xs1 its)) : ∀ q ∈ p :: xs1, B.H0 q = none ∨ B.W q := by
  obtain ⟨F, s1, _⟩ := S.sl
  obtain ⟨o, F1, Fi, F2, _, _, y, _⟩ := s1.cut h
  cases y with
  | st n a b => exact n
/-! rules -/
theorem sdr_seq (h : SD K B δ t { n := fun δ' => SDR K B δ' u RT, r := fun _ _ => False }) : SDR K B δ (tSeq t u) RT := fun G H σ S E k =>
  h G H σ S { E with nx := u E } (fun G' H' σ' δ' a b c => c G' H' σ' b E k) (fun _ _ _ _ _ _ _ _ _ z => z.elim) (fun _ _ _ _ _ _ z => z.elim) (fun _ _ _ _ _ _ z => z.elim)
theorem sdr_ite {b : Bool} (h : ET K B δ tt b) (h1 : b = true → SDR K B δ t RT) (h2 : b = false → SDR K B δ u RT) : SDR K B δ (tSeq (tIfS tt t tNext) u) RT := fun G H σ S E k =>
  h G H σ [] S _ fun G1 H1 e1 e2 S1 => by
    cases b with
    | true => exact h1 rfl G1 H1 σ S1 { E with nx := u E } k
    | false => exact h2 rfl G1 H1 σ S1 E k
/-- what is reached within the layer -/
theorem sdr_of (O : OkB K B p xs) (h : SD K B δ t { n := fun _ => False, r := fun d' δ' => d' = d ∧ ∃ xs', δ'[0]? = some (.st p xs' its') }) : SDR K B δ t (RTB K B p xs its' d) := fun G H σ S E k =>
  h G H σ S E (fun _ _ _ _ _ _ z => z.elim) (fun v G' H' σ' δ' d' e1 S' av hd => by
    obtain ⟨rfl, xs', h0⟩ := hd
    obtain ⟨_, f1, f2, f3, f4⟩ := S'.st h0
    have own := S'.own_st h0
    refine k v H' ⟨G', xs', S'.rel.g, fun a o ha _ na => S'.rel.h a o ha (fun w => na ((O.w a).mp w)), S'.rel.s, fun a o ha _ _ ga => S'.rel.f a o ha ga, (f4 p (by simp)).1, f1, f2, f3, fun q m => ⟨?_, f4 q (List.mem_cons_of_mem _ m)⟩, av, S'.tabs O⟩
    rcases own q (List.mem_cons_of_mem _ m) with z | z
    · exact .inr (.inl z)
    · rcases List.mem_cons.mp ((O.w q).mp z) with z | z
      · exact absurd (z ▸ m) (List.nodup_cons.mp f3).1
      · exact .inl z) (fun _ _ _ _ _ _ z => z.elim) (fun _ _ _ _ _ _ z => z.elim)
/-- return f(items, ..), f such a def -/
theorem sdr_tail {i : Nat} {xs1 : List Addr} {R : List It0 → List D → D → List It0 → Prop} {E0 : XK} {ds : List D} (O : OkB K B p xs) (hi : δ[i]? = some (.st p xs1 its)) (h : EA K B δ ta ds) (hR : R its ds d its') : SDR K B δ (tRet (tCall (spST K R) [] E0 (tCons (tVar i) ta))) (RTB K B p xs its' d) := fun G H σ S E k => by
  obtain ⟨e1, _⟩ := S.st hi
  refine ⟨_, e1, h G H σ [] S _ fun vs G1 H1 x1 x2 S1 a => ?_⟩
  have S2 := S1.dat O.nt
  obtain ⟨_, g1, g2, g3, g4⟩ := S2.st hi
  have own := S2.own_st hi
  show spST K R ((V.ref p :: vs) ++ []) H1 E.rt E0
  rw [List.append_nil]
  refine ⟨noT G1, p, vs, xs1, its, ds, d, its', rfl, S2.rel.s, nt_noT, S2.tabs O, a.dat, g1, g2, g3, fun q m => (g4 q m).1, hR, fun v G' H' xs' P => k v H' ⟨G', xs', S2.rel.g.trans P.g, fun b o hb no nb => ?_, P.s, fun b o hb no nb gb => ?_, P.pg, P.l, P.i, P.n, fun q m => ⟨?_, (P.q q m).2⟩, P.v, P.tb⟩⟩
  · refine P.h b o (S2.rel.h b o hb fun w => nb ((O.w b).mp w)) no fun m => ?_
    rcases own b m with z | z
    · rw [hb] at z
      cases z
    · exact nb ((O.w b).mp z)
  · refine P.f b o (S2.rel.h b o hb fun w => nb ((O.w b).mp w)) no (fun m => ?_) (S2.rel.f b o hb gb)
    rcases own b m with z | z
    · rw [hb] at z
      cases z
    · exact nb ((O.w b).mp z)
  · have inW : B.W q → q ∈ xs := fun w => by
      rcases List.mem_cons.mp ((O.w q).mp w) with z | z
      · exact absurd (z ▸ m) (List.nodup_cons.mp P.n).1
      · exact z
    rcases (P.q q m).1 with z | z | ⟨ps, z⟩
    · rcases own q (List.mem_cons_of_mem _ z) with y | y
      · exact .inr (.inl y)
      · exact .inl (inW y)
    · refine .inr (.inl ?_)
      cases e : B.H0 q with
      | none => rfl
      | some o => exact absurd z (S2.rel.t q (by rw [e]; simp))
    · by_cases w : B.W q
      · exact .inl (inW w)
      · cases e : B.H0 q with
        | none => exact .inr (.inl rfl)
        | some o =>
          have := S2.rel.h q o e w
          rw [z] at this
          cases this
          exact .inr (.inr ⟨ps, rfl⟩)
/-- the rule for such a def -/
theorem fn_stateT {Pr : Program} {w : World} {mg : Str → Option Value} {base : Heap} {x qual : Str} {params : Arguments} {body : List Stmt} {scope : Scope} {dvs : List V} {kws : List (Str × V)} {f : Addr} {fd : FuncData} {N ps : List Str} {k : Nat} {R : List It0 → List D → D → List It0 → Prop}
    (F : FunD K x qual params body scope dvs kws f fd) (S : FnScope N ps scope) (len : ∀ its ds d its', R its ds d its' → ds.length + 1 = ps.length)
    (hbody : ∀ (cdv : Value) (A : Around) (outer : List Env) (s : Shared) (H : Hp) (E : XK), Room k (A.deeper (envOfC qual scope s.heap.objs.size f cdv)) →
      ∃ t, PSs (cxOf CX0 Pr w K mg base N qual scope f cdv A outer s H E).nox body t ∧ ∀ B p xs its ds d its', OkB K B p xs → R its ds d its' → SDR K B (entryS N p xs its ds) t (RTB K B p xs its' d)) : FnOk Pr w K mg base CX0 (k + 1) f fd ps (spST K R) := by
  refine F.ok S (fun vs H Q E h => ?_) fun cdv A outer s H vs Q E hr h => ?_
  · obtain ⟨G, p, ws, xs, its, ds, d, its', rfl, _, _, _, a, _, _, _, _, r, _⟩ := h
    rw [List.length_cons, a.length]
    exact len its ds d its' r
  · obtain ⟨t, ht, hs⟩ := hbody cdv A outer s H E hr
    refine ⟨t, PSs.nox ht, ?_⟩
    obtain ⟨G, p, ws, xs, its, ds, d, its', rfl, e, nG, tb, a, hp, hi, nd, hg, r, q⟩ := h
    have there : ∀ {xs : List Addr} {its : List It0}, Paired (ItA K G H) xs its → ∀ q ∈ xs, ∃ o, H q = some o ∧ tabO o = false := by
      intro xs its b
      induction b with
      | nil => intro q m; simp at m
      | cons r t ih =>
        intro q m
        rcases List.mem_cons.mp m with rfl | m
        · obtain ⟨dx, vs, h1, _⟩ := r
          exact ⟨_, h1, rfl⟩
        · exact ih q m
    exact hs ⟨G, H, fun q => q ∈ p :: xs⟩ p xs its ds d its' ⟨nG, tb, fun a => Iff.rfl, fun a m => by
      rcases List.mem_cons.mp m with rfl | m
      · exact ⟨_, hp, rfl⟩
      · exact there hi a m⟩ r G H _ (sa_entryS e a hp hi nd hg) _ fun v H' ⟨G', xs', P⟩ => q v G' H' xs' P
end
end Dg
namespace Rl
open PySem PySem.Spec PyProof.Rows L2 Dg

inductive r_heading_lines : List D → D → Prop
  | mk {k : Nat} {t : List UInt8} {w : Nat} (hk : 1 ≤ k ∧ k ≤ 3) (ht : t.length ≤ 200) (hw : 20 ≤ w) : r_heading_lines [dIt (.heading k t), .int w] (dBs (Vanbkh.headingLines w k t))
theorem line_len (t : List UInt8) : (Vanbkh.singleLine t).length = t.length := List.length_map _
abbrev N_heading_lines : List Str := ["heading", "width", "line", "first"]
theorem sc_heading_lines : FnScope N_heading_lines ["heading", "width"] (defScope (top 144)) := ⟨rfl, rfl, rfl, by decide +kernel, rfl, by decide +kernel, by decide +kernel⟩
theorem ok_heading_lines {Pr : Program} {w : World} {K : PySem.W.Frag} {mg : Str → Option Value} {base : Heap} (T : Tx K mg) : Ok Pr w K mg base 2 "heading_lines" ["heading", "width"] (spR K r_heading_lines) := by
  obtain ⟨fd, F⟩ := T.d_heading_lines
  refine ⟨⟨fd, fn_pure (N := N_heading_lines) F sc_heading_lines (fun ds d h => by cases h; rfl) ?_, F.bindsN fun _ _ _ _ _ _ us hl => match us, hl with | [_, _], _ => rfl⟩, F.kp, T.g_heading_lines⟩
  intro cdv A outer s H E hr
  refine ⟨_, (pss_cons (ps_set (i := 2) sc_heading_lines.nd rfl (Or.inl rfl) (pe_callO (ok_single_line T) (hr.mono (by decide)) rfl (pa_cons (pe_fldK (K := K) (pv 0) rfl rfl) pa_nil)))
 (pss_cons (ps_if (pt_cmpR op_eq (pe_fldK (K := K) (pv 0) rfl rfl) pe_int (nomark _))
 (pss_one (ps_ret (pe_lst (pa_cons (pe_callO (ok_truncate T) (hr.mono (by decide)) rfl (pa_cons (pe_op op_cat (pe_lst (pa_cons (pe_gint rfl T.i_NUMBER_SIGN) (pa_cons (pe_gint rfl T.i_SPACE) pa_nil))) (pv 2)) (pa_cons (pv 1) pa_nil))) pa_nil))))
 pss_nil)
 (pss_cons (ps_set (i := 3) sc_heading_lines.nd rfl (Or.inl rfl) (pe_callO (ok_truncate T) (hr.mono (by decide)) rfl (pa_cons (pv 2) (pa_cons (pv 1) pa_nil))))
 (pss_cons (ps_if (pt_cmpR op_eq (pe_fldK (K := K) (pv 0) rfl rfl) pe_int (nomark _))
 (pss_one (ps_ret (pe_lst (pa_cons (pv 3) (pa_cons (pe_op op_rep (pe_lst (pa_cons (pe_gint rfl T.i_EQUALS_SIGN) pa_nil)) (pe_callB (r := rLenQ K) call_len_seq (by rfl) T.f_len (by decide +kernel) (pa_cons (pv 3) pa_nil))) pa_nil)))))
 pss_nil)
 (pss_one (ps_ret (pe_lst (pa_cons (pv 3) (pa_cons (pe_op op_rep (pe_lst (pa_cons (pe_gint rfl T.i_MINUS) pa_nil)) (pe_callB (r := rLenQ K) call_len_seq (by rfl) T.f_len (by decide +kernel) (pa_cons (pv 3) pa_nil))) pa_nil))))))))), ?_⟩
  intro B ds d hR
  obtain ⟨⟩ := hR
  rename_i k t w hk ht hw
  have ll := line_len t
  have tl := truncate_len (n := w) (Vanbkh.singleLine t) (by omega)
  have tl2 : (Vanbkh.truncate w (Vanbkh.singleLine t)).length ≤ 200 := by
    unfold Vanbkh.truncate
    split
    · omega
    · simp
      omega
  refine sd_seq (sd_asg (ed_is (ed_call (ea_cons (ed_fld (d := .tup (dI (bI t))) (ed_var rfl) T.k_Heading T.n_Heading_text rfl) ea_nil) (.mk (by rw [bI_length]; omega))) (e := dB (Vanbkh.singleLine t)) (by rw [mLine_bI]; rfl)) (hlt rfl) ?_)
  refine sd_seq (sd_if (et_test (ed_eq (i := k) (ed_fld (ed_var rfl) T.k_Heading T.n_Heading_level rfl) ed_int)) (fun h => ?_) (fun h => ?_))
  · have e : k = 3 := by
      have : (k : Int) = 3 := by simpa using h
      omega
    subst e
    refine (sd_ret (en_lst (ea_cons (ed_is (ed_call (ea_cons (en_catI (l := [35, 32]) (m := bI (Vanbkh.singleLine t)) (en_lst2I ed_int ed_int).ed (ed_var rfl) ?_).ed (ea_cons (ed_var rfl) ea_nil)) (.mk (l := [35, 32] ++ bI (Vanbkh.singleLine t)) (n := w) (by rw [List.length_append, bI_length]; show 2 + _ ≤ _; omega) (by omega))) (e := dB (Vanbkh.truncate w (Vanbkh.ascii "# " ++ Vanbkh.singleLine t))) ?_) ea_nil) (hle rfl)).ed ?_)
    · rw [bI_length]
      show 2 + _ ≤ _
      omega
    · have e : [35, 32] ++ bI (Vanbkh.singleLine t) = bI (Vanbkh.ascii "# " ++ Vanbkh.singleLine t) := by rw [bI_append]; rfl
      rw [e, mTrunc_bI _ _ (by omega)]
      rfl
    · rfl
  refine sd_next ?_
  have h3 : ¬ k = 3 := by
    have : ¬ (k : Int) = 3 := by simpa using h
    omega
  refine sd_seq (sd_asg (ed_is (ed_call (ea_cons (ed_var rfl) (ea_cons (ed_var rfl) ea_nil)) (.mk (l := bI (Vanbkh.singleLine t)) (n := w) (by rw [bI_length]; omega) (by omega))) (e := dB (Vanbkh.truncate w (Vanbkh.singleLine t))) (by rw [mTrunc_bI _ _ (by omega)]; rfl)) (hlt rfl) ?_)
  refine sd_seq (sd_if (et_test (ed_eq (i := k) (ed_fld (ed_var rfl) T.k_Heading T.n_Heading_level rfl) ed_int)) (fun h => ?_) (fun h => ?_))
  · have e : k = 1 := by
      have : (k : Int) = 1 := by simpa using h
      omega
    subst e
    refine (sd_ret (en_lst (ea_cons (ed_var rfl) (ea_cons (en_repI (i := 61) (en_lst1I ed_int).ed (ed_lenN (l := bI (Vanbkh.truncate w (Vanbkh.singleLine t))) (ed_var rfl)) ?_ ?_).ed ea_nil)) (hle rfl)).ed ?_)
    · rw [bI_length]; omega
    · omega
    · show D.lst [_, D.lst (dI (List.replicate (((bI (Vanbkh.truncate w (Vanbkh.singleLine t))).length : Int)).toNat 61))] = dBs [_, List.replicate _ 61]
      rw [bI_length, Int.toNat_natCast]
      unfold dBs dB
      rw [List.map_cons, List.map_cons, bI_rep]
      rfl
  refine sd_next ?_
  have h1 : ¬ k = 1 := by
    have : ¬ (k : Int) = 1 := by simpa using h
    omega
  have e : k = 2 := by omega
  subst e
  refine (sd_ret (en_lst (ea_cons (ed_var rfl) (ea_cons (en_repI (i := 45) (en_lst1I ed_int).ed (ed_lenN (l := bI (Vanbkh.truncate w (Vanbkh.singleLine t))) (ed_var rfl)) ?_ ?_).ed ea_nil)) (hle rfl)).ed ?_)
  · rw [bI_length]; omega
  · omega
  · show D.lst [_, D.lst (dI (List.replicate (((bI (Vanbkh.truncate w (Vanbkh.singleLine t))).length : Int)).toNat 45))] = dBs [_, List.replicate _ 45]
    rw [bI_length, Int.toNat_natCast]
    unfold dBs dB
    rw [List.map_cons, List.map_cons, bI_rep]
    rfl
theorem five (p : Bool) : (if p then Vanbkh.ascii "[ok] " else Vanbkh.ascii "[no] ").length = 5 := by cases p <;> rfl
inductive r_check_lines : List D → D → Prop
  | mk {p : Bool} {t : List UInt8} {w : Nat} (ht : t.length ≤ 200) (hw : 20 ≤ w) : r_check_lines [dIt (.check p t), .int w] (dBs (Vanbkh.checkLines w p t))
abbrev N_check_lines : List Str := ["check", "width", "mark"]
theorem sc_check_lines : FnScope N_check_lines ["check", "width"] (defScope (top 145)) := ⟨rfl, rfl, rfl, by decide +kernel, rfl, by decide +kernel, by decide +kernel⟩
theorem ok_check_lines {Pr : Program} {w : World} {K : PySem.W.Frag} {mg : Str → Option Value} {base : Heap} (T : Tx K mg) : Ok Pr w K mg base 2 "check_lines" ["check", "width"] (spR K r_check_lines) := by
  obtain ⟨fd, F⟩ := T.d_check_lines
  refine ⟨⟨fd, fn_pure (N := N_check_lines) F sc_check_lines (fun ds d h => by cases h; rfl) ?_, F.bindsN fun _ _ _ _ _ _ us hl => match us, hl with | [_, _], _ => rfl⟩, F.kp, T.g_check_lines⟩
  intro cdv A outer s H E hr
  refine ⟨_, (pss_cons (ps_set (i := 2) sc_check_lines.nd rfl (Or.inl rfl) (pe_ifExp (pt_cmpR op_eq (pe_fldK (K := K) (pv 0) rfl rfl) pe_int (nomark _)) pe_str pe_str))
 (pss_one (ps_ret (pe_lst (pa_cons (pe_callO (ok_truncate T) (hr.mono (by decide)) rfl (pa_cons (pe_op op_cat (pe_callO (ok_bytes_of T) (hr.mono (by decide)) rfl (pa_cons (pv 2) pa_nil)) (pe_callO (ok_single_line T) (hr.mono (by decide)) rfl (pa_cons (pe_fldK (K := K) (pv 0) rfl rfl) pa_nil))) (pa_cons (pv 1) pa_nil))) pa_nil))))), ?_⟩
  intro B ds d hR
  obtain ⟨⟩ := hR
  rename_i p t w ht hw
  have ll := line_len t
  refine sd_seq (sd_asg (ed_is (ed_if (b := p) (et_is (et_test (ed_eq (i := if p then 1 else 0) (ed_fld (ed_var rfl) T.k_Check T.n_Check_passed rfl) ed_int)) (by cases p <;> rfl)) (fun h => ed_str) (fun h => ed_str)) (e := .str (if p = true then "[ok] " else "[no] ")) (by cases p <;> rfl)) (hlt rfl) ?_)
  refine (sd_ret (en_lst (ea_cons (ed_is (ed_call (ea_cons (en_catI (l := bI (if p then Vanbkh.ascii "[ok] " else Vanbkh.ascii "[no] ")) (m := bI (Vanbkh.singleLine t)) (ed_is (ed_call (ea_cons (ed_var rfl) ea_nil) (.mk (by cases p <;> decide))) (by cases p <;> rfl)) (ed_is (ed_call (ea_cons (ed_fld (d := .tup (dI (bI t))) (ed_var rfl) T.k_Check T.n_Check_text rfl) ea_nil) (.mk (by rw [bI_length]; omega))) (by rw [mLine_bI])) ?_).ed (ea_cons (ed_var rfl) ea_nil)) (.mk (l := bI (if p then Vanbkh.ascii "[ok] " else Vanbkh.ascii "[no] ") ++ bI (Vanbkh.singleLine t)) (n := w) (by rw [List.length_append, bI_length, bI_length, five]; omega) (by omega))) (e := dB (Vanbkh.truncate w ((if p then Vanbkh.ascii "[ok] " else Vanbkh.ascii "[no] ") ++ Vanbkh.singleLine t))) ?_) ea_nil) (hle rfl)).ed ?_)
  · rw [bI_length, bI_length, five]
    omega
  · rw [← bI_append, mTrunc_bI _ _ (by omega)]
    rfl
  · rfl
theorem split_dBs (c : UInt8) (t : List UInt8) : D.lst ((mSplit (bi c) (bI t)).map fun p => D.lst (dI p)) = dBs (Vanbkh.splitAtByte c t) := by
  rw [mSplit_bI, List.map_map]
  rfl
inductive r_words_of_part : List D → D → Prop
  | mk {t : List UInt8} {w : Nat} (ht : t.length ≤ 1000) (hw : 20 ≤ w) (h2 : w ≤ 120) : r_words_of_part [dB t, .int w] (dBs (Vanbkh.words w t))
abbrev N_words_of_part : List Str := ["part", "width", "words", "word"]
theorem sc_words_of_part : FnScope N_words_of_part ["part", "width"] (defScope (top 146)) := ⟨rfl, rfl, rfl, by decide +kernel, rfl, by decide +kernel, by decide +kernel⟩
theorem ok_words_of_part {Pr : Program} {w : World} {K : PySem.W.Frag} {mg : Str → Option Value} {base : Heap} (T : Tx K mg) : Ok Pr w K mg base 2 "words_of_part" ["part", "width"] (spR K r_words_of_part) := by
  obtain ⟨fd, F⟩ := T.d_words_of_part
  refine ⟨⟨fd, fn_pure (N := N_words_of_part) F sc_words_of_part (fun ds d h => by cases h; rfl) ?_, F.bindsN fun _ _ _ _ _ _ us hl => match us, hl with | [_, _], _ => rfl⟩, F.kp, T.g_words_of_part⟩
  intro cdv A outer s H E hr
  refine ⟨_, (pss_cons (ps_set (i := 2) sc_words_of_part.nd rfl (Or.inl rfl) (pe_lst pa_nil))
 (pss_cons (ps_for PassesOwn.never rfl (pi_list (pe_callO (ok_split_at T) (hr.mono (by decide)) rfl (pa_cons (pv 0) (pa_cons (pe_gint rfl T.i_SPACE) pa_nil)))) (pg_name (i := 3) sc_words_of_part.nd rfl (Or.inl rfl))
 (pss_one (ps_expr (pe_bm PySem.F.plainAttrs_list PySem.F.slot_list_extend PySem.F.type_list_extend mt_extend (pv 2) (pa_cons (pe_callO (ok_cut_into_pieces T) (hr.mono (by decide)) rfl (pa_cons (pv 3) (pa_cons (pv 1) pa_nil))) pa_nil)))))
 (pss_one (ps_ret (pv 2))))), ?_⟩
  intro B ds d hR
  obtain ⟨⟩ := hR
  rename_i t w ht hw h2
  have sl := split_le 32 t
  refine sd_seq (sd_asgN (en_lst ea_nil (hle rfl)) (hlt rfl) ?_)
  refine sd_seq (sd_forL (f := dB) (l := Vanbkh.splitAtByte 32 t) (dw_listL (ed_is (ed_call (ea_cons (ed_var rfl) (ea_cons ed_int ea_nil)) (.mk (b := false) (l := bI t) (by rw [bI_length]; omega))) (split_dBs 32 t))) (fun pre δ => ∃ s, δ = [.sh (dB t), .sh (.int w), .own ((pre.flatMap (mCut w)).map dB), s]) ?_ ?_ ?_)
  · exact ⟨_, rfl⟩
  · rintro pre x post δ e ⟨s, rfl⟩
    have hx := sl.2 x (by rw [e]; simp)
    have hp : pre.length ≤ 1001 := by
      have := congrArg List.length e
      simp at this
      omega
    have hpl : (pre.flatMap (mCut w)).length ≤ 1001 * 1000 := by
      have := flatMap_sum (f := mCut (α := UInt8) w) (g := fun _ => 1000) (l := pre) fun y hy => by
        have := (mCut_len (n := w) (by omega) y).1
        have := sl.2 y (by rw [e]; simp [hy])
        omega
      rw [List.map_const', List.sum_replicate_nat] at this
      have : pre.length * 1000 ≤ 1001 * 1000 := Nat.mul_le_mul_right _ hp
      omega
    have hxl := (mCut_len (n := w) (by omega) x).1
    refine gd_name (hlt rfl) ?_
    refine (sd_extendM (f := dB) (l := pre.flatMap (mCut w)) (m := mCut w x) rfl (ed_is (ed_call (ea_cons (ed_var rfl) (ea_cons (ed_var rfl) ea_nil)) (.mk (ds := dI (bI x)) (n := w) (by rw [List.length_map, bI_length]; omega) (by omega) (by omega))) ?_) (by omega) ?_)
    · unfold dI bI
      rw [mCut_map, mCut_map, List.map_map, List.map_map]
      rfl
    · exact ⟨.sh (dB x), by rw [List.flatMap_append]; simp⟩
  rintro δ ⟨s, rfl⟩
  refine sd_frz 2 rfl (sd_ret (ed_var rfl) ?_)
  show D.lst _ = dBs _
  rw [words_eq (by omega)]
  rfl
inductive r_part_lines : List D → D → Prop
  | mk {t : List UInt8} {w : Nat} (ht : t.length ≤ 1000) (hw : 20 ≤ w) (h2 : w ≤ 120) : r_part_lines [dB t, .int w] (dBs (Vanbkh.wrapPart w t))
abbrev N_part_lines : List Str := ["part", "width", "lines", "word"]
theorem sc_part_lines : FnScope N_part_lines ["part", "width"] (defScope (top 147)) := ⟨rfl, rfl, rfl, by decide +kernel, rfl, by decide +kernel, by decide +kernel⟩
theorem ok_part_lines {Pr : Program} {w : World} {K : PySem.W.Frag} {mg : Str → Option Value} {base : Heap} (T : Tx K mg) : Ok Pr w K mg base 3 "part_lines" ["part", "width"] (spR K r_part_lines) := by
  obtain ⟨fd, F⟩ := T.d_part_lines
  refine ⟨⟨fd, fn_pure (N := N_part_lines) F sc_part_lines (fun ds d h => by cases h; rfl) ?_, F.bindsN fun _ _ _ _ _ _ us hl => match us, hl with | [_, _], _ => rfl⟩, F.kp, T.g_part_lines⟩
  intro cdv A outer s H E hr
  refine ⟨_, (pss_cons (ps_set (i := 2) sc_part_lines.nd rfl (Or.inl rfl) (pe_lst pa_nil))
 (pss_cons (ps_for PassesOwn.never rfl (pi_list (pe_callO (ok_words_of_part T) (hr.mono (by decide)) rfl (pa_cons (pv 0) (pa_cons (pv 1) pa_nil)))) (pg_name (i := 3) sc_part_lines.nd rfl (Or.inl rfl))
 (pss_one (ps_if (PW.pt (pw_and (pt_cmpR op_gt (pe_callB (r := rLenQ K) call_len_seq (by rfl) T.f_len (by decide +kernel) (pa_cons (pv 2) pa_nil)) pe_int (nomark _)) (pw_and1 (pt_cmpR op_le (pe_op op_add (pe_op op_add (pe_callB (r := rLenQ K) call_len_seq (by rfl) T.f_len (by decide +kernel) (pa_cons (pe_ix (r := rIxL K) ix_list (pv 2) (pe_un un_neg pe_int) (fun _ _ => rfl)) pa_nil)) pe_int) (pe_callB (r := rLenQ K) call_len_seq (by rfl) T.f_len (by decide +kernel) (pa_cons (pv 3) pa_nil))) (pv 1) (nomark _)))))
 (pss_one (ps_asg (pe_op op_cat (pe_op op_cat (pe_ix (r := rIxL K) ix_list (pv 2) (pe_un un_neg pe_int) (fun _ _ => rfl)) (pe_lst (pa_cons (pe_gint rfl T.i_SPACE) pa_nil))) (pv 3)) (pg_sub (pv 2) (pe_un un_neg pe_int) set_list)))
 (pss_one (ps_expr (pe_bm PySem.F.plainAttrs_list PySem.F.slot_list_append PySem.F.type_list_append mt_append (pv 2) (pa_cons (pv 3) pa_nil)))))))
 (pss_cons (ps_if (pt_cmpR op_eq (pe_callB (r := rLenQ K) call_len_seq (by rfl) T.f_len (by decide +kernel) (pa_cons (pv 2) pa_nil)) pe_int (nomark _))
 (pss_one (ps_ret (pe_lst (pa_cons (pe_lst pa_nil) pa_nil))))
 pss_nil)
 (pss_one (ps_ret (pv 2)))))), ?_⟩
  intro B ds d hR
  obtain ⟨⟩ := hR
  rename_i t w ht hw h2
  have wl := words_len (w := w) (by omega) t
  refine sd_seq (sd_asgN (en_lst ea_nil (hle rfl)) (hlt rfl) ?_)
  refine sd_seq (sd_forL (f := dB) (l := Vanbkh.words w t) (dw_listL (ed_call (ea_cons (ed_var rfl) (ea_cons (ed_var rfl) ea_nil)) (.mk ht hw h2))) (fun pre δ => ∃ s, δ = [.sh (dB t), .sh (.int w), .own ((pFill w pre).map dB), s]) ?_ ?_ ?_)
  · exact ⟨_, rfl⟩
  · rintro pre x post δ e ⟨s, rfl⟩
    have hx := wl.2 x (by rw [e]; simp)
    have hp : pre.length ≤ 1001 := by
      have := congrArg List.length e
      simp at this
      omega
    have pl := pFill_len (w := w) _ pre rfl fun y hy => wl.2 y (by rw [e]; simp [hy])
    have lastAt : 0 < (pFill w pre).length → atI ((pFill w pre).map dB) (-1) = some (dB ((pFill w pre).getLastD [])) := fun h => by
      have ne : pFill w pre ≠ [] := List.length_pos_iff.mp h
      obtain ⟨m, y, em⟩ : ∃ m y, pFill w pre = m ++ [y] := ⟨(pFill w pre).dropLast, (pFill w pre).getLast ne, (List.dropLast_concat_getLast ne).symm⟩
      rw [em, List.map_append]
      show atI (m.map dB ++ [dB y]) (-1) = _
      rw [atI_last]
      simp
    have hlast : 0 < (pFill w pre).length → ((pFill w pre).getLastD []).length ≤ w := fun h => by
      have ne : pFill w pre ≠ [] := List.length_pos_iff.mp h
      rw [List.getLastD_eq_getLast?, List.getLast?_eq_some_getLast ne]
      exact pl.2 _ (List.getLast_mem ne)
    refine gd_name (hlt rfl) ?_
    refine (sd_if (b := decide (0 < (pFill w pre).length ∧ ((pFill w pre).getLastD []).length + 1 + x.length ≤ w)) (et_is (et_and (et_test (ed_gt (ed_lenO rfl) ed_int)) (fun h => (et_test (ed_le (ed_add (ed_add (ed_lenN (l := bI ((pFill w pre).getLastD [])) (ed_ixO rfl (ed_neg ed_int) (lastAt ?_))) ed_int) (ed_lenN (l := bI x) (ed_var rfl))) (ed_var rfl))))) ?_) (fun h => ?_) (fun h => ?_))
    · rw [List.length_map] at h
      have : ((pFill w pre).length : Int) > 0 := by simpa using h
      omega
    · rw [List.length_map, bI_length, bI_length, ← Bool.decide_and]
      exact decide_eq_decide.mpr ⟨fun ⟨a, b⟩ => ⟨by omega, by omega⟩, fun ⟨a, b⟩ => ⟨by omega, by omega⟩⟩
    · have h' := of_decide_eq_true h
      have hl := hlast h'.1
      refine (sd_setitem (j := (pFill w pre).length - 1) rfl (en_catI (l := bI ((pFill w pre).getLastD []) ++ [32]) (m := bI x) (en_catI (ed_ixO rfl (ed_neg ed_int) (lastAt h'.1)) (en_lst1I ed_int).ed ?_).ed (ed_var rfl) ?_).ed (ed_neg ed_int) ?_ ?_)
      · rw [bI_length]
        show _ + 1 ≤ _
        omega
      · rw [List.length_append, bI_length, bI_length]
        show _ + 1 + _ ≤ _
        omega
      · rw [List.length_map]
        exact ixN_neg1 h'.1
      · refine ⟨.sh (dB x), ?_⟩
        have e2 := set_last ((pFill w pre).map dB) (by simpa using List.length_pos_iff.mp h'.1) (dB ((pFill w pre).getLastD [] ++ 32 :: x))
        rw [List.length_map] at e2
        rw [pFill_snoc]
        unfold pStep
        rw [if_pos h', List.map_append, List.map_dropLast]
        show [Sl.sh (dB t), .sh (.int w), .own (((pFill w pre).map dB).set ((pFill w pre).length - 1) (D.lst (dI (bI ((pFill w pre).getLastD []) ++ [32] ++ bI x)))), .sh (dB x)] = _
        have e3 : D.lst (dI (bI ((pFill w pre).getLastD []) ++ [32] ++ bI x)) = dB ((pFill w pre).getLastD [] ++ 32 :: x) := by
          unfold dB
          rw [bI_append, List.append_assoc]
          rfl
        rw [e3, e2]
        rfl
    · have h' := of_decide_eq_false h
      refine (sd_appendM (f := dB) (x := x) rfl (ed_var rfl) (by omega) ?_)
      refine ⟨.sh (dB x), ?_⟩
      rw [pFill_snoc]
      unfold pStep
      rw [if_neg h']
      rfl
  rintro δ ⟨s, rfl⟩
  refine sd_seq (sd_if (et_test (ed_eq (ed_lenO rfl) ed_int)) (fun h => ?_) (fun h => ?_))
  · refine (sd_ret (en_lst (ea_cons (en_lst ea_nil (hle rfl)).ed ea_nil) (hle rfl)).ed ?_)
    rw [List.length_map] at h
    have : ((pFill w (Vanbkh.words w t)).length : Int) = 0 := by simpa using h
    show _ = dBs (Vanbkh.wrapPart w t)
    rw [wrap_eq, if_pos (by omega)]
    rfl
  refine sd_next ?_
  refine sd_frz 2 rfl (sd_ret (ed_var rfl) ?_)
  rw [List.length_map] at h
  have : ¬ ((pFill w (Vanbkh.words w t)).length : Int) = 0 := by simpa using h
  show _ = dBs (Vanbkh.wrapPart w t)
  rw [wrap_eq, if_neg (by omega)]
  rfl
inductive r_paragraph_lines : List D → D → Prop
  | mk {t : List UInt8} {w : Nat} (ht : t.length ≤ 200) (hw : 20 ≤ w) (h2 : w ≤ 120) : r_paragraph_lines [dIt (.paragraph t), .int w] (dBs (Vanbkh.paragraphLines w t))
abbrev N_paragraph_lines : List Str := ["paragraph", "width", "lines", "part"]
theorem sc_paragraph_lines : FnScope N_paragraph_lines ["paragraph", "width"] (defScope (top 148)) := ⟨rfl, rfl, rfl, by decide +kernel, rfl, by decide +kernel, by decide +kernel⟩
theorem ok_paragraph_lines {Pr : Program} {w : World} {K : PySem.W.Frag} {mg : Str → Option Value} {base : Heap} (T : Tx K mg) : Ok Pr w K mg base 4 "paragraph_lines" ["paragraph", "width"] (spR K r_paragraph_lines) := by
  obtain ⟨fd, F⟩ := T.d_paragraph_lines
  refine ⟨⟨fd, fn_pure (N := N_paragraph_lines) F sc_paragraph_lines (fun ds d h => by cases h; rfl) ?_, F.bindsN fun _ _ _ _ _ _ us hl => match us, hl with | [_, _], _ => rfl⟩, F.kp, T.g_paragraph_lines⟩
  intro cdv A outer s H E hr
  refine ⟨_, (pss_cons (ps_set (i := 2) sc_paragraph_lines.nd rfl (Or.inl rfl) (pe_lst pa_nil))
 (pss_cons (ps_for PassesOwn.never rfl (pi_list (pe_callO (ok_split_at T) (hr.mono (by decide)) rfl (pa_cons (pe_fldK (K := K) (pv 0) rfl rfl) (pa_cons (pe_gint rfl T.i_LINE_FEED) pa_nil)))) (pg_name (i := 3) sc_paragraph_lines.nd rfl (Or.inl rfl))
 (pss_one (ps_expr (pe_bm PySem.F.plainAttrs_list PySem.F.slot_list_extend PySem.F.type_list_extend mt_extend (pv 2) (pa_cons (pe_callO (ok_part_lines T) (hr.mono (by decide)) rfl (pa_cons (pv 3) (pa_cons (pv 1) pa_nil))) pa_nil)))))
 (pss_one (ps_ret (pv 2))))), ?_⟩
  intro B ds d hR
  obtain ⟨⟩ := hR
  rename_i t w ht hw h2
  have sl := split_le 10 t
  refine sd_seq (sd_asgN (en_lst ea_nil (hle rfl)) (hlt rfl) ?_)
  refine sd_seq (sd_forL (f := dB) (l := Vanbkh.splitAtByte 10 t) (dw_listL (ed_is (ed_call (ea_cons (ed_fld (d := .tup (dI (bI t))) (ed_var rfl) T.k_Paragraph T.n_Paragraph_text rfl) (ea_cons ed_int ea_nil)) (.mk (b := true) (l := bI t) (by rw [bI_length]; omega))) (split_dBs 10 t))) (fun pre δ => ∃ s, δ = [.sh (dIt (.paragraph t)), .sh (.int w), .own ((pre.flatMap (Vanbkh.wrapPart w)).map dB), s]) ?_ ?_ ?_)
  · exact ⟨_, rfl⟩
  · rintro pre x post δ e ⟨s, rfl⟩
    have hx := sl.2 x (by rw [e]; simp)
    have hp : pre.length ≤ 201 := by
      have := congrArg List.length e
      simp at this
      omega
    have hpl : (pre.flatMap (Vanbkh.wrapPart w)).length ≤ 201 * 201 := by
      have := flatMap_sum (f := Vanbkh.wrapPart w) (g := fun _ => 201) (l := pre) fun y hy => by
        have := (wrap_len (w := w) (by omega) y).1
        have := sl.2 y (by rw [e]; simp [hy])
        omega
      rw [List.map_const', List.sum_replicate_nat] at this
      have : pre.length * 201 ≤ 201 * 201 := Nat.mul_le_mul_right _ hp
      omega
    have hxl := (wrap_len (w := w) (by omega) x).1
    refine gd_name (hlt rfl) ?_
    refine (sd_extendM (f := dB) (l := pre.flatMap (Vanbkh.wrapPart w)) (m := Vanbkh.wrapPart w x) rfl (ed_call (ea_cons (ed_var rfl) (ea_cons (ed_var rfl) ea_nil)) (.mk (by omega) hw h2)) (by omega) ?_)
    exact ⟨.sh (dB x), by rw [List.flatMap_append]; simp⟩
  rintro δ ⟨s, rfl⟩
  refine sd_frz 2 rfl (sd_ret (ed_var rfl) ?_)
  rfl
end Rl
namespace Rl
open PySem PySem.Spec PyProof.Rows L2 Dg

inductive r_label_width_of : List D → D → Prop
  | mk {l : List (List UInt8 × Int)} (h : VB l) (hne : l ≠ []) : r_label_width_of [.lst (l.map dBar)] (.int (barT l : Nat))
abbrev N_label_width_of : List Str := ["bars", "longest", "bar"]
theorem sc_label_width_of : FnScope N_label_width_of ["bars"] (defScope (top 131)) := ⟨rfl, rfl, rfl, by decide +kernel, rfl, by decide +kernel, by decide +kernel⟩
theorem ok_label_width_of {Pr : Program} {w : World} {K : PySem.W.Frag} {mg : Str → Option Value} {base : Heap} (T : Tx K mg) : Ok Pr w K mg base 1 "label_width_of" ["bars"] (spR K r_label_width_of) := by
  obtain ⟨fd, F⟩ := T.d_label_width_of
  refine ⟨⟨fd, fn_pure (N := N_label_width_of) F sc_label_width_of (fun ds d h => by cases h; rfl) ?_, F.bindsN fun _ _ _ _ _ _ us hl => match us, hl with | [_], _ => rfl⟩, F.kp, T.g_label_width_of⟩
  intro cdv A outer s H E hr
  refine ⟨_, (pss_cons (ps_set (i := 1) sc_label_width_of.nd rfl (Or.inl rfl) (pe_callB (r := rMax K) (cr_max rfl) (by rfl) T.f_max (by decide +kernel) (pa_cons (pe_lc (own := [("bar", 2)]) (g := gName 2) (tt := tYes) rfl sc_label_width_of.nd (pi_list (pv 0)) (blkOk_by (own := [("bar", 2)]) (N := N_label_width_of) (sc := (defScope (top 131))) (by decide +kernel)) (fun _ _ _ _ _ => pg_name (i := 2) sc_label_width_of.nd rfl (Or.inl rfl)) (fun _ _ _ _ _ => pts_nil) (fun _ _ _ _ _ => (pe_callB (r := rLenQ K) call_len_seq (by rfl) T.f_len (by decide +kernel) (pa_cons (pe_ix (r := rIxT K) ix_tup (pv 2) pe_int (fun _ _ => rfl)) pa_nil)))) pa_nil)))
 (pss_one (ps_ret (pe_callB (r := rMin2Q) (call_min2 rfl) (by rfl) T.f_min (by decide +kernel) (pa_cons (pe_callB (r := rMax2Q) (call_max2 rfl) (by rfl) T.f_max (by decide +kernel) (pa_cons (pv 1) (pa_cons pe_int pa_nil))) (pa_cons (pe_gint rfl T.i_MOST_BYTES_OF_LABEL) pa_nil)))))), ?_⟩
  intro B ds d hR
  obtain ⟨⟩ := hR
  rename_i l hv hne
  have hl := hv.1
  have ne2 : (l.map fun x => (Vanbkh.singleLine x.1).length) ≠ [] := by simpa using hne
  refine sd_seq (sd_asg (ed_max (ns := nI (l.map fun x => (Vanbkh.singleLine x.1).length)) (m := (Vanbkh.maximum (l.map fun x => (Vanbkh.singleLine x.1).length) : Nat)) (ed_is (en_lcL (f := dBar) (l := l) (g := fun x => D.int ((Vanbkh.singleLine x.1).length : Nat)) (dw_listL (ed_var rfl)) rfl rfl (fun x hx => (ed_is (ed_lenTN (l := bI x.1) (ed_ixT (ds := [.tup (dI (bI x.1)), .int x.2]) (ed_var rfl) ed_int rfl)) (by rw [bI_length, line_len]))) (by omega)).ed (by unfold nI dI; rw [List.map_map, List.map_map]; rfl)) ?_ ?_) (hlt rfl) ?_)
  · exact List.mem_map_of_mem (maximum_mem ne2)
  · intro y hy
    obtain ⟨x, hx, rfl⟩ := List.mem_map.mp hy
    have := maximum_le hx
    omega
  refine (sd_ret (ed_min2 (ed_max2 (ed_var rfl) ed_int) ed_int) ?_)
  show D.int _ = D.int _
  unfold barT
  congr 1
  omega
inductive r_bar_length : List D → D → Prop
  | mk {n m : Int} {r : Nat} (h1 : 0 ≤ n) (h2 : n < 10 ^ 18) (h3 : 0 ≤ m) (h4 : m < 10 ^ 18) (h5 : r ≤ 1000) : r_bar_length [.int n, .int m, .int r] (.int (if m = 0 then 0 else n * r / m))
abbrev N_bar_length : List Str := ["number", "greatest", "room"]
theorem sc_bar_length : FnScope N_bar_length ["number", "greatest", "room"] (defScope (top 132)) := ⟨rfl, rfl, rfl, by decide +kernel, rfl, by decide +kernel, by decide +kernel⟩
theorem ok_bar_length {Pr : Program} {w : World} {K : PySem.W.Frag} {mg : Str → Option Value} {base : Heap} (T : Tx K mg) : Ok Pr w K mg base 1 "bar_length" ["number", "greatest", "room"] (spR K r_bar_length) := by
  obtain ⟨fd, F⟩ := T.d_bar_length
  refine ⟨⟨fd, fn_pure (N := N_bar_length) F sc_bar_length (fun ds d h => by cases h; rfl) ?_, F.bindsN fun _ _ _ _ _ _ us hl => match us, hl with | [_, _, _], _ => rfl⟩, F.kp, T.g_bar_length⟩
  intro cdv A outer s H E hr
  refine ⟨_, (pss_cons (ps_if (pt_cmpR op_eq (pv 1) pe_int (nomark _))
 (pss_one (ps_ret pe_int))
 pss_nil)
 (pss_one (ps_ret (pe_op op_fdivW (pe_op op_mulW (pv 0) (pv 2)) (pv 1))))), ?_⟩
  intro B ds d hR
  obtain ⟨⟩ := hR
  rename_i n m r h1 h2 h3 h4 h5
  have l1 := log_small (n := n.natAbs) (by have : (10 : Nat) ^ 18 < 10 ^ 40 := by decide
                                           omega)
  have l2 := log_small (n := m.natAbs) (by have : (10 : Nat) ^ 18 < 10 ^ 40 := by decide
                                           omega)
  have l3 := log_small (n := r) (Nat.lt_of_le_of_lt h5 (by decide))
  refine sd_seq (sd_if (et_test (ed_eq (ed_var rfl) ed_int)) (fun h => ?_) (fun h => ?_))
  · refine (sd_ret ed_int ?_)
    have : m = 0 := by simpa using h
    rw [if_pos this]
  refine sd_next ?_
  have hm : ¬ m = 0 := by simpa using h
  refine (sd_ret (ed_fdivW (ed_mulW (ed_var rfl) (ed_var rfl) ?_) (ed_var rfl) ?_) ?_)
  · show n.natAbs.log2 + ((r : Int).natAbs).log2 < 1000000
    have : (r : Int).natAbs = r := by omega
    rw [this]
    omega
  · exact ⟨by omega, by omega⟩
  · rw [if_neg hm]
inductive r_bar_chart_lines : List D → D → Prop
  | mk {l : List (List UInt8 × Int)} {w : Nat} (h : VB l) (hw : 20 ≤ w) (h2 : w ≤ 120) : r_bar_chart_lines [dIt (.bars l), .int w] (dBs (Vanbkh.barLines w l))
abbrev N_bar_chart_lines : List Str := ["chart", "width", "numbers", "greatest", "label_width", "number_width", "room", "lines", "text", "number", "label", "drawn", "shown", "bar"]
theorem sc_bar_chart_lines : FnScope N_bar_chart_lines ["chart", "width"] (defScope (top 133)) := ⟨rfl, rfl, rfl, by decide +kernel, rfl, by decide +kernel, by decide +kernel⟩
theorem ok_bar_chart_lines {Pr : Program} {w : World} {K : PySem.W.Frag} {mg : Str → Option Value} {base : Heap} (T : Tx K mg) : Ok Pr w K mg base 3 "bar_chart_lines" ["chart", "width"] (spR K r_bar_chart_lines) := by
  obtain ⟨fd, F⟩ := T.d_bar_chart_lines
  refine ⟨⟨fd, fn_pure (N := N_bar_chart_lines) F sc_bar_chart_lines (fun ds d h => by cases h; rfl) ?_, F.bindsN fun _ _ _ _ _ _ us hl => match us, hl with | [_, _], _ => rfl⟩, F.kp, T.g_bar_chart_lines⟩
  intro cdv A outer s H E hr
  refine ⟨_, (pss_cons (ps_if (pt_cmpR op_eq (pe_callB (r := rLenQ K) call_len_seq (by rfl) T.f_len (by decide +kernel) (pa_cons (pe_fldK (K := K) (pv 0) rfl rfl) pa_nil)) pe_int (nomark _))
 (pss_one (ps_ret (pe_lst (pa_cons (pe_callO (ok_bytes_of T) (hr.mono (by decide)) rfl (pa_cons pe_str pa_nil)) pa_nil))))
 pss_nil)
 (pss_cons (ps_setLc (i := 2) (own := [("bar", 13)]) (g := gName 13) (tt := tYes) rfl sc_bar_chart_lines.nd rfl rfl (sw_true rfl rfl rfl (by decide +kernel)) (pi_list (pe_fldK (K := K) (pv 0) rfl rfl)) (blkOk_by (own := [("bar", 13)]) (N := N_bar_chart_lines) (sc := (defScope (top 133))) (by decide +kernel)) (fun _ _ _ _ _ => pg_name (i := 13) sc_bar_chart_lines.nd rfl (Or.inl rfl)) (fun _ _ _ _ _ => pts_nil) (fun _ _ _ _ _ => (pe_ix (r := rIxT K) ix_tup (pv 13) pe_int (fun _ _ => rfl))))
 (pss_cons (ps_set (i := 3) sc_bar_chart_lines.nd rfl (Or.inl rfl) (pe_callB (r := rMax K) (cr_max rfl) (by rfl) T.f_max (by decide +kernel) (pa_cons (pv 2) pa_nil)))
 (pss_cons (ps_set (i := 4) sc_bar_chart_lines.nd rfl (Or.inl rfl) (pe_callO (ok_label_width_of T) (hr.mono (by decide)) rfl (pa_cons (pe_fldK (K := K) (pv 0) rfl rfl) pa_nil)))
 (pss_cons (ps_set (i := 5) sc_bar_chart_lines.nd rfl (Or.inl rfl) (pe_callB (r := rMax K) (cr_max rfl) (by rfl) T.f_max (by decide +kernel) (pa_cons (pe_lc (own := [("number", 9)]) (g := gName 9) (tt := tYes) rfl sc_bar_chart_lines.nd (pi_list (pv 2)) (blkOk_by (own := [("number", 9)]) (N := N_bar_chart_lines) (sc := (defScope (top 133))) (by decide +kernel)) (fun _ _ _ _ _ => pg_name (i := 9) sc_bar_chart_lines.nd rfl (Or.inl rfl)) (fun _ _ _ _ _ => pts_nil) (fun _ _ _ _ _ => (pe_callB (r := rLenQ K) call_len_seq (by rfl) T.f_len (by decide +kernel) (pa_cons (pe_callO (ok_decimal_notation T) (hr.mono (by decide)) rfl (pa_cons (pv 9) pa_nil)) pa_nil)))) pa_nil)))
 (pss_cons (ps_set (i := 6) sc_bar_chart_lines.nd rfl (Or.inl rfl) (pe_callB (r := rMax2Q) (call_max2 rfl) (by rfl) T.f_max (by decide +kernel) (pa_cons (pe_op op_sub (pe_op op_sub (pe_op op_sub (pv 1) (pv 4)) (pv 5)) pe_int) (pa_cons pe_int pa_nil))))
 (pss_cons (ps_set (i := 7) sc_bar_chart_lines.nd rfl (Or.inl rfl) (pe_lst pa_nil))
 (pss_cons (ps_for PassesOwn.never rfl (pi_list (pe_fldK (K := K) (pv 0) rfl rfl)) (pg_tup rfl (pgs_cons (pg_name (i := 8) sc_bar_chart_lines.nd rfl (Or.inl rfl)) (pgs_cons (pg_name (i := 9) sc_bar_chart_lines.nd rfl (Or.inl rfl)) pgs_nil)))
 (pss_cons (ps_set (i := 10) sc_bar_chart_lines.nd rfl (Or.inl rfl) (pe_callO (ok_fill_behind T) (hr.mono (by decide)) rfl (pa_cons (pe_callO (ok_truncate T) (hr.mono (by decide)) rfl (pa_cons (pe_callO (ok_single_line T) (hr.mono (by decide)) rfl (pa_cons (pv 8) pa_nil)) (pa_cons (pv 4) pa_nil))) (pa_cons (pv 4) pa_nil))))
 (pss_cons (ps_set (i := 11) sc_bar_chart_lines.nd rfl (Or.inl rfl) (pe_callO (ok_fill_behind T) (hr.mono (by decide)) rfl (pa_cons (pe_op op_rep (pe_lst (pa_cons (pe_gint rfl T.i_EQUALS_SIGN) pa_nil)) (pe_callO (ok_bar_length T) (hr.mono (by decide)) rfl (pa_cons (pv 9) (pa_cons (pv 3) (pa_cons (pv 6) pa_nil))))) (pa_cons (pv 6) pa_nil))))
 (pss_cons (ps_set (i := 12) sc_bar_chart_lines.nd rfl (Or.inl rfl) (pe_callO (ok_fill_before T) (hr.mono (by decide)) rfl (pa_cons (pe_callO (ok_decimal_notation T) (hr.mono (by decide)) rfl (pa_cons (pv 9) pa_nil)) (pa_cons (pv 5) pa_nil))))
 (pss_one (ps_expr (pe_bm PySem.F.plainAttrs_list PySem.F.slot_list_append PySem.F.type_list_append mt_append (pv 7) (pa_cons (pe_callO (ok_truncate T) (hr.mono (by decide)) rfl (pa_cons (pe_op op_cat (pe_op op_cat (pe_op op_cat (pe_op op_cat (pv 10) (pe_lst (pa_cons (pe_gint rfl T.i_SPACE) pa_nil))) (pv 11)) (pe_lst (pa_cons (pe_gint rfl T.i_SPACE) pa_nil))) (pv 12)) (pa_cons (pv 1) pa_nil))) pa_nil))))))))
 (pss_one (ps_ret (pv 7))))))))))), ?_⟩
  intro B ds d hR
  obtain ⟨⟩ := hR
  rename_i l w hv hw h2
  have hl := hv.1
  refine sd_seq (sd_if (et_test (ed_eq (ed_lenM (l := l) (f := dBar) (ed_fld (ed_var rfl) T.k_BarChart T.n_BarChart_bars rfl)) ed_int)) (fun h => ?_) (fun h => ?_))
  · have : (l.length : Int) = 0 := by simpa using h
    have : l = [] := List.length_eq_zero_iff.mp (by omega)
    subst this
    exact (sd_ret (en_lst (ea_cons (ed_call (ea_cons ed_str ea_nil) (.mk (by decide))) ea_nil) (hle rfl)).ed rfl)
  refine sd_next ?_
  have hne : l ≠ [] := by
    intro z
    subst z
    exact absurd h (by decide)
  have nb := barN_bd hv hne
  have tb := barT_bd l
  have mne : (l.map fun x => x.2) ≠ [] := by simpa using hne
  have hz : ∀ x ∈ l, x.2.natAbs < 10 ^ 40 := fun x hx => by
    have := hv.2 x hx
    have : (10 : Nat) ^ 18 < 10 ^ 40 := by decide
    omega
  obtain ⟨g1, g2⟩ := greatest_spec mne
  refine sd_seq (sd_asgN (en_is (es := dI (l.map fun x => x.2)) (en_lcL (f := dBar) (l := l) (g := fun x => D.int x.2) (dw_listL (ed_fld (ed_var rfl) T.k_BarChart T.n_BarChart_bars rfl)) rfl rfl (fun x hx => (ed_ixT (ds := [.tup (dI (bI x.1)), .int x.2]) (ed_var rfl) ed_int rfl)) (by omega)) (by unfold dI; rw [List.map_map]; rfl)) (hlt rfl) ?_)
  refine sd_frz 2 rfl ?_
  refine sd_seq (sd_asg (ed_max (m := barM l) (ed_var rfl) g1 g2) (hlt rfl) ?_)
  refine sd_seq (sd_asg (ed_call (ea_cons (ed_fld (d := .lst (l.map dBar)) (ed_var rfl) T.k_BarChart T.n_BarChart_bars rfl) ea_nil) (.mk hv hne)) (hlt rfl) ?_)
  refine sd_seq (sd_asg (ed_max (ns := nI (l.map fun x => (Vanbkh.decimal x.2).length)) (m := (barN l : Nat)) (ed_is (en_lcL (f := fun x => D.int x.2) (l := l) (g := fun x => D.int ((Vanbkh.decimal x.2).length : Nat)) (dw_listL (ed_is (ed_var rfl) (by unfold dI; rw [List.map_map]; rfl))) rfl rfl (fun x hx => (ed_is (ed_lenN (l := bI (Vanbkh.decimal x.2)) (ed_call (ea_cons (ed_var rfl) ea_nil) (.mk (hz x hx)))) (by rw [bI_length]))) (by omega)).ed (by unfold nI dI; rw [List.map_map, List.map_map]; rfl)) ?_ ?_) (hlt rfl) ?_)
  · exact List.mem_map_of_mem (maximum_mem (by simpa using hne))
  · intro y hy
    obtain ⟨x, hx, rfl⟩ := List.mem_map.mp hy
    have : x ≤ barN l := maximum_le hx
    omega
  refine sd_seq (sd_asg (ed_is (ed_max2 (ed_sub (ed_sub (ed_sub (ed_var rfl) (ed_var rfl)) (ed_var rfl)) ed_int) ed_int) (e := .int (barR w l : Nat)) ?_) (hlt rfl) ?_)
  · show D.int _ = D.int _
    unfold barR
    congr 1
    omega
  refine sd_seq (sd_asgN (en_lst ea_nil (hle rfl)) (hlt rfl) ?_)
  refine sd_seq (sd_forL (f := dBar) (l := l) (dw_listL (ed_fld (ed_var rfl) T.k_BarChart T.n_BarChart_bars rfl)) (fun pre δ => ∃ s1 s2 s3 s4 s5 s6, δ = [.sh (dIt (.bars l)), .sh (.int w), .sh (.lst (dI (l.map fun x => x.2))), .sh (.int (barM l)), .sh (.int (barT l : Nat)), .sh (.int (barN l : Nat)), .sh (.int (barR w l : Nat)), .own ((pre.map (barF w l)).map dB), s1, s2, s3, s4, s5, s6]) ?_ ?_ ?_)
  · exact ⟨_, _, _, _, _, _, rfl⟩
  · rintro pre x post δ e ⟨s1, s2, s3, s4, s5, s6, rfl⟩
    have hx : x ∈ l := by rw [e]; simp
    have hb := hv.2 x hx
    obtain ⟨k1, k2, k3, k4⟩ := barK_le (w := w) hv hx
    have rb : barR w l ≤ 120 := by unfold barR; omega
    have hp : pre.length ≤ 20 := by
      have := congrArg List.length e
      simp at this
      omega
    have q1 := line_len x.1
    have q2 := truncate_len (n := barT l) (Vanbkh.singleLine x.1) tb.1
    have q3 := padR_len q2
    have q4 := padR_len (n := barR w l) (l := List.replicate (barK w l x) 61) (by rw [List.length_replicate]; exact k1)
    have q5 : (Vanbkh.decimal x.2).length ≤ barN l := maximum_le (l := l.map fun x => (Vanbkh.decimal x.2).length) (List.mem_map_of_mem hx)
    have q6 := padL_len q5
    refine gd_tup2 (hlt rfl) (hlt rfl) ?_
    refine sd_seq (sd_asg (ed_is (ed_call (ea_cons (ed_is (ed_call (ea_cons (ed_is (ed_call (ea_cons (ed_var rfl) ea_nil) (.mk (l := bI x.1) (by rw [bI_length]; omega))) (e := dB (Vanbkh.singleLine x.1)) (by rw [mLine_bI]; rfl)) (ea_cons (ed_var rfl) ea_nil)) (.mk (l := bI (Vanbkh.singleLine x.1)) (n := (barT l : Nat)) (by rw [bI_length]; omega) (by omega))) (e := dB (Vanbkh.truncate (barT l) (Vanbkh.singleLine x.1))) (by rw [mTrunc_bI _ _ tb.1]; rfl)) (ea_cons (ed_var rfl) ea_nil)) (.mk (l := bI (Vanbkh.truncate (barT l) (Vanbkh.singleLine x.1))) (n := (barT l : Nat)) (by rw [bI_length]; omega) (by omega) (by omega))) (e := dB (Vanbkh.padRight (barT l) (Vanbkh.truncate (barT l) (Vanbkh.singleLine x.1)))) (by rw [mPadR_bI]; rfl)) (hlt rfl) ?_)
    refine sd_seq (sd_asg (ed_is (ed_call (ea_cons (ed_is (en_repI (i := 61) (n := (barK w l x : Nat)) (en_lst1I ed_int).ed (ed_is (ed_call (ea_cons (ed_var rfl) (ea_cons (ed_var rfl) (ea_cons (ed_var rfl) ea_nil))) (.mk hb.2.1 hb.2.2 k3 k4 (by omega))) (by rw [k2])) (by omega) (by omega)).ed (e := dB (List.replicate (barK w l x) 61)) (by unfold dB; rw [bI_rep, Int.toNat_natCast]; rfl)) (ea_cons (ed_var rfl) ea_nil)) (.mk (l := bI (List.replicate (barK w l x) 61)) (n := (barR w l : Nat)) (by rw [bI_length, List.length_replicate]; omega) (by omega) (by omega))) (e := dB (Vanbkh.padRight (barR w l) (List.replicate (barK w l x) 61))) (by rw [mPadR_bI]; rfl)) (hlt rfl) ?_)
    refine sd_seq (sd_asg (ed_is (ed_call (ea_cons (ed_call (ea_cons (ed_var rfl) ea_nil) (.mk (hz x hx))) (ea_cons (ed_var rfl) ea_nil)) (.mk (l := bI (Vanbkh.decimal x.2)) (n := (barN l : Nat)) (by rw [bI_length]; omega) (by omega) (by omega))) (e := dB (Vanbkh.padLeft (barN l) (Vanbkh.decimal x.2))) (by rw [mPadL_bI]; rfl)) (hlt rfl) ?_)
    generalize ha : Vanbkh.padRight (barT l) (Vanbkh.truncate (barT l) (Vanbkh.singleLine x.1)) = A1 at *
    generalize hb' : Vanbkh.padRight (barR w l) (List.replicate (barK w l x) 61) = A2 at *
    generalize hc : Vanbkh.padLeft (barN l) (Vanbkh.decimal x.2) = A3 at *
    refine (sd_appendM (f := dB) (x := barF w l x) rfl (ed_is (ed_call (ea_cons (en_catI (l := bI A1 ++ [32] ++ bI A2 ++ [32]) (m := bI A3) (en_catI (l := bI A1 ++ [32] ++ bI A2) (m := [32]) (en_catI (l := bI A1 ++ [32]) (m := bI A2) (en_catI (l := bI A1) (m := [32]) (ed_var rfl) (en_lst1I ed_int).ed ?_).ed (ed_var rfl) ?_).ed (en_lst1I ed_int).ed ?_).ed (ed_var rfl) ?_).ed (ea_cons (ed_var rfl) ea_nil)) (.mk (l := bI A1 ++ [32] ++ bI A2 ++ [32] ++ bI A3) (n := w) ?_ (by omega))) ?_) (by rw [List.length_map]; omega) ?_)
    · rw [bI_length]; show _ + 1 ≤ _; omega
    · rw [List.length_append, bI_length, bI_length]; show _ + 1 + _ ≤ _; omega
    · rw [List.length_append, List.length_append, bI_length, bI_length]; show _ + 1 + _ + 1 ≤ _; omega
    · rw [List.length_append, List.length_append, List.length_append, bI_length, bI_length, bI_length]; show _ + 1 + _ + 1 + _ ≤ _; omega
    · rw [List.length_append, List.length_append, List.length_append, List.length_append, bI_length, bI_length, bI_length]; show _ + 1 + _ + 1 + _ ≤ _; omega
    · have e9 : bI A1 ++ [32] ++ bI A2 ++ [32] ++ bI A3 = bI (A1 ++ [32] ++ A2 ++ [32] ++ A3) := by rw [bI_append, bI_append, bI_append, bI_append]; rfl
      rw [e9, mTrunc_bI _ _ (by omega)]
      unfold barF
      rw [ha, hb', hc]
      rfl
    · refine ⟨.sh (.tup (dI (bI x.1))), .sh (.int x.2), .sh (dB A1), .sh (dB A2), .sh (dB A3), s6, ?_⟩
      have e1 : (pre ++ [x]).map (barF w l) = pre.map (barF w l) ++ [barF w l x] := List.map_append
      rw [e1]
      rfl
  rintro δ ⟨s1, s2, s3, s4, s5, s6, rfl⟩
  refine sd_frz 7 rfl (sd_ret (ed_var rfl) ?_)
  show _ = dBs (Vanbkh.barLines w l)
  rw [barLines_eq w l hne]
  rfl
end Rl
namespace Rl
open PySem PySem.Spec PyProof.Rows L2 Dg

inductive r_scale : List D → D → Prop
  | mk {v lo hi : Int} {p : Nat} (h1 : lo ≤ v) (h2 : v ≤ hi) (h3 : lo.natAbs < 10 ^ 18) (h4 : hi.natAbs < 10 ^ 18) (hp : 1 ≤ p) (hp2 : p ≤ 1000) : r_scale [.int v, .int lo, .int hi, .int p] (.int (Vanbkh.scale v lo hi p : Nat))
abbrev N_scale : List Str := ["value", "least", "greatest", "places"]
theorem sc_scale : FnScope N_scale ["value", "least", "greatest", "places"] (defScope (top 136)) := ⟨rfl, rfl, rfl, by decide +kernel, rfl, by decide +kernel, by decide +kernel⟩
theorem ok_scale {Pr : Program} {w : World} {K : PySem.W.Frag} {mg : Str → Option Value} {base : Heap} (T : Tx K mg) : Ok Pr w K mg base 1 "scale" ["value", "least", "greatest", "places"] (spR K r_scale) := by
  obtain ⟨fd, F⟩ := T.d_scale
  refine ⟨⟨fd, fn_pure (N := N_scale) F sc_scale (fun ds d h => by cases h; rfl) ?_, F.bindsN fun _ _ _ _ _ _ us hl => match us, hl with | [_, _, _, _], _ => rfl⟩, F.kp, T.g_scale⟩
  intro cdv A outer s H E hr
  refine ⟨_, (pss_cons (ps_if (pt_cmpR op_eq (pv 1) (pv 2) (nomark _))
 (pss_one (ps_ret pe_int))
 pss_nil)
 (pss_one (ps_ret (pe_op op_fdivW (pe_op op_mulW (pe_op op_sub (pv 0) (pv 1)) (pe_op op_sub (pv 3) pe_int)) (pe_op op_sub (pv 2) (pv 1)))))), ?_⟩
  intro B ds d hR
  obtain ⟨⟩ := hR
  rename_i v lo hi p h1 h2 h3 h4 hp hp2
  obtain ⟨s1, s2⟩ := scale_bd h1 h2 hp
  refine sd_seq (sd_if (et_test (ed_eq (ed_var rfl) (ed_var rfl))) (fun h => ?_) (fun h => ?_))
  · refine (sd_ret ed_int ?_)
    have : lo = hi := by simpa using h
    rw [s2, if_pos this.symm]
  refine sd_next ?_
  have hm : ¬ lo = hi := by simpa using h
  have l1 := log_small (n := (v - lo).natAbs) (by have : (10 : Nat) ^ 18 + 10 ^ 18 < 10 ^ 40 := by decide
                                                  omega)
  have l2 := log_small (n := (hi - lo).natAbs) (by have : (10 : Nat) ^ 18 + 10 ^ 18 < 10 ^ 40 := by decide
                                                   omega)
  have l3 := log_small (n := ((p : Int) - 1).natAbs) (Nat.lt_of_le_of_lt (by omega : _ ≤ 1000) (by decide))
  refine (sd_ret (ed_fdivW (ed_mulW (ed_sub (ed_var rfl) (ed_var rfl)) (ed_sub (ed_var rfl) ed_int) ?_) (ed_sub (ed_var rfl) (ed_var rfl)) ?_) ?_)
  · show (v - lo).natAbs.log2 + ((p : Int) - 1).natAbs.log2 < 1000000
    omega
  · exact ⟨by omega, by omega⟩
  · rw [s2, if_neg (fun z => hm z.symm)]
theorem en2_is {K : PySem.W.Frag} {B : Bs} {δ : List Sl} {te : TE} {d e : List (List D)} (h : EN2 K B δ te d) (q : d = e) : EN2 K B δ te e := q ▸ h
inductive r_count_points : List D → D → Prop
  | mk {ps : List (Int × Int)} {h g : Nat} (hv : VP h ps) (hne : ps ≠ []) (hg : 1 ≤ g) (hg2 : g ≤ 120) : r_count_points [.lst (ps.map dPt), .int h, .int g] (.lst ((gridD (pPos h g ps) h g).map D.lst))
abbrev N_count_points : List Str := ["points", "height", "grid_width", "xs", "ys", "columns", "rows", "counts", "column", "row", "point", "x", "y"]
theorem sc_count_points : FnScope N_count_points ["points", "height", "grid_width"] (defScope (top 137)) := ⟨rfl, rfl, rfl, by decide +kernel, rfl, by decide +kernel, by decide +kernel⟩
theorem ok_count_points {Pr : Program} {w : World} {K : PySem.W.Frag} {mg : Str → Option Value} {base : Heap} (T : Tx K mg) : Ok Pr w K mg base 2 "count_points" ["points", "height", "grid_width"] (spR K r_count_points) := by
  obtain ⟨fd, F⟩ := T.d_count_points
  refine ⟨⟨fd, fn_pure (N := N_count_points) F sc_count_points (fun ds d h => by cases h; rfl) ?_, F.bindsN fun _ _ _ _ _ _ us hl => match us, hl with | [_, _, _], _ => rfl⟩, F.kp, T.g_count_points⟩
  intro cdv A outer s H E hr
  refine ⟨_, (pss_cons (ps_set (i := 3) sc_count_points.nd rfl (Or.inr rfl) (pe_lc (own := [("point", 10)]) (g := gName 10) (tt := tYes) rfl sc_count_points.nd (pi_list (pv 0)) (blkOk_by (own := [("point", 10)]) (N := N_count_points) (sc := (defScope (top 137))) (by decide +kernel)) (fun _ _ _ _ _ => pg_name (i := 10) sc_count_points.nd rfl (Or.inl rfl)) (fun _ _ _ _ _ => pts_nil) (fun _ _ _ _ _ => (pe_ix (r := rIxT K) ix_tup (pv 10) pe_int (fun _ _ => rfl)))))
 (pss_cons (ps_set (i := 4) sc_count_points.nd rfl (Or.inr rfl) (pe_lc (own := [("point", 10)]) (g := gName 10) (tt := tYes) rfl sc_count_points.nd (pi_list (pv 0)) (blkOk_by (own := [("point", 10)]) (N := N_count_points) (sc := (defScope (top 137))) (by decide +kernel)) (fun _ _ _ _ _ => pg_name (i := 10) sc_count_points.nd rfl (Or.inl rfl)) (fun _ _ _ _ _ => pts_nil) (fun _ _ _ _ _ => (pe_ix (r := rIxT K) ix_tup (pv 10) pe_int (fun _ _ => rfl)))))
 (pss_cons (ps_setLc (i := 5) (own := [("x", 11)]) (g := gName 11) (tt := tYes) rfl sc_count_points.nd rfl rfl (sw_true rfl rfl rfl (by decide +kernel)) (pi_list (pv 3)) (blkOk_by (own := [("x", 11)]) (N := N_count_points) (sc := (defScope (top 137))) (by decide +kernel)) (fun _ _ _ _ _ => pg_name (i := 11) sc_count_points.nd rfl (Or.inl rfl)) (fun _ _ _ _ _ => pts_nil) (fun _ _ _ _ _ => (pe_callO (ok_scale T) (hr.mono (by decide)) rfl (pa_cons (pv 11) (pa_cons (pe_callB (r := rMin K) (cr_min rfl) (by rfl) T.f_min (by decide +kernel) (pa_cons (pv 3) pa_nil)) (pa_cons (pe_callB (r := rMax K) (cr_max rfl) (by rfl) T.f_max (by decide +kernel) (pa_cons (pv 3) pa_nil)) (pa_cons (pv 2) pa_nil)))))))
 (pss_cons (ps_setLc (i := 6) (own := [("y", 12)]) (g := gName 12) (tt := tYes) rfl sc_count_points.nd rfl rfl (sw_true rfl rfl rfl (by decide +kernel)) (pi_list (pv 4)) (blkOk_by (own := [("y", 12)]) (N := N_count_points) (sc := (defScope (top 137))) (by decide +kernel)) (fun _ _ _ _ _ => pg_name (i := 12) sc_count_points.nd rfl (Or.inl rfl)) (fun _ _ _ _ _ => pts_nil) (fun _ _ _ _ _ => (pe_callO (ok_scale T) (hr.mono (by decide)) rfl (pa_cons (pv 12) (pa_cons (pe_callB (r := rMin K) (cr_min rfl) (by rfl) T.f_min (by decide +kernel) (pa_cons (pv 4) pa_nil)) (pa_cons (pe_callB (r := rMax K) (cr_max rfl) (by rfl) T.f_max (by decide +kernel) (pa_cons (pv 4) pa_nil)) (pa_cons (pv 1) pa_nil)))))))
 (pss_cons (ps_setLc (i := 7) (own := [("row", 9)]) (g := gName 9) (tt := tYes) rfl sc_count_points.nd rfl rfl (sw_true rfl rfl rfl (by decide +kernel)) (pi_range1 (by rfl) T.f_range (pa_cons (pv 1) pa_nil)) (blkOk_by (own := [("row", 9)]) (N := N_count_points) (sc := (defScope (top 137))) (by decide +kernel)) (fun _ _ _ _ _ => pg_name (i := 9) sc_count_points.nd rfl (Or.inl rfl)) (fun _ _ _ _ _ => pts_nil) (fun _ _ _ _ _ => (pe_op op_rep (pe_lst (pa_cons pe_int pa_nil)) (pv 2))))
 (pss_cons (ps_for PassesOwn.never rfl (pi_zip (by rfl) T.f_zip (pa_cons (pv 5) (pa_cons (pv 6) pa_nil))) (pg_tup rfl (pgs_cons (pg_name (i := 8) sc_count_points.nd rfl (Or.inl rfl)) (pgs_cons (pg_name (i := 9) sc_count_points.nd rfl (Or.inl rfl)) pgs_nil)))
 (pss_one (ps_asg (pe_op op_add (pe_ix (r := rIxL K) ix_list (pe_ix (r := rIxL K) ix_list (pv 7) (pv 9) (fun _ _ => rfl)) (pv 8) (fun _ _ => rfl)) pe_int) (pg_sub (pe_ix (r := rIxL K) ix_list (pv 7) (pv 9) (fun _ _ => rfl)) (pv 8) set_list))))
 (pss_one (ps_ret (pv 7))))))))), ?_⟩
  intro B ds d hR
  obtain ⟨⟩ := hR
  rename_i ps h g hv hne hg hg2
  have hl := hv.2.2.1
  obtain ⟨y1, y2, y3, y4⟩ := ys_bd hv hne
  have n1 : (ps.map fun p => p.1) ≠ [] := by simpa using hne
  have n2 : (ps.map fun p => p.2) ≠ [] := by simpa using hne
  have lx := least_spec n1
  have gx := greatest_spec n1
  have ly := least_spec n2
  have gy := greatest_spec n2
  have h3 := hv.1
  have h40 := hv.2.1
  refine sd_seq (sd_asgN (en_is (es := dI (ps.map fun p => p.1)) (en_lcL (f := dPt) (l := ps) (g := fun p => D.int p.1) (dw_listL (ed_var rfl)) rfl rfl (fun x hx => (ed_ixT (ds := [.int x.1, .int x.2]) (ed_var rfl) ed_int rfl)) (by omega)) (by unfold dI; rw [List.map_map]; rfl)) (hlt rfl) ?_)
  refine sd_frz 3 rfl ?_
  refine sd_seq (sd_asgN (en_is (es := dI (ps.map fun p => p.2)) (en_lcL (f := dPt) (l := ps) (g := fun p => D.int p.2) (dw_listL (ed_var rfl)) rfl rfl (fun x hx => (ed_ixT (ds := [.int x.1, .int x.2]) (ed_var rfl) ed_int rfl)) (by omega)) (by unfold dI; rw [List.map_map]; rfl)) (hlt rfl) ?_)
  refine sd_frz 4 rfl ?_
  refine sd_seq (sd_asgN (en_lcL (f := fun p : Int × Int => D.int p.1) (l := ps) (g := fun p => D.int (Vanbkh.scale p.1 (pX0 ps) (pX1 ps) g : Nat)) (dw_listL (ed_is (ed_var rfl) (by unfold dI; rw [List.map_map]; rfl))) rfl rfl (fun x hx => (ed_call (ea_cons (ed_var rfl) (ea_cons (ed_min (m := pX0 ps) (ed_var rfl) lx.1 lx.2) (ea_cons (ed_max (m := pX1 ps) (ed_var rfl) gx.1 gx.2) (ea_cons (ed_var rfl) ea_nil)))) (.mk (lx.2 _ (List.mem_map_of_mem hx)) (gx.2 _ (List.mem_map_of_mem hx)) y1 y2 hg (by omega)))) (by omega)) (hlt rfl) ?_)
  refine sd_frz 5 rfl ?_
  refine sd_seq (sd_asgN (en_lcL (f := fun p : Int × Int => D.int p.2) (l := ps) (g := fun p => D.int (Vanbkh.scale p.2 (pY0 ps) (pY1 ps) h : Nat)) (dw_listL (ed_is (ed_var rfl) (by unfold dI; rw [List.map_map]; rfl))) rfl rfl (fun x hx => (ed_call (ea_cons (ed_var rfl) (ea_cons (ed_min (m := pY0 ps) (ed_var rfl) ly.1 ly.2) (ea_cons (ed_max (m := pY1 ps) (ed_var rfl) gy.1 gy.2) (ea_cons (ed_var rfl) ea_nil)))) (.mk (ly.2 _ (List.mem_map_of_mem hx)) (gy.2 _ (List.mem_map_of_mem hx)) y3 y4 (by omega) (by omega)))) (by omega)) (hlt rfl) ?_)
  refine sd_frz 6 rfl ?_
  have eg : ((List.range h).map fun _ => dI (List.replicate g 0)) = gridD [] h g := by
    unfold gridD
    refine List.map_congr_left fun r _ => ?_
    congr 1
    unfold nI rowC
    rw [List.map_map]
    apply List.ext_getElem
    · simp
    · intro i h1 h2
      simp [cnt]
  refine sd_seq (sd_asgN2 (dss := gridD [] h g) (en2_is (en2_lc (g := fun _ => dI (List.replicate g 0)) (dw_rng1 (j := (h : Int)) (ed_var rfl) (by omega) (by omega)) rfl rfl (fun i hi => en_is (en_repI (i := 0) (n := (g : Int)) (en_lst1I ed_int).ed (ed_var rfl) (by omega) (by omega)) (by rw [Int.toNat_natCast])) (by simp; omega)) (by simpa using eg)) (hlt rfl) ?_)
  refine sd_seq (sd_for (dw_zip (ds := ps.map fun p => D.int (Vanbkh.scale p.1 (pX0 ps) (pX1 ps) g : Nat)) (es := ps.map fun p => D.int (Vanbkh.scale p.2 (pY0 ps) (pY1 ps) h : Nat)) (ed_var rfl) (ed_var rfl) (by rw [List.length_map, List.length_map])) (fun i δ => ∃ s1 s2 s3 s4 s5, δ = [.sh (.lst (ps.map dPt)), .sh (.int h), .sh (.int g), .sh (.lst (dI (ps.map fun p => p.1))), .sh (.lst (dI (ps.map fun p => p.2))), .sh (.lst (ps.map fun p => D.int (Vanbkh.scale p.1 (pX0 ps) (pX1 ps) g : Nat))), .sh (.lst (ps.map fun p => D.int (Vanbkh.scale p.2 (pY0 ps) (pY1 ps) h : Nat))), .ow2 (gridD ((pPos h g ps).take i) h g), s1, s2, s3, s4, s5]) ?_ ?_ ?_)
  · exact ⟨_, _, _, _, _, rfl⟩
  · rintro i δ hi ⟨s1, s2, s3, s4, s5, rfl⟩
    rw [List.length_map] at hi
    have ei : ps.getD i default = ps[i] := by rw [List.getD_eq_getElem?_getD, List.getElem?_eq_getElem hi]; rfl
    have hx : ps[i] ∈ ps := List.getElem_mem hi
    rw [nth_mapD hi, nth_mapD hi, ei]
    have sc := (scale_bd (p := g) (lx.2 _ (List.mem_map_of_mem hx)) (gx.2 _ (List.mem_map_of_mem hx)) hg).1
    have sr := (scale_bd (p := h) (ly.2 _ (List.mem_map_of_mem hx)) (gy.2 _ (List.mem_map_of_mem hx)) (by omega)).1
    have et : (pPos h g ps).take (i + 1) = (pPos h g ps).take i ++ [(Vanbkh.scale ps[i].1 (pX0 ps) (pX1 ps) g, Vanbkh.scale ps[i].2 (pY0 ps) (pY1 ps) h)] := by
      rw [take_snoc (by unfold pPos; rw [List.length_map]; exact hi)]
      unfold pPos
      rw [List.getElem_map]
    have sc' : Vanbkh.scale ps[i].1 (pX0 ps) (pX1 ps) g < g := sc
    have sr' : Vanbkh.scale ps[i].2 (pY0 ps) (pY1 ps) h < h := sr
    generalize Vanbkh.scale ps[i].1 (pX0 ps) (pX1 ps) g = c0 at *
    generalize Vanbkh.scale ps[i].2 (pY0 ps) (pY1 ps) h = r0 at *
    have gl : (gridD ((pPos h g ps).take i) h g).length = h := by simp [gridD]
    have rl : (dI (nI (rowC ((pPos h g ps).take i) g r0))).length = g := by simp [rowC, nI]
    have ixr : ixN (gridD ((pPos h g ps).take i) h g).length (r0 : Int) = some r0 := by
      unfold ixN
      rw [gl, if_pos (by omega), if_pos (by omega)]
      rfl
    refine gd_tup2 (hlt rfl) (hlt rfl) ?_
    refine (sd_setitem2 (k := r0) (j := c0) rfl (ed_add (ed_ix2 rfl (ed_var rfl) (ed_var rfl) ixr (gridD_get sr') (atI_nat (rowC_get sc'))) ed_int) (ed_var rfl) (ed_var rfl) ixr (gridD_get sr') ?_ ?_)
    · unfold ixN
      rw [rl, if_pos (by omega), if_pos (by omega)]
      rfl
    · refine ⟨.sh (.int (c0 : Nat)), .sh (.int (r0 : Nat)), s3, s4, s5, ?_⟩
      rw [et, gridD_snoc sc' sr']
      rfl
  rintro δ ⟨s1, s2, s3, s4, s5, rfl⟩
  refine sd_frz2 7 rfl (sd_ret (ed_var rfl) ?_)
  rw [List.length_map, List.take_of_length_le (by unfold pPos; rw [List.length_map]; exact Nat.le_refl _)]
inductive r_point_sign : List D → D → Prop
  | mk {n : Nat} : r_point_sign [.int n] (.int (bi (Vanbkh.pointMark n)))
abbrev N_point_sign : List Str := ["count"]
theorem sc_point_sign : FnScope N_point_sign ["count"] (defScope (top 138)) := ⟨rfl, rfl, rfl, by decide +kernel, rfl, by decide +kernel, by decide +kernel⟩
theorem ok_point_sign {Pr : Program} {w : World} {K : PySem.W.Frag} {mg : Str → Option Value} {base : Heap} (T : Tx K mg) : Ok Pr w K mg base 1 "point_sign" ["count"] (spR K r_point_sign) := by
  obtain ⟨fd, F⟩ := T.d_point_sign
  refine ⟨⟨fd, fn_pure (N := N_point_sign) F sc_point_sign (fun ds d h => by cases h; rfl) ?_, F.bindsN fun _ _ _ _ _ _ us hl => match us, hl with | [_], _ => rfl⟩, F.kp, T.g_point_sign⟩
  intro cdv A outer s H E hr
  refine ⟨_, (pss_cons (ps_if (pt_cmpR op_eq (pv 0) pe_int (nomark _))
 (pss_one (ps_ret (pe_gint rfl T.i_SPACE)))
 pss_nil)
 (pss_cons (ps_if (pt_cmpR op_eq (pv 0) pe_int (nomark _))
 (pss_one (ps_ret (pe_gint rfl T.i_STAR)))
 pss_nil)
 (pss_cons (ps_if (pt_cmpR op_le (pv 0) pe_int (nomark _))
 (pss_one (ps_ret (pe_op op_add (pe_gint rfl T.i_ZERO) (pv 0))))
 pss_nil)
 (pss_one (ps_ret (pe_gint rfl T.i_NUMBER_SIGN)))))), ?_⟩
  intro B ds d hR
  obtain ⟨⟩ := hR
  rename_i n
  refine sd_seq (sd_if (et_test (ed_eq (ed_var rfl) ed_int)) (fun h => ?_) (fun h => ?_))
  · have : (n : Int) = 0 := by simpa using h
    refine (sd_ret ed_int ?_)
    rw [mark_bi, if_pos (by omega)]
  refine sd_next ?_
  have h0 : ¬ (n : Int) = 0 := by simpa using h
  refine sd_seq (sd_if (et_test (ed_eq (ed_var rfl) ed_int)) (fun h => ?_) (fun h => ?_))
  · have : (n : Int) = 1 := by simpa using h
    refine (sd_ret ed_int ?_)
    rw [mark_bi, if_neg (by omega), if_pos (by omega)]
  refine sd_next ?_
  have h1 : ¬ (n : Int) = 1 := by simpa using h
  refine sd_seq (sd_if (et_test (ed_le (ed_var rfl) ed_int)) (fun h => ?_) (fun h => ?_))
  · have : (n : Int) ≤ 9 := by simpa using h
    refine (sd_ret (ed_add ed_int (ed_var rfl)) ?_)
    rw [mark_bi, if_neg (by omega), if_neg (by omega), if_pos (by omega)]
  refine sd_next ?_
  have h9 : ¬ (n : Int) ≤ 9 := by simpa using h
  refine (sd_ret ed_int ?_)
  rw [mark_bi, if_neg (by omega), if_neg (by omega), if_neg (by omega)]
inductive r_grid_line : List D → D → Prop
  | mk {label : List UInt8} {ns : List Nat} (h : label.length ≤ 1000) (h2 : ns.length ≤ 1000) : r_grid_line [dB label, dN ns] (dB (Vanbkh.trimEnd (label ++ [124] ++ ns.map Vanbkh.pointMark)))
abbrev N_grid_line : List Str := ["label", "counts", "line", "end", "count"]
theorem sc_grid_line : FnScope N_grid_line ["label", "counts"] (defScope (top 139)) := ⟨rfl, rfl, rfl, by decide +kernel, rfl, by decide +kernel, by decide +kernel⟩
theorem ok_grid_line {Pr : Program} {w : World} {K : PySem.W.Frag} {mg : Str → Option Value} {base : Heap} (T : Tx K mg) : Ok Pr w K mg base 2 "grid_line" ["label", "counts"] (spR K r_grid_line) := by
  obtain ⟨fd, F⟩ := T.d_grid_line
  refine ⟨⟨fd, fn_pure (N := N_grid_line) F sc_grid_line (fun ds d h => by cases h; rfl) ?_, F.bindsN fun _ _ _ _ _ _ us hl => match us, hl with | [_, _], _ => rfl⟩, F.kp, T.g_grid_line⟩
  intro cdv A outer s H E hr
  refine ⟨_, (pss_cons (ps_set (i := 2) sc_grid_line.nd rfl (Or.inl rfl) (pe_op op_cat (pv 0) (pe_lst (pa_cons (pe_gint rfl T.i_BAR) pa_nil))))
 (pss_cons (ps_set (i := 3) sc_grid_line.nd rfl (Or.inl rfl) (pe_callB (r := rLenQ K) call_len_seq (by rfl) T.f_len (by decide +kernel) (pa_cons (pv 2) pa_nil)))
 (pss_cons (ps_for PassesOwn.never rfl (pi_list (pv 1)) (pg_name (i := 4) sc_grid_line.nd rfl (Or.inl rfl))
 (pss_cons (ps_expr (pe_bm PySem.F.plainAttrs_list PySem.F.slot_list_append PySem.F.type_list_append mt_append (pv 2) (pa_cons (pe_callO (ok_point_sign T) (hr.mono (by decide)) rfl (pa_cons (pv 4) pa_nil)) pa_nil)))
 (pss_one (ps_if (pt_cmpR op_gt (pv 4) pe_int (nomark _))
 (pss_one (ps_set (i := 3) sc_grid_line.nd rfl (Or.inl rfl) (pe_callB (r := rLenQ K) call_len_seq (by rfl) T.f_len (by decide +kernel) (pa_cons (pv 2) pa_nil))))
 pss_nil))))
 (pss_one (ps_ret (pe_slice (r := rSlL K) sl_list (pv 2) po_none (po_some (pv 3)))))))), ?_⟩
  intro B ds d hR
  obtain ⟨⟩ := hR
  rename_i label ns h h2
  refine sd_seq (sd_asgN (en_is (es := dI (bI (label ++ [124]))) (en_catI (l := bI label) (ed_var rfl) (en_lst1I ed_int).ed ?_) ?_) (hlt rfl) ?_)
  · rw [bI_length]
    show _ + 1 ≤ _
    omega
  · rw [bI_append]
    rfl
  refine sd_seq (sd_asg (ed_is (ed_lenO rfl) (e := .int ((Vanbkh.trimEnd (label ++ [124])).length : Nat)) ?_) (hlt rfl) ?_)
  · rw [List.length_map, bI_length, trim_snoc, if_neg (by decide)]
  refine sd_seq (sd_forL (f := fun n : Nat => D.int (n : Int)) (l := ns) (dw_listL (ed_is (ed_var rfl) (by unfold dN dI nI; rw [List.map_map]; rfl))) (fun pre δ => ∃ sl, δ = [.sh (dB label), .sh (dN ns), .own (dI (bI (label ++ [124] ++ pre.map Vanbkh.pointMark))), .sh (.int ((Vanbkh.trimEnd (label ++ [124] ++ pre.map Vanbkh.pointMark)).length : Nat)), sl]) ?_ ?_ ?_)
  · exact ⟨.un, by rw [List.map_nil, List.append_nil]; rfl⟩
  · rintro pre x post δ e ⟨sl, rfl⟩
    have hp : pre.length ≤ 1000 := by
      have := congrArg List.length e
      simp at this
      omega
    have ea : label ++ [124] ++ (pre ++ [x]).map Vanbkh.pointMark = label ++ [124] ++ pre.map Vanbkh.pointMark ++ [Vanbkh.pointMark x] := by
      rw [List.map_append]
      simp
    have el : (label ++ [124] ++ pre.map Vanbkh.pointMark).length = label.length + 1 + pre.length := by simp; omega
    rw [ea]
    generalize label ++ [124] ++ pre.map Vanbkh.pointMark = L at *
    refine gd_name (hlt rfl) ?_
    refine sd_seq (sd_appendI (l := bI L) (x := bi (Vanbkh.pointMark x)) rfl (ed_call (ea_cons (ed_var rfl) ea_nil) (.mk)) (by rw [bI_length]; omega) ?_)
    have eb : bI L ++ [bi (Vanbkh.pointMark x)] = bI (L ++ [Vanbkh.pointMark x]) := by rw [bI_append]; rfl
    rw [eb]
    refine (sd_if (et_test (ed_gt (ed_var rfl) ed_int)) (fun h => ?_) (fun h => ?_))
    · have : (x : Int) > 0 := by simpa using h
      refine (sd_asg (ed_is (ed_lenO rfl) (e := .int ((Vanbkh.trimEnd (L ++ [Vanbkh.pointMark x])).length : Nat)) ?_) (hlt rfl) ?_)
      · rw [List.length_map, bI_length, trim_snoc, if_neg (fun z => by have := (mark_sp x).mp z; omega)]
      · exact ⟨.sh (.int x), rfl⟩
    · refine sd_next ?_
      have : ¬ (x : Int) > 0 := by simpa using h
      refine ⟨.sh (.int x), ?_⟩
      rw [trim_snoc, if_pos ((mark_sp x).mpr (by omega))]
      rfl
  rintro δ ⟨sl, rfl⟩
  refine sd_frz 2 rfl ?_
  have tt := trim_take (label ++ [124] ++ ns.map Vanbkh.pointMark)
  refine (sd_ret (en_sliceI (ed_var rfl) eo_none (eo_some (ed_var rfl))).ed ?_)
  rw [cutD_to _ (by omega), Int.toNat_natCast]
  show D.lst (dI ((bI _).take _)) = D.lst (dI (bI _))
  have : (bI (label ++ [124] ++ ns.map Vanbkh.pointMark)).take (Vanbkh.trimEnd (label ++ [124] ++ ns.map Vanbkh.pointMark)).length = bI ((label ++ [124] ++ ns.map Vanbkh.pointMark).take (Vanbkh.trimEnd (label ++ [124] ++ ns.map Vanbkh.pointMark)).length) := by
    unfold bI
    rw [List.map_take]
  rw [this, tt.1]
end Rl
namespace Rl
open PySem PySem.Spec PyProof.Rows L2 Dg

theorem pLab_bd {h : Nat} {ps : List (Int × Int)} (v : VP h ps) (hne : ps ≠ []) : pLab ps ≤ 19 ∧ (Vanbkh.decimal (pY0 ps)).length ≤ pLab ps ∧ (Vanbkh.decimal (pY1 ps)).length ≤ pLab ps := by
  obtain ⟨y1, y2, y3, y4⟩ := ys_bd v hne
  have := dec18 y3
  have := dec18 y4
  unfold pLab
  omega
theorem pLabel_len (h : Nat) (ps : List (Int × Int)) (r : Nat) : (pLabel h ps r).length ≤ pLab ps := by
  unfold pLabel pLab
  split
  · omega
  · split
    · omega
    · exact Nat.zero_le _
def labs (h : Nat) (ps : List (Int × Int)) : List D := (List.range h).map fun r => dB (pLabel h ps r)
theorem labs_set {h : Nat} (h3 : 3 ≤ h) (ps : List (Int × Int)) : ((List.replicate h (D.lst [])).set 0 (dB (Vanbkh.decimal (pY0 ps)))).set (h - 1) (dB (Vanbkh.decimal (pY1 ps))) = labs h ps := by
  unfold labs
  apply List.ext_getElem
  · simp
  · intro i h1 h2
    rw [List.getElem_map, List.getElem_range]
    unfold pLabel
    rw [List.getElem_set]
    split
    · rename_i q
      have : i + 1 = h := by omega
      rw [if_pos (by simpa using this)]
    · rename_i q
      have : i < h := by simpa using h1
      rw [if_neg (by simp; omega), List.getElem_set]
      split
      · rename_i q
        subst q
        rfl
      · rename_i q
        rw [if_neg (by simp; omega), List.getElem_replicate]
        rfl
theorem labs_get {h r : Nat} (ps : List (Int × Int)) (hr : r < h) : (labs h ps)[r]? = some (dB (pLabel h ps r)) := by
  unfold labs
  rw [List.getElem?_map, List.getElem?_range hr]
  rfl
inductive r_grid_lines : List D → List D → Prop
  | mk {ps : List (Int × Int)} {h g : Nat} (hv : VP h ps) (hne : ps ≠ []) (hg : 1 ≤ g) (hg2 : g ≤ 120) : r_grid_lines [dIt (.plot h ps), .int (pLab ps : Nat), .int g] (((List.range h).reverse.map (pLine h g (pLab ps) ps)).map dB)
abbrev N_grid_lines : List Str := ["plot", "label_width", "grid_width", "ys", "counts", "labels", "lines", "row", "point"]
theorem sc_grid_lines : FnScope N_grid_lines ["plot", "label_width", "grid_width"] (defScope (top 140)) := ⟨rfl, rfl, rfl, by decide +kernel, rfl, by decide +kernel, by decide +kernel⟩
theorem ok_grid_lines {Pr : Program} {w : World} {K : PySem.W.Frag} {mg : Str → Option Value} {base : Heap} (T : Tx K mg) : Ok Pr w K mg base 3 "grid_lines" ["plot", "label_width", "grid_width"] (spN K r_grid_lines) := by
  obtain ⟨fd, F⟩ := T.d_grid_lines
  refine ⟨⟨fd, fn_new (N := N_grid_lines) F sc_grid_lines (fun ds d h => by cases h; rfl) ?_, F.bindsN fun _ _ _ _ _ _ us hl => match us, hl with | [_, _, _], _ => rfl⟩, F.kp, T.g_grid_lines⟩
  intro cdv A outer s H E hr
  refine ⟨_, (pss_cons (ps_setLc (i := 3) (own := [("point", 8)]) (g := gName 8) (tt := tYes) rfl sc_grid_lines.nd rfl rfl (sw_true rfl rfl rfl (by decide +kernel)) (pi_list (pe_fldK (K := K) (pv 0) rfl rfl)) (blkOk_by (own := [("point", 8)]) (N := N_grid_lines) (sc := (defScope (top 140))) (by decide +kernel)) (fun _ _ _ _ _ => pg_name (i := 8) sc_grid_lines.nd rfl (Or.inl rfl)) (fun _ _ _ _ _ => pts_nil) (fun _ _ _ _ _ => (pe_ix (r := rIxT K) ix_tup (pv 8) pe_int (fun _ _ => rfl))))
 (pss_cons (ps_set (i := 4) sc_grid_lines.nd rfl (Or.inl rfl) (pe_callO (ok_count_points T) (hr.mono (by decide)) rfl (pa_cons (pe_fldK (K := K) (pv 0) rfl rfl) (pa_cons (pe_fldK (K := K) (pv 0) rfl rfl) (pa_cons (pv 2) pa_nil)))))
 (pss_cons (ps_setLc (i := 5) (own := [("row", 7)]) (g := gName 7) (tt := tYes) rfl sc_grid_lines.nd rfl rfl (sw_true rfl rfl rfl (by decide +kernel)) (pi_range1 (by rfl) T.f_range (pa_cons (pe_fldK (K := K) (pv 0) rfl rfl) pa_nil)) (blkOk_by (own := [("row", 7)]) (N := N_grid_lines) (sc := (defScope (top 140))) (by decide +kernel)) (fun _ _ _ _ _ => pg_name (i := 7) sc_grid_lines.nd rfl (Or.inl rfl)) (fun _ _ _ _ _ => pts_nil) (fun _ _ _ _ _ => (pe_lst pa_nil)))
 (pss_cons (ps_asg (pe_callO (ok_decimal_notation T) (hr.mono (by decide)) rfl (pa_cons (pe_callB (r := rMin K) (cr_min rfl) (by rfl) T.f_min (by decide +kernel) (pa_cons (pv 3) pa_nil)) pa_nil)) (pg_sub (pv 5) pe_int set_list))
 (pss_cons (ps_asg (pe_callO (ok_decimal_notation T) (hr.mono (by decide)) rfl (pa_cons (pe_callB (r := rMax K) (cr_max rfl) (by rfl) T.f_max (by decide +kernel) (pa_cons (pv 3) pa_nil)) pa_nil)) (pg_sub (pv 5) (pe_un un_neg pe_int) set_list))
 (pss_cons (ps_set (i := 6) sc_grid_lines.nd rfl (Or.inl rfl) (pe_lst pa_nil))
 (pss_cons (ps_for PassesOwn.never rfl (pi_range3 (by rfl) T.f_range (pa_cons (pe_op op_sub (pe_fldK (K := K) (pv 0) rfl rfl) pe_int) (pa_cons (pe_un un_neg pe_int) (pa_cons (pe_un un_neg pe_int) pa_nil)))) (pg_name (i := 7) sc_grid_lines.nd rfl (Or.inl rfl))
 (pss_one (ps_expr (pe_bm PySem.F.plainAttrs_list PySem.F.slot_list_append PySem.F.type_list_append mt_append (pv 6) (pa_cons (pe_callO (ok_grid_line T) (hr.mono (by decide)) rfl (pa_cons (pe_callO (ok_fill_before T) (hr.mono (by decide)) rfl (pa_cons (pe_ix (r := rIxL K) ix_list (pv 5) (pv 7) (fun _ _ => rfl)) (pa_cons (pv 1) pa_nil))) (pa_cons (pe_ix (r := rIxL K) ix_list (pv 4) (pv 7) (fun _ _ => rfl)) pa_nil))) pa_nil)))))
 (pss_one (ps_ret (pv 6)))))))))), ?_⟩
  intro B ds d hR
  obtain ⟨⟩ := hR
  rename_i ps h g hv hne hg hg2
  have hl := hv.2.2.1
  have h3 := hv.1
  have h40 := hv.2.1
  obtain ⟨y1, y2, y3, y4⟩ := ys_bd hv hne
  obtain ⟨lb, _, _⟩ := pLab_bd hv hne
  have n2 : (ps.map fun p => p.2) ≠ [] := by simpa using hne
  have ly := least_spec n2
  have gy := greatest_spec n2
  refine sdn_seq (sd_asgN (en_is (es := dI (ps.map fun p => p.2)) (en_lcL (f := dPt) (l := ps) (g := fun p => D.int p.2) (dw_listL (ed_fld (ed_var rfl) T.k_Plot T.n_Plot_points rfl)) rfl rfl (fun x hx => (ed_ixT (ds := [.int x.1, .int x.2]) (ed_var rfl) ed_int rfl)) (by omega)) (by unfold dI; rw [List.map_map]; rfl)) (hlt rfl) ?_)
  refine sdn_frz 3 rfl ?_
  refine sdn_seq (sd_asg (ed_call (ea_cons (ed_fld (d := .lst (ps.map dPt)) (ed_var rfl) T.k_Plot T.n_Plot_points rfl) (ea_cons (ed_fld (d := .int h) (ed_var rfl) T.k_Plot T.n_Plot_height rfl) (ea_cons (ed_var rfl) ea_nil))) (.mk hv hne hg hg2)) (hlt rfl) ?_)
  refine sdn_seq (sd_asgN (en_is (es := List.replicate h (D.lst [])) (en_lc (g := fun _ => D.lst []) (dw_rng1 (j := (h : Int)) (ed_fld (ed_var rfl) T.k_Plot T.n_Plot_height rfl) (by omega) (by omega)) rfl rfl (fun i hi => (en_lst ea_nil (hle rfl)).ed) (by omega)) ?_) (hlt rfl) ?_)
  · rw [List.map_const', List.length_range, Int.toNat_natCast]
  refine sdn_seq (sd_setitem (j := 0) rfl (ed_call (ea_cons (ed_min (m := pY0 ps) (ed_var rfl) ly.1 ly.2) ea_nil) (.mk (z40 y3))) ed_int ?_ ?_)
  · rw [List.length_replicate]
    unfold ixN
    rw [if_pos (by decide), if_pos (by omega)]
    rfl
  refine sdn_seq (sd_setitem (j := h - 1) rfl (ed_call (ea_cons (ed_max (m := pY1 ps) (ed_var rfl) gy.1 gy.2) ea_nil) (.mk (z40 y4))) (ed_neg ed_int) ?_ ?_)
  · rw [List.length_set, List.length_replicate]
    exact ixN_neg1 (by omega)
  rw [labs_set h3]
  refine sdn_seq (sd_asgN (en_lst ea_nil (hle rfl)) (hlt rfl) ?_)
  refine sdn_seq (sd_for (dw_rng3 (ed_sub (ed_fld (d := .int h) (ed_var rfl) T.k_Plot T.n_Plot_height rfl) ed_int) (ed_neg ed_int) (ed_neg ed_int) (down_rg (by omega) h40)) (fun i δ => ∃ s1 s2, δ = [.sh (dIt (.plot h ps)), .sh (.int (pLab ps : Nat)), .sh (.int g), .sh (.lst (dI (ps.map fun p => p.2))), .sh (.lst ((gridD (pPos h g ps) h g).map D.lst)), .own (labs h ps), .own (((List.range h).reverse.take i).map (pLine h g (pLab ps) ps) |>.map dB), s1, s2]) ?_ ?_ ?_)
  · exact ⟨_, _, rfl⟩
  · rintro i δ hi ⟨s1, s2, rfl⟩
    have er : ((h : Int) - 1 + (i : Int) * (-1)) = ((h - 1 - i : Nat) : Int) := by omega
    have hr : h - 1 - i < h := by omega
    have pl := pLabel_len h ps (h - 1 - i)
    have q6 := padL_len pl
    refine gd_name (hlt rfl) ?_
    refine (sd_appendM (f := dB) (l := ((List.range h).reverse.take i).map (pLine h g (pLab ps) ps)) (x := pLine h g (pLab ps) ps (h - 1 - i)) rfl (ed_call (ea_cons (ed_is (ed_call (ea_cons (ed_ixO (d := dB (pLabel h ps (h - 1 - i))) rfl (ed_var rfl) ?_) (ea_cons (ed_var rfl) ea_nil)) (.mk (l := bI (pLabel h ps (h - 1 - i))) (n := (pLab ps : Nat)) (by rw [bI_length]; omega) (by omega) (by omega))) (e := dB (Vanbkh.padLeft (pLab ps) (pLabel h ps (h - 1 - i)))) (by rw [mPadL_bI]; rfl)) (ea_cons (ed_ix (d := dN (rowC (pPos h g ps) g (h - 1 - i))) (ed_var rfl) (ed_var rfl) ?_) ea_nil)) (.mk (by omega) (by simp [rowC]; omega))) ?_ ?_)
    · rw [er]
      exact atI_nat (labs_get ps hr)
    · rw [er]
      refine atI_nat ?_
      rw [List.getElem?_map, gridD_get hr]
      rfl
    · rw [List.length_map, List.length_take, List.length_reverse, List.length_range]
      omega
    · refine ⟨.sh (.int ((h : Int) - 1 + (i : Int) * (-1))), s2, ?_⟩
      have et : (List.range h).reverse.take (i + 1) = (List.range h).reverse.take i ++ [h - 1 - i] := by
        rw [take_snoc (by simpa using hi), List.getElem_reverse, List.getElem_range, List.length_range]
      have et2 : ((List.range h).reverse.take (i + 1)).map (pLine h g (pLab ps) ps) = ((List.range h).reverse.take i).map (pLine h g (pLab ps) ps) ++ [pLine h g (pLab ps) ps (h - 1 - i)] := by
        rw [et, List.map_append]
        rfl
      rw [et2]
      rfl
  rintro δ ⟨s1, s2, rfl⟩
  have e : (List.range h).reverse.take h = (List.range h).reverse := List.take_of_length_le (by simp)
  rw [e]
  exact sdn_ret rfl
inductive r_scale_lines : List D → D → Prop
  | mk {ps : List (Int × Int)} {h w : Nat} (hv : VP h ps) (hne : ps ≠ []) (hw : pLab ps + 9 ≤ w) (hw2 : w ≤ 120) : r_scale_lines [dIt (.plot h ps), .int (pLab ps : Nat), .int w] (dBs (pScale w (pLab ps) ps))
abbrev N_scale_lines : List Str := ["plot", "label_width", "width", "xs", "margin", "least", "greatest", "begun", "point"]
theorem sc_scale_lines : FnScope N_scale_lines ["plot", "label_width", "width"] (defScope (top 141)) := ⟨rfl, rfl, rfl, by decide +kernel, rfl, by decide +kernel, by decide +kernel⟩
theorem ok_scale_lines {Pr : Program} {w : World} {K : PySem.W.Frag} {mg : Str → Option Value} {base : Heap} (T : Tx K mg) : Ok Pr w K mg base 3 "scale_lines" ["plot", "label_width", "width"] (spR K r_scale_lines) := by
  obtain ⟨fd, F⟩ := T.d_scale_lines
  refine ⟨⟨fd, fn_pure (N := N_scale_lines) F sc_scale_lines (fun ds d h => by cases h; rfl) ?_, F.bindsN fun _ _ _ _ _ _ us hl => match us, hl with | [_, _, _], _ => rfl⟩, F.kp, T.g_scale_lines⟩
  intro cdv A outer s H E hr
  refine ⟨_, (pss_cons (ps_setLc (i := 3) (own := [("point", 8)]) (g := gName 8) (tt := tYes) rfl sc_scale_lines.nd rfl rfl (sw_true rfl rfl rfl (by decide +kernel)) (pi_list (pe_fldK (K := K) (pv 0) rfl rfl)) (blkOk_by (own := [("point", 8)]) (N := N_scale_lines) (sc := (defScope (top 141))) (by decide +kernel)) (fun _ _ _ _ _ => pg_name (i := 8) sc_scale_lines.nd rfl (Or.inl rfl)) (fun _ _ _ _ _ => pts_nil) (fun _ _ _ _ _ => (pe_ix (r := rIxT K) ix_tup (pv 8) pe_int (fun _ _ => rfl))))
 (pss_cons (ps_set (i := 4) sc_scale_lines.nd rfl (Or.inl rfl) (pe_op op_rep (pe_lst (pa_cons (pe_gint rfl T.i_SPACE) pa_nil)) (pe_op op_add (pv 1) pe_int)))
 (pss_cons (ps_set (i := 5) sc_scale_lines.nd rfl (Or.inl rfl) (pe_callO (ok_decimal_notation T) (hr.mono (by decide)) rfl (pa_cons (pe_callB (r := rMin K) (cr_min rfl) (by rfl) T.f_min (by decide +kernel) (pa_cons (pv 3) pa_nil)) pa_nil)))
 (pss_cons (ps_set (i := 6) sc_scale_lines.nd rfl (Or.inl rfl) (pe_callO (ok_decimal_notation T) (hr.mono (by decide)) rfl (pa_cons (pe_callB (r := rMax K) (cr_max rfl) (by rfl) T.f_max (by decide +kernel) (pa_cons (pv 3) pa_nil)) pa_nil)))
 (pss_cons (ps_if (pt_cmpR op_lt (pe_op op_add (pe_callB (r := rLenQ K) call_len_seq (by rfl) T.f_len (by decide +kernel) (pa_cons (pv 5) pa_nil)) (pe_callB (r := rLenQ K) call_len_seq (by rfl) T.f_len (by decide +kernel) (pa_cons (pv 6) pa_nil))) (pe_op op_sub (pv 2) (pe_callB (r := rLenQ K) call_len_seq (by rfl) T.f_len (by decide +kernel) (pa_cons (pv 4) pa_nil))) (nomark _))
 (pss_cons (ps_set (i := 7) sc_scale_lines.nd rfl (Or.inl rfl) (pe_op op_cat (pv 4) (pv 5)))
 (pss_one (ps_ret (pe_lst (pa_cons (pe_op op_cat (pv 7) (pe_callO (ok_fill_before T) (hr.mono (by decide)) rfl (pa_cons (pv 6) (pa_cons (pe_op op_sub (pv 2) (pe_callB (r := rLenQ K) call_len_seq (by rfl) T.f_len (by decide +kernel) (pa_cons (pv 7) pa_nil))) pa_nil)))) pa_nil)))))
 pss_nil)
 (pss_one (ps_ret (pe_lst (pa_cons (pe_callO (ok_truncate T) (hr.mono (by decide)) rfl (pa_cons (pe_op op_cat (pv 4) (pv 5)) (pa_cons (pv 2) pa_nil))) (pa_cons (pe_callO (ok_truncate T) (hr.mono (by decide)) rfl (pa_cons (pe_op op_cat (pv 4) (pv 6)) (pa_cons (pv 2) pa_nil))) pa_nil)))))))))), ?_⟩
  intro B ds d hR
  obtain ⟨⟩ := hR
  rename_i ps h w hv hne hw hw2
  have hl := hv.2.2.1
  obtain ⟨y1, y2, y3, y4⟩ := ys_bd hv hne
  obtain ⟨lb, _, _⟩ := pLab_bd hv hne
  have n1 : (ps.map fun p => p.1) ≠ [] := by simpa using hne
  have lx := least_spec n1
  have gx := greatest_spec n1
  have d0 := dec18 y1
  have d1 := dec18 y2
  refine sd_seq (sd_asgN (en_is (es := dI (ps.map fun p => p.1)) (en_lcL (f := dPt) (l := ps) (g := fun p => D.int p.1) (dw_listL (ed_fld (ed_var rfl) T.k_Plot T.n_Plot_points rfl)) rfl rfl (fun x hx => (ed_ixT (ds := [.int x.1, .int x.2]) (ed_var rfl) ed_int rfl)) (by omega)) (by unfold dI; rw [List.map_map]; rfl)) (hlt rfl) ?_)
  refine sd_frz 3 rfl ?_
  refine sd_seq (sd_asgN (en_is (es := dI (bI (Vanbkh.spaces (pLab ps + 1)))) (en_repI (i := 32) (en_lst1I ed_int).ed (ed_add (ed_var rfl) ed_int) (by omega) (by omega)) (by unfold Vanbkh.spaces; rw [bI_rep]; rfl)) (hlt rfl) ?_)
  refine sd_frz 4 rfl ?_
  refine sd_seq (sd_asg (ed_call (ea_cons (ed_min (m := pX0 ps) (ed_var rfl) lx.1 lx.2) ea_nil) (.mk (z40 y1))) (hlt rfl) ?_)
  refine sd_seq (sd_asg (ed_call (ea_cons (ed_max (m := pX1 ps) (ed_var rfl) gx.1 gx.2) ea_nil) (.mk (z40 y2))) (hlt rfl) ?_)
  have sl : (Vanbkh.spaces (pLab ps + 1)).length = pLab ps + 1 := by simp [Vanbkh.spaces]
  unfold pScale
  generalize Vanbkh.decimal (pX0 ps) = A0 at *
  generalize Vanbkh.decimal (pX1 ps) = A1 at *
  generalize hS : Vanbkh.spaces (pLab ps + 1) = S0 at *
  refine sd_seq (sd_if (b := decide (A0.length + A1.length < w - pLab ps - 1)) (et_is (et_test (ed_lt (ed_add (ed_lenN (l := bI A0) (ed_var rfl)) (ed_lenN (l := bI A1) (ed_var rfl))) (ed_sub (ed_var rfl) (ed_lenN (l := bI S0) (ed_var rfl))))) ?_) (fun h => ?_) (fun h => ?_))
  · rw [bI_length, bI_length, bI_length]
    exact decide_eq_decide.mpr (by omega)
  · have hc := of_decide_eq_true h
    rw [if_pos hc]
    refine sd_seq (sd_asgN (en_is (es := dI (bI (S0 ++ A0))) (en_catI (l := bI S0) (m := bI A0) (ed_var rfl) (ed_var rfl) (by rw [bI_length, bI_length]; omega)) (by rw [bI_append])) (hlt rfl) ?_)
    refine sd_frz 7 rfl ?_
    refine (sd_ret (en_lst (ea_cons (ed_is (en_catI (l := bI (S0 ++ A0)) (m := bI (Vanbkh.padLeft (w - (S0 ++ A0).length) A1)) (ed_var rfl) (ed_is (ed_call (ea_cons (ed_var rfl) (ea_cons (ed_is (ed_sub (ed_var rfl) (ed_lenN (l := bI (S0 ++ A0)) (ed_var rfl))) (e := .int ((w - (S0 ++ A0).length : Nat) : Int)) (by rw [bI_length]; congr 1; simp; omega)) ea_nil)) (.mk (l := bI A1) (n := ((w - (S0 ++ A0).length : Nat) : Int)) (by rw [bI_length]; omega) (by omega) (by omega))) (by rw [mPadL_bI])) ?_).ed (e := dB (S0 ++ A0 ++ Vanbkh.spaces (w - pLab ps - 1 - A0.length - A1.length) ++ A1)) ?_) ea_nil) (hle rfl)).ed ?_)
    · rw [bI_length, bI_length]
      unfold Vanbkh.padLeft Vanbkh.spaces
      simp
      omega
    · unfold dB Vanbkh.padLeft
      rw [← bI_append]
      have : w - (S0 ++ A0).length - A1.length = w - pLab ps - 1 - A0.length - A1.length := by simp; omega
      rw [this, List.append_assoc (S0 ++ A0)]
    · rfl
  refine sd_next ?_
  have hc := of_decide_eq_false h
  rw [if_neg hc]
  refine (sd_ret (en_lst (ea_cons (ed_is (ed_call (ea_cons (en_is (es := dI (bI (S0 ++ A0))) (en_catI (l := bI S0) (m := bI A0) (ed_var rfl) (ed_var rfl) (by rw [bI_length, bI_length]; omega)) (by rw [bI_append])).ed (ea_cons (ed_var rfl) ea_nil)) (.mk (l := bI (S0 ++ A0)) (n := w) (by rw [bI_length, List.length_append]; omega) (by omega))) (e := dB (Vanbkh.truncate w (S0 ++ A0))) (by rw [mTrunc_bI _ _ (by omega)]; rfl)) (ea_cons (ed_is (ed_call (ea_cons (en_is (es := dI (bI (S0 ++ A1))) (en_catI (l := bI S0) (m := bI A1) (ed_var rfl) (ed_var rfl) (by rw [bI_length, bI_length]; omega)) (by rw [bI_append])).ed (ea_cons (ed_var rfl) ea_nil)) (.mk (l := bI (S0 ++ A1)) (n := w) (by rw [bI_length, List.length_append]; omega) (by omega))) (e := dB (Vanbkh.truncate w (S0 ++ A1))) (by rw [mTrunc_bI _ _ (by omega)]; rfl)) ea_nil)) (hle rfl)).ed ?_)
  rfl
inductive r_plot_lines : List D → D → Prop
  | mk {ps : List (Int × Int)} {h w : Nat} (hv : VP h ps) (hw : 20 ≤ w) (hw2 : w ≤ 120) : r_plot_lines [dIt (.plot h ps), .int w] (dBs (Vanbkh.plotLines w h ps))
abbrev N_plot_lines : List Str := ["plot", "width", "ys", "label_width", "grid_width", "lines", "point"]
theorem sc_plot_lines : FnScope N_plot_lines ["plot", "width"] (defScope (top 142)) := ⟨rfl, rfl, rfl, by decide +kernel, rfl, by decide +kernel, by decide +kernel⟩
theorem ok_plot_lines {Pr : Program} {w : World} {K : PySem.W.Frag} {mg : Str → Option Value} {base : Heap} (T : Tx K mg) : Ok Pr w K mg base 4 "plot_lines" ["plot", "width"] (spR K r_plot_lines) := by
  obtain ⟨fd, F⟩ := T.d_plot_lines
  refine ⟨⟨fd, fn_pure (N := N_plot_lines) F sc_plot_lines (fun ds d h => by cases h; rfl) ?_, F.bindsN fun _ _ _ _ _ _ us hl => match us, hl with | [_, _], _ => rfl⟩, F.kp, T.g_plot_lines⟩
  intro cdv A outer s H E hr
  refine ⟨_, (pss_cons (ps_if (pt_cmpR op_eq (pe_callB (r := rLenQ K) call_len_seq (by rfl) T.f_len (by decide +kernel) (pa_cons (pe_fldK (K := K) (pv 0) rfl rfl) pa_nil)) pe_int (nomark _))
 (pss_one (ps_ret (pe_lst (pa_cons (pe_callO (ok_bytes_of T) (hr.mono (by decide)) rfl (pa_cons pe_str pa_nil)) pa_nil))))
 pss_nil)
 (pss_cons (ps_setLc (i := 2) (own := [("point", 6)]) (g := gName 6) (tt := tYes) rfl sc_plot_lines.nd rfl rfl (sw_true rfl rfl rfl (by decide +kernel)) (pi_list (pe_fldK (K := K) (pv 0) rfl rfl)) (blkOk_by (own := [("point", 6)]) (N := N_plot_lines) (sc := (defScope (top 142))) (by decide +kernel)) (fun _ _ _ _ _ => pg_name (i := 6) sc_plot_lines.nd rfl (Or.inl rfl)) (fun _ _ _ _ _ => pts_nil) (fun _ _ _ _ _ => (pe_ix (r := rIxT K) ix_tup (pv 6) pe_int (fun _ _ => rfl))))
 (pss_cons (ps_set (i := 3) sc_plot_lines.nd rfl (Or.inl rfl) (pe_callB (r := rMax2Q) (call_max2 rfl) (by rfl) T.f_max (by decide +kernel) (pa_cons (pe_callB (r := rLenQ K) call_len_seq (by rfl) T.f_len (by decide +kernel) (pa_cons (pe_callO (ok_decimal_notation T) (hr.mono (by decide)) rfl (pa_cons (pe_callB (r := rMin K) (cr_min rfl) (by rfl) T.f_min (by decide +kernel) (pa_cons (pv 2) pa_nil)) pa_nil)) pa_nil)) (pa_cons (pe_callB (r := rLenQ K) call_len_seq (by rfl) T.f_len (by decide +kernel) (pa_cons (pe_callO (ok_decimal_notation T) (hr.mono (by decide)) rfl (pa_cons (pe_callB (r := rMax K) (cr_max rfl) (by rfl) T.f_max (by decide +kernel) (pa_cons (pv 2) pa_nil)) pa_nil)) pa_nil)) pa_nil))))
 (pss_cons (ps_set (i := 4) sc_plot_lines.nd rfl (Or.inl rfl) (pe_op op_sub (pe_op op_sub (pv 1) (pv 3)) pe_int))
 (pss_cons (ps_if (pt_cmpR op_lt (pv 4) (pe_gint rfl T.i_LEAST_GRID_WIDTH) (nomark _))
 (pss_one (ps_ret (pe_lst (pa_cons (pe_callO (ok_bytes_of T) (hr.mono (by decide)) rfl (pa_cons pe_str pa_nil)) pa_nil))))
 pss_nil)
 (pss_cons (ps_set (i := 5) sc_plot_lines.nd rfl (Or.inl rfl) (pe_callO (ok_grid_lines T) (hr.mono (by decide)) rfl (pa_cons (pv 0) (pa_cons (pv 3) (pa_cons (pv 4) pa_nil)))))
 (pss_cons (ps_expr (pe_bm PySem.F.plainAttrs_list PySem.F.slot_list_append PySem.F.type_list_append mt_append (pv 5) (pa_cons (pe_op op_cat (pe_op op_cat (pe_op op_rep (pe_lst (pa_cons (pe_gint rfl T.i_SPACE) pa_nil)) (pv 3)) (pe_lst (pa_cons (pe_gint rfl T.i_PLUS) pa_nil))) (pe_op op_rep (pe_lst (pa_cons (pe_gint rfl T.i_MINUS) pa_nil)) (pv 4))) pa_nil)))
 (pss_cons (ps_expr (pe_bm PySem.F.plainAttrs_list PySem.F.slot_list_extend PySem.F.type_list_extend mt_extend (pv 5) (pa_cons (pe_callO (ok_scale_lines T) (hr.mono (by decide)) rfl (pa_cons (pv 0) (pa_cons (pv 3) (pa_cons (pv 1) pa_nil)))) pa_nil)))
 (pss_one (ps_ret (pv 5))))))))))), ?_⟩
  intro B ds d hR
  obtain ⟨⟩ := hR
  rename_i ps hh w hv hw hw2
  have hl := hv.2.2.1
  have h3 := hv.1
  have h40 := hv.2.1
  refine sd_seq (sd_if (et_test (ed_eq (ed_lenM (l := ps) (f := dPt) (ed_fld (ed_var rfl) T.k_Plot T.n_Plot_points rfl)) ed_int)) (fun h => ?_) (fun h => ?_))
  · have : (ps.length : Int) = 0 := by simpa using h
    have : ps = [] := List.length_eq_zero_iff.mp (by omega)
    subst this
    exact (sd_ret (en_lst (ea_cons (ed_call (ea_cons ed_str ea_nil) (.mk (by decide))) ea_nil) (hle rfl)).ed rfl)
  refine sd_next ?_
  have hne : ps ≠ [] := by
    intro z
    subst z
    exact absurd h (by decide)
  obtain ⟨y1, y2, y3, y4⟩ := ys_bd hv hne
  obtain ⟨lb, _, _⟩ := pLab_bd hv hne
  have n2 : (ps.map fun p => p.2) ≠ [] := by simpa using hne
  have ly := least_spec n2
  have gy := greatest_spec n2
  refine sd_seq (sd_asgN (en_is (es := dI (ps.map fun p => p.2)) (en_lcL (f := dPt) (l := ps) (g := fun p => D.int p.2) (dw_listL (ed_fld (ed_var rfl) T.k_Plot T.n_Plot_points rfl)) rfl rfl (fun x hx => (ed_ixT (ds := [.int x.1, .int x.2]) (ed_var rfl) ed_int rfl)) (by omega)) (by unfold dI; rw [List.map_map]; rfl)) (hlt rfl) ?_)
  refine sd_frz 2 rfl ?_
  refine sd_seq (sd_asg (ed_is (ed_max2 (ed_lenN (l := bI (Vanbkh.decimal (pY0 ps))) (ed_call (ea_cons (ed_min (m := pY0 ps) (ed_var rfl) ly.1 ly.2) ea_nil) (.mk (z40 y3)))) (ed_lenN (l := bI (Vanbkh.decimal (pY1 ps))) (ed_call (ea_cons (ed_max (m := pY1 ps) (ed_var rfl) gy.1 gy.2) ea_nil) (.mk (z40 y4))))) (e := .int (pLab ps : Nat)) (by rw [bI_length, bI_length]; unfold pLab; congr 1; omega)) (hlt rfl) ?_)
  refine sd_seq (sd_asg (ed_sub (ed_sub (ed_var rfl) (ed_var rfl)) ed_int) (hlt rfl) ?_)
  refine sd_seq (sd_if (et_test (ed_lt (ed_var rfl) ed_int)) (fun h => ?_) (fun h => ?_))
  · have : (w : Int) - (pLab ps : Nat) - 1 < 8 := by simpa using h
    refine (sd_ret (en_lst (ea_cons (ed_call (ea_cons ed_str ea_nil) (.mk (by decide))) ea_nil) (hle rfl)).ed ?_)
    have h1 : ¬ ps.isEmpty = true := by simpa using hne
    have e : Vanbkh.plotLines w hh ps = [Vanbkh.ascii "(too narrow)"] := by
      show (if ps.isEmpty = true then _ else if w < pLab ps + 9 then [Vanbkh.ascii "(too narrow)"] else _) = _
      rw [if_neg h1, if_pos (by omega)]
    rw [e]
    rfl
  refine sd_next ?_
  have hw9 : ¬ (w : Int) - (pLab ps : Nat) - 1 < 8 := by simpa using h
  have eg : (w : Int) - (pLab ps : Nat) - 1 = ((w - pLab ps - 1 : Nat) : Int) := by omega
  rw [eg]
  refine sd_seq (sd_asgN (en_callN (ea_cons (ed_var rfl) (ea_cons (ed_var rfl) (ea_cons (ed_var rfl) ea_nil))) (.mk hv hne (by omega) (by omega))) (hlt rfl) ?_)
  have hLl : ((List.range hh).reverse.map (pLine hh (w - pLab ps - 1) (pLab ps) ps)).length = hh := by simp
  have hpe := plot_eq w hh ps hne (by omega)
  rw [hpe]
  generalize (List.range hh).reverse.map (pLine hh (w - pLab ps - 1) (pLab ps) ps) = LL at *
  refine sd_seq (sd_appendM (f := dB) (l := LL) (x := Vanbkh.spaces (pLab ps) ++ [43] ++ List.replicate (w - pLab ps - 1) 45) rfl (ed_is (en_catI (l := bI (Vanbkh.spaces (pLab ps)) ++ [43]) (m := bI (List.replicate (w - pLab ps - 1) 45)) (en_catI (l := bI (Vanbkh.spaces (pLab ps))) (m := [43]) (ed_is (en_repI (i := 32) (en_lst1I ed_int).ed (ed_var rfl) (by omega) (by omega)).ed (by unfold Vanbkh.spaces; rw [bI_rep, Int.toNat_natCast]; rfl)) (en_lst1I ed_int).ed ?_).ed (ed_is (en_repI (i := 45) (en_lst1I ed_int).ed (ed_var rfl) (by omega) (by omega)).ed (by rw [bI_rep, Int.toNat_natCast]; rfl)) ?_).ed ?_) (by omega) ?_)
  · rw [bI_length]
    unfold Vanbkh.spaces
    rw [List.length_replicate]
    show _ + 1 ≤ _
    omega
  · rw [List.length_append, bI_length, bI_length]
    unfold Vanbkh.spaces
    rw [List.length_replicate, List.length_replicate]
    show _ + 1 + _ ≤ _
    omega
  · unfold dB
    rw [bI_append, bI_append]
    rfl
  have psl : (pScale w (pLab ps) ps).length ≤ 2 := by
    unfold pScale
    split <;> simp
  refine sd_seq (sd_extendM (f := dB) (l := LL ++ [Vanbkh.spaces (pLab ps) ++ [43] ++ List.replicate (w - pLab ps - 1) 45]) (m := pScale w (pLab ps) ps) rfl (ed_call (ea_cons (ed_var rfl) (ea_cons (ed_var rfl) (ea_cons (ed_var rfl) ea_nil))) (.mk hv hne (by omega) hw2)) (by rw [List.length_append]; simp only [List.length_cons, List.length_nil]; omega) ?_)
  refine sd_frz 5 rfl (sd_ret (ed_var rfl) ?_)
  rfl
end Rl
namespace Rl
open PySem PySem.Spec PyProof.Rows L2 Dg

inductive r_lay_out_item : List D → D → Prop
  | mk {x : Vanbkh.Item} {w : Nat} (hv : VI x) (hw : 20 ≤ w) (hw2 : w ≤ 120) : r_lay_out_item [dIt x, .int w] (dBs (Vanbkh.itemLines w x))
abbrev N_lay_out_item : List Str := ["item", "width"]
theorem sc_lay_out_item : FnScope N_lay_out_item ["item", "width"] (defScope (top 151)) := ⟨rfl, rfl, rfl, by decide +kernel, rfl, by decide +kernel, by decide +kernel⟩
theorem ok_lay_out_item {Pr : Program} {w : World} {K : PySem.W.Frag} {mg : Str → Option Value} {base : Heap} (T : Tx K mg) : Ok Pr w K mg base 9 "lay_out_item" ["item", "width"] (spR K r_lay_out_item) := by
  obtain ⟨fd, F⟩ := T.d_lay_out_item
  refine ⟨⟨fd, fn_pure (N := N_lay_out_item) F sc_lay_out_item (fun ds d h => by cases h; rfl) ?_, F.bindsN fun _ _ _ _ _ _ us hl => match us, hl with | [_, _], _ => rfl⟩, F.kp, T.g_lay_out_item⟩
  intro cdv A outer s H E hr
  refine ⟨_, (pss_cons (ps_if (pt_val (pe_callB (r := rIsi K) call_isi (by rfl) T.f_isinstance (by decide +kernel) (pa_cons (pv 0) (pa_cons (pe_gref rfl T.g_Heading) pa_nil))))
 (pss_one (ps_ret (pe_callO (ok_heading_lines T) (hr.mono (by decide)) rfl (pa_cons (pv 0) (pa_cons (pv 1) pa_nil)))))
 pss_nil)
 (pss_cons (ps_if (pt_val (pe_callB (r := rIsi K) call_isi (by rfl) T.f_isinstance (by decide +kernel) (pa_cons (pv 0) (pa_cons (pe_gref rfl T.g_Paragraph) pa_nil))))
 (pss_one (ps_ret (pe_callO (ok_paragraph_lines T) (hr.mono (by decide)) rfl (pa_cons (pv 0) (pa_cons (pv 1) pa_nil)))))
 pss_nil)
 (pss_cons (ps_if (pt_val (pe_callB (r := rIsi K) call_isi (by rfl) T.f_isinstance (by decide +kernel) (pa_cons (pv 0) (pa_cons (pe_gref rfl T.g_Table) pa_nil))))
 (pss_one (ps_ret (pe_callO (ok_table_lines T) (hr.mono (by decide)) rfl (pa_cons (pv 0) (pa_cons (pv 1) pa_nil)))))
 pss_nil)
 (pss_cons (ps_if (pt_val (pe_callB (r := rIsi K) call_isi (by rfl) T.f_isinstance (by decide +kernel) (pa_cons (pv 0) (pa_cons (pe_gref rfl T.g_Plot) pa_nil))))
 (pss_one (ps_ret (pe_callO (ok_plot_lines T) (hr.mono (by decide)) rfl (pa_cons (pv 0) (pa_cons (pv 1) pa_nil)))))
 pss_nil)
 (pss_cons (ps_if (pt_val (pe_callB (r := rIsi K) call_isi (by rfl) T.f_isinstance (by decide +kernel) (pa_cons (pv 0) (pa_cons (pe_gref rfl T.g_BarChart) pa_nil))))
 (pss_one (ps_ret (pe_callO (ok_bar_chart_lines T) (hr.mono (by decide)) rfl (pa_cons (pv 0) (pa_cons (pv 1) pa_nil)))))
 pss_nil)
 (pss_one (ps_ret (pe_callO (ok_check_lines T) (hr.mono (by decide)) rfl (pa_cons (pv 0) (pa_cons (pv 1) pa_nil)))))))))), ?_⟩
  intro B ds d hR
  obtain ⟨⟩ := hR
  rename_i x w hv hw hw2
  cases x with
  | heading k t =>
    refine sd_seq (sd_if (b := true) (et_is (et_B (ed_isi (ed_var rfl) (T.ty "Heading" (by decide) T.k_Heading) (T.kit "Heading" "Heading" (by decide) (by decide)))) (by decide)) (fun _ => ?_) (fun z => absurd z (by decide)))
    exact (sd_ret (ed_call (ea_cons (ed_var rfl) (ea_cons (ed_var rfl) ea_nil)) (.mk hv.1 hv.2 hw)) rfl)
  | paragraph t =>
    refine sd_seq (sd_if (b := false) (et_is (et_B (ed_isi (ed_var rfl) (T.ty "Paragraph" (by decide) T.k_Paragraph) (T.kit "Paragraph" "Heading" (by decide) (by decide)))) (by decide)) (fun z => absurd z (by decide)) (fun _ => sd_next ?_))
    refine sd_seq (sd_if (b := true) (et_is (et_B (ed_isi (ed_var rfl) (T.ty "Paragraph" (by decide) T.k_Paragraph) (T.kit "Paragraph" "Paragraph" (by decide) (by decide)))) (by decide)) (fun _ => ?_) (fun z => absurd z (by decide)))
    exact (sd_ret (ed_call (ea_cons (ed_var rfl) (ea_cons (ed_var rfl) ea_nil)) (.mk hv hw hw2)) rfl)
  | table t =>
    refine sd_seq (sd_if (b := false) (et_is (et_B (ed_isi (ed_var rfl) (T.ty "Table" (by decide) T.k_Table) (T.kit "Table" "Heading" (by decide) (by decide)))) (by decide)) (fun z => absurd z (by decide)) (fun _ => sd_next ?_))
    refine sd_seq (sd_if (b := false) (et_is (et_B (ed_isi (ed_var rfl) (T.ty "Table" (by decide) T.k_Table) (T.kit "Table" "Paragraph" (by decide) (by decide)))) (by decide)) (fun z => absurd z (by decide)) (fun _ => sd_next ?_))
    refine sd_seq (sd_if (b := true) (et_is (et_B (ed_isi (ed_var rfl) (T.ty "Table" (by decide) T.k_Table) (T.kit "Table" "Table" (by decide) (by decide)))) (by decide)) (fun _ => ?_) (fun z => absurd z (by decide)))
    exact (sd_ret (ed_call (ea_cons (ed_is (ed_var rfl) (e := dT t) rfl) (ea_cons (ed_var rfl) ea_nil)) (.mk hv hw hw2)) rfl)
  | plot h ps =>
    refine sd_seq (sd_if (b := false) (et_is (et_B (ed_isi (ed_var rfl) (T.ty "Plot" (by decide) T.k_Plot) (T.kit "Plot" "Heading" (by decide) (by decide)))) (by decide)) (fun z => absurd z (by decide)) (fun _ => sd_next ?_))
    refine sd_seq (sd_if (b := false) (et_is (et_B (ed_isi (ed_var rfl) (T.ty "Plot" (by decide) T.k_Plot) (T.kit "Plot" "Paragraph" (by decide) (by decide)))) (by decide)) (fun z => absurd z (by decide)) (fun _ => sd_next ?_))
    refine sd_seq (sd_if (b := false) (et_is (et_B (ed_isi (ed_var rfl) (T.ty "Plot" (by decide) T.k_Plot) (T.kit "Plot" "Table" (by decide) (by decide)))) (by decide)) (fun z => absurd z (by decide)) (fun _ => sd_next ?_))
    refine sd_seq (sd_if (b := true) (et_is (et_B (ed_isi (ed_var rfl) (T.ty "Plot" (by decide) T.k_Plot) (T.kit "Plot" "Plot" (by decide) (by decide)))) (by decide)) (fun _ => ?_) (fun z => absurd z (by decide)))
    exact (sd_ret (ed_call (ea_cons (ed_var rfl) (ea_cons (ed_var rfl) ea_nil)) (.mk hv hw hw2)) rfl)
  | bars l =>
    refine sd_seq (sd_if (b := false) (et_is (et_B (ed_isi (ed_var rfl) (T.ty "BarChart" (by decide) T.k_BarChart) (T.kit "BarChart" "Heading" (by decide) (by decide)))) (by decide)) (fun z => absurd z (by decide)) (fun _ => sd_next ?_))
    refine sd_seq (sd_if (b := false) (et_is (et_B (ed_isi (ed_var rfl) (T.ty "BarChart" (by decide) T.k_BarChart) (T.kit "BarChart" "Paragraph" (by decide) (by decide)))) (by decide)) (fun z => absurd z (by decide)) (fun _ => sd_next ?_))
    refine sd_seq (sd_if (b := false) (et_is (et_B (ed_isi (ed_var rfl) (T.ty "BarChart" (by decide) T.k_BarChart) (T.kit "BarChart" "Table" (by decide) (by decide)))) (by decide)) (fun z => absurd z (by decide)) (fun _ => sd_next ?_))
    refine sd_seq (sd_if (b := false) (et_is (et_B (ed_isi (ed_var rfl) (T.ty "BarChart" (by decide) T.k_BarChart) (T.kit "BarChart" "Plot" (by decide) (by decide)))) (by decide)) (fun z => absurd z (by decide)) (fun _ => sd_next ?_))
    refine sd_seq (sd_if (b := true) (et_is (et_B (ed_isi (ed_var rfl) (T.ty "BarChart" (by decide) T.k_BarChart) (T.kit "BarChart" "BarChart" (by decide) (by decide)))) (by decide)) (fun _ => ?_) (fun z => absurd z (by decide)))
    exact (sd_ret (ed_call (ea_cons (ed_var rfl) (ea_cons (ed_var rfl) ea_nil)) (.mk hv hw hw2)) rfl)
  | check p t =>
    refine sd_seq (sd_if (b := false) (et_is (et_B (ed_isi (ed_var rfl) (T.ty "Check" (by decide) T.k_Check) (T.kit "Check" "Heading" (by decide) (by decide)))) (by decide)) (fun z => absurd z (by decide)) (fun _ => sd_next ?_))
    refine sd_seq (sd_if (b := false) (et_is (et_B (ed_isi (ed_var rfl) (T.ty "Check" (by decide) T.k_Check) (T.kit "Check" "Paragraph" (by decide) (by decide)))) (by decide)) (fun z => absurd z (by decide)) (fun _ => sd_next ?_))
    refine sd_seq (sd_if (b := false) (et_is (et_B (ed_isi (ed_var rfl) (T.ty "Check" (by decide) T.k_Check) (T.kit "Check" "Table" (by decide) (by decide)))) (by decide)) (fun z => absurd z (by decide)) (fun _ => sd_next ?_))
    refine sd_seq (sd_if (b := false) (et_is (et_B (ed_isi (ed_var rfl) (T.ty "Check" (by decide) T.k_Check) (T.kit "Check" "Plot" (by decide) (by decide)))) (by decide)) (fun z => absurd z (by decide)) (fun _ => sd_next ?_))
    refine sd_seq (sd_if (b := false) (et_is (et_B (ed_isi (ed_var rfl) (T.ty "Check" (by decide) T.k_Check) (T.kit "Check" "BarChart" (by decide) (by decide)))) (by decide)) (fun z => absurd z (by decide)) (fun _ => sd_next ?_))
    exact (sd_ret (ed_call (ea_cons (ed_var rfl) (ea_cons (ed_var rfl) ea_nil)) (.mk hv hw)) rfl)
inductive r_lines_behind : List D → D → Prop
  | mk {b l : List (List UInt8)} (h : b.length ≤ 100000) (h2 : l.length ≤ 100000) : r_lines_behind [dBs b, dBs l] (dBs (mBehind b l))
abbrev N_lines_behind : List Str := ["before", "lines"]
theorem sc_lines_behind : FnScope N_lines_behind ["before", "lines"] (defScope (top 152)) := ⟨rfl, rfl, rfl, by decide +kernel, rfl, by decide +kernel, by decide +kernel⟩
theorem ok_lines_behind {Pr : Program} {w : World} {K : PySem.W.Frag} {mg : Str → Option Value} {base : Heap} (T : Tx K mg) : Ok Pr w K mg base 1 "lines_behind" ["before", "lines"] (spR K r_lines_behind) := by
  obtain ⟨fd, F⟩ := T.d_lines_behind
  refine ⟨⟨fd, fn_pure (N := N_lines_behind) F sc_lines_behind (fun ds d h => by cases h; rfl) ?_, F.bindsN fun _ _ _ _ _ _ us hl => match us, hl with | [_, _], _ => rfl⟩, F.kp, T.g_lines_behind⟩
  intro cdv A outer s H E hr
  refine ⟨_, (pss_cons (ps_if (pt_cmpR op_eq (pe_callB (r := rLenQ K) call_len_seq (by rfl) T.f_len (by decide +kernel) (pa_cons (pv 0) pa_nil)) pe_int (nomark _))
 (pss_one (ps_ret (pv 1)))
 pss_nil)
 (pss_one (ps_ret (pe_op op_cat (pe_op op_cat (pv 0) (pe_lst (pa_cons (pe_lst pa_nil) pa_nil))) (pv 1))))), ?_⟩
  intro B ds d hR
  obtain ⟨⟩ := hR
  rename_i b l h h2
  refine sd_seq (sd_if (et_test (ed_eq (ed_lenM (l := b) (f := dB) (ed_var rfl)) ed_int)) (fun h => ?_) (fun h => ?_))
  · refine (sd_ret (ed_var rfl) ?_)
    have : (b.length : Int) = 0 := by simpa using h
    unfold mBehind
    rw [if_pos (by omega)]
  refine sd_next ?_
  have hb : ¬ (b.length : Int) = 0 := by simpa using h
  refine (sd_ret (en_cat (ds := (b ++ [[]]).map dB) (es := l.map dB) (ed_is (en_cat (ds := b.map dB) (ed_var rfl) (en_lst (ea_cons (en_lst ea_nil (hle rfl)).ed ea_nil) (hle rfl)).ed ?_).ed ?_) (ed_var rfl) ?_).ed ?_)
  · rw [List.length_map]
    show _ + 1 ≤ _
    omega
  · show D.lst _ = D.lst _
    rw [List.map_append]
    rfl
  · rw [List.length_map, List.length_map, List.length_append]
    simp only [List.length_cons, List.length_nil]
    omega
  · unfold mBehind
    rw [if_neg (by omega)]
    show D.lst _ = D.lst _
    rw [List.map_append (l₁ := b ++ [[]])]
inductive r_lay_out_document : List D → D → Prop
  | mk {xs : List Vanbkh.Item} {w : Nat} (hv : ∀ x ∈ xs, VI x) (hl : xs.length ≤ 12) (hw : 20 ≤ w) (hw2 : w ≤ 120) : r_lay_out_document [dIts xs, .int w] (dBs (mDoc w xs))
abbrev N_lay_out_document : List Str := ["items", "width", "document", "item"]
theorem sc_lay_out_document : FnScope N_lay_out_document ["items", "width"] (defScope (top 153)) := ⟨rfl, rfl, rfl, by decide +kernel, rfl, by decide +kernel, by decide +kernel⟩
theorem ok_lay_out_document {Pr : Program} {w : World} {K : PySem.W.Frag} {mg : Str → Option Value} {base : Heap} (T : Tx K mg) : Ok Pr w K mg base 10 "lay_out_document" ["items", "width"] (spR K r_lay_out_document) := by
  obtain ⟨fd, F⟩ := T.d_lay_out_document
  refine ⟨⟨fd, fn_pure (N := N_lay_out_document) F sc_lay_out_document (fun ds d h => by cases h; rfl) ?_, F.bindsN fun _ _ _ _ _ _ us hl => match us, hl with | [_, _], _ => rfl⟩, F.kp, T.g_lay_out_document⟩
  intro cdv A outer s H E hr
  refine ⟨_, (pss_cons (ps_set (i := 2) sc_lay_out_document.nd rfl (Or.inl rfl) (pe_lst pa_nil))
 (pss_cons (ps_for PassesOwn.never rfl (pi_list (pv 0)) (pg_name (i := 3) sc_lay_out_document.nd rfl (Or.inl rfl))
 (pss_one (ps_set (i := 2) sc_lay_out_document.nd rfl (Or.inl rfl) (pe_callO (ok_lines_behind T) (hr.mono (by decide)) rfl (pa_cons (pv 2) (pa_cons (pe_callO (ok_lay_out_item T) (hr.mono (by decide)) rfl (pa_cons (pv 3) (pa_cons (pv 1) pa_nil))) pa_nil))))))
 (pss_one (ps_ret (pv 2))))), ?_⟩
  intro B ds d hR
  obtain ⟨⟩ := hR
  rename_i xs w hv hl hw hw2
  refine sd_seq (sd_asgN (en_lst ea_nil (hle rfl)) (hlt rfl) ?_)
  refine sd_frz 2 rfl ?_
  refine sd_seq (sd_forL (f := dIt) (l := xs) (dw_listL (ed_var rfl)) (fun pre δ => ∃ s, δ = [.sh (dIts xs), .sh (.int w), .sh (dBs (mDoc w pre)), s]) ?_ ?_ ?_)
  · exact ⟨_, rfl⟩
  · rintro pre x post δ e ⟨s, rfl⟩
    have v := hv x (by rw [e]; simp)
    have hp : pre.length ≤ 12 := by
      have := congrArg List.length e
      simp at this
      omega
    obtain ⟨d1, d2⟩ := mDoc_bd hw hw2 _ pre rfl fun y hy => hv y (by rw [e]; simp [hy])
    obtain ⟨f1, f2, f3⟩ := item_fits v hw hw2
    refine gd_name (hlt rfl) ?_
    refine (sd_asg (ed_call (ea_cons (ed_var rfl) (ea_cons (ed_call (ea_cons (ed_var rfl) (ea_cons (ed_var rfl) ea_nil)) (.mk v hw hw2)) ea_nil)) (.mk (by omega) (by omega))) (hlt rfl) ?_)
    exact ⟨.sh (dIt x), by rw [mDoc_snoc]; rfl⟩
  rintro δ ⟨s, rfl⟩
  exact (sd_ret (ed_var rfl) rfl)
theorem cut_dBs (n : Nat) (l : List (List UInt8)) : D.lst ((mCut n (l.map dB)).map D.lst) = D.lst ((mCut n l).map dBs) := by
  rw [mCut_map, List.map_map]
  rfl
inductive r_divide_item : List D → D → Prop
  | mk {x : Vanbkh.Item} {w h : Nat} (hv : VI x) (hw : 20 ≤ w) (hw2 : w ≤ 120) (hh : 5 ≤ h) (hh2 : h ≤ 60) : r_divide_item [dIt x, dBs (Vanbkh.itemLines w x), .int h] (.lst ((Vanbkh.splitItem w h x).map dBs))
abbrev N_divide_item : List Str := ["item", "lines", "height", "head", "others", "part"]
theorem sc_divide_item : FnScope N_divide_item ["item", "lines", "height"] (defScope (top 154)) := ⟨rfl, rfl, rfl, by decide +kernel, rfl, by decide +kernel, by decide +kernel⟩
theorem ok_divide_item {Pr : Program} {w : World} {K : PySem.W.Frag} {mg : Str → Option Value} {base : Heap} (T : Tx K mg) : Ok Pr w K mg base 2 "divide_item" ["item", "lines", "height"] (spR K r_divide_item) := by
  obtain ⟨fd, F⟩ := T.d_divide_item
  refine ⟨⟨fd, fn_pure (N := N_divide_item) F sc_divide_item (fun ds d h => by cases h; rfl) ?_, F.bindsN fun _ _ _ _ _ _ us hl => match us, hl with | [_, _, _], _ => rfl⟩, F.kp, T.g_divide_item⟩
  intro cdv A outer s H E hr
  refine ⟨_, (pss_cons (ps_if (pt_not (pt_val (pe_callB (r := rIsi K) call_isi (by rfl) T.f_isinstance (by decide +kernel) (pa_cons (pv 0) (pa_cons (pe_gref rfl T.g_Table) pa_nil)))))
 (pss_one (ps_ret (pe_callO (ok_cut_into_pieces T) (hr.mono (by decide)) rfl (pa_cons (pv 1) (pa_cons (pv 2) pa_nil)))))
 pss_nil)
 (pss_cons (ps_set (i := 3) sc_divide_item.nd rfl (Or.inr rfl) (pe_slice (r := rSlL K) sl_list (pv 1) po_none (po_some (pe_gint rfl T.i_LINES_OF_TABLE_HEAD))))
 (pss_cons (ps_set (i := 4) sc_divide_item.nd rfl (Or.inl rfl) (pe_slice (r := rSlL K) sl_list (pv 1) (po_some (pe_gint rfl T.i_LINES_OF_TABLE_HEAD)) po_none))
 (pss_one (ps_ret (pe_lc (own := [("part", 5)]) (g := gName 5) (tt := tYes) rfl sc_divide_item.nd (pi_list (pe_callO (ok_cut_into_pieces T) (hr.mono (by decide)) rfl (pa_cons (pv 4) (pa_cons (pe_op op_sub (pv 2) (pe_gint rfl T.i_LINES_OF_TABLE_HEAD)) pa_nil)))) (blkOk_by (own := [("part", 5)]) (N := N_divide_item) (sc := (defScope (top 154))) (by decide +kernel)) (fun _ _ _ _ _ => pg_name (i := 5) sc_divide_item.nd rfl (Or.inl rfl)) (fun _ _ _ _ _ => pts_nil) (fun _ _ _ _ _ => (pe_op op_cat (pv 3) (pv 5))))))))), ?_⟩
  intro B ds d hR
  obtain ⟨⟩ := hR
  rename_i x w h hv hw hw2 hh hh2
  obtain ⟨f1, f2, f3⟩ := item_fits hv hw hw2
  have non : isTab x = false → D.lst ((mCut h ((Vanbkh.itemLines w x).map dB)).map D.lst) = D.lst ((Vanbkh.splitItem w h x).map dBs) := fun ht => by rw [cut_dBs, split_non hv hw hw2 hh ht]
  cases x with
  | heading k t =>
    refine sd_seq (sd_if (b := true) (et_is (et_not (et_B (ed_isi (ed_var rfl) (T.ty "Heading" (by decide) T.k_Heading) (T.kit "Heading" "Table" (by decide) (by decide))))) (by decide)) (fun _ => ?_) (fun z => absurd z (by decide)))
    exact (sd_ret (ed_call (ea_cons (ed_var rfl) (ea_cons (ed_var rfl) ea_nil)) (.mk (by rw [List.length_map]; omega) (by omega) (by omega))) (non rfl))
  | paragraph t =>
    refine sd_seq (sd_if (b := true) (et_is (et_not (et_B (ed_isi (ed_var rfl) (T.ty "Paragraph" (by decide) T.k_Paragraph) (T.kit "Paragraph" "Table" (by decide) (by decide))))) (by decide)) (fun _ => ?_) (fun z => absurd z (by decide)))
    exact (sd_ret (ed_call (ea_cons (ed_var rfl) (ea_cons (ed_var rfl) ea_nil)) (.mk (by rw [List.length_map]; omega) (by omega) (by omega))) (non rfl))
  | plot hh' ps =>
    refine sd_seq (sd_if (b := true) (et_is (et_not (et_B (ed_isi (ed_var rfl) (T.ty "Plot" (by decide) T.k_Plot) (T.kit "Plot" "Table" (by decide) (by decide))))) (by decide)) (fun _ => ?_) (fun z => absurd z (by decide)))
    exact (sd_ret (ed_call (ea_cons (ed_var rfl) (ea_cons (ed_var rfl) ea_nil)) (.mk (by rw [List.length_map]; omega) (by omega) (by omega))) (non rfl))
  | check p t =>
    refine sd_seq (sd_if (b := true) (et_is (et_not (et_B (ed_isi (ed_var rfl) (T.ty "Check" (by decide) T.k_Check) (T.kit "Check" "Table" (by decide) (by decide))))) (by decide)) (fun _ => ?_) (fun z => absurd z (by decide)))
    exact (sd_ret (ed_call (ea_cons (ed_var rfl) (ea_cons (ed_var rfl) ea_nil)) (.mk (by rw [List.length_map]; omega) (by omega) (by omega))) (non rfl))
  | bars l =>
    refine sd_seq (sd_if (b := true) (et_is (et_not (et_B (ed_isi (ed_var rfl) (T.ty "BarChart" (by decide) T.k_BarChart) (T.kit "BarChart" "Table" (by decide) (by decide))))) (by decide)) (fun _ => ?_) (fun z => absurd z (by decide)))
    exact (sd_ret (ed_call (ea_cons (ed_var rfl) (ea_cons (ed_var rfl) ea_nil)) (.mk (by rw [List.length_map]; omega) (by omega) (by omega))) (non rfl))
  | table t =>
    refine sd_seq (sd_if (b := false) (et_is (et_not (et_B (ed_isi (ed_var rfl) (T.ty "Table" (by decide) T.k_Table) (T.kit "Table" "Table" (by decide) (by decide))))) (by decide)) (fun z => absurd z (by decide)) (fun _ => sd_next ?_))
    obtain ⟨et, f4, f5⟩ := split_tab (h := h) hv hw hw2 hh rfl
    rw [et]
    generalize Vanbkh.itemLines w (.table t) = L at *
    refine sd_seq (sd_asgN (en_is (es := (L.take 3).map dB) (en_slice (ds := L.map dB) (ed_var rfl) eo_none (eo_some ed_int)) (by rw [cutD_map, cutD_to _ (by omega)]; rfl)) (hlt rfl) ?_)
    refine sd_frz 3 rfl ?_
    refine sd_seq (sd_asgN (en_is (es := (L.drop 3).map dB) (en_slice (ds := L.map dB) (ed_var rfl) (eo_some ed_int) eo_none) (by rw [cutD_map, cutD_from _ (by omega)]; rfl)) (hlt rfl) ?_)
    refine sd_frz 4 rfl ?_
    have hd : (L.drop 3).length ≤ 26 := by rw [List.length_drop]; omega
    have ec : (h : Int) - 3 = ((h - 3 : Nat) : Int) := by omega
    have cl := mCut_len (n := h - 3) (by omega) (L.drop 3)
    refine (sd_ret (en_is (es := ((mCut (h - 3) (L.drop 3)).map (L.take 3 ++ ·)).map dBs) (en_lcL (f := dBs) (l := mCut (h - 3) (L.drop 3)) (g := fun p => dBs (L.take 3 ++ p)) (dw_listL (ed_is (ed_call (ea_cons (ed_var rfl) (ea_cons (ed_is (ed_sub (ed_var rfl) ed_int) (e := .int ((h - 3 : Nat) : Int)) (by rw [ec])) ea_nil)) (.mk (ds := (L.drop 3).map dB) (n := h - 3) (by rw [List.length_map]; omega) (by omega) (by omega))) (cut_dBs _ _))) rfl rfl (fun x hx => (ed_is (en_cat (ds := (L.take 3).map dB) (es := x.map dB) (ed_var rfl) (ed_var rfl) (by rw [List.length_map, List.length_map, List.length_take]; have := cl.2 x hx; omega)).ed (by show D.lst _ = D.lst _; rw [List.map_append]))) (by omega)) (by rw [List.map_map]; rfl)).ed rfl)
inductive r_lay_out_pages : List D → D → Prop
  | mk {xs : List Vanbkh.Item} {w h : Nat} (hv : ∀ x ∈ xs, VI x) (hl : xs.length ≤ 12) (hw : 20 ≤ w) (hw2 : w ≤ 120) (hh : 5 ≤ h) (hh2 : h ≤ 60) : r_lay_out_pages [dIts xs, .int w, .int h] (.lst ((Vanbkh.pages w h xs).map dBs))
abbrev N_lay_out_pages : List Str := ["items", "width", "height", "finished", "page", "item", "lines", "together", "divided"]
theorem sc_lay_out_pages : FnScope N_lay_out_pages ["items", "width", "height"] (defScope (top 155)) := ⟨rfl, rfl, rfl, by decide +kernel, rfl, by decide +kernel, by decide +kernel⟩
theorem ok_lay_out_pages {Pr : Program} {w : World} {K : PySem.W.Frag} {mg : Str → Option Value} {base : Heap} (T : Tx K mg) : Ok Pr w K mg base 10 "lay_out_pages" ["items", "width", "height"] (spR K r_lay_out_pages) := by
  obtain ⟨fd, F⟩ := T.d_lay_out_pages
  refine ⟨⟨fd, fn_pure (N := N_lay_out_pages) F sc_lay_out_pages (fun ds d h => by cases h; rfl) ?_, F.bindsN fun _ _ _ _ _ _ us hl => match us, hl with | [_, _, _], _ => rfl⟩, F.kp, T.g_lay_out_pages⟩
  intro cdv A outer s H E hr
  refine ⟨_, (pss_cons (ps_set (i := 3) sc_lay_out_pages.nd rfl (Or.inl rfl) (pe_lst pa_nil))
 (pss_cons (ps_set (i := 4) sc_lay_out_pages.nd rfl (Or.inl rfl) (pe_lst pa_nil))
 (pss_cons (ps_for PassesOwn.never rfl (pi_list (pv 0)) (pg_name (i := 5) sc_lay_out_pages.nd rfl (Or.inl rfl))
 (pss_cons (ps_set (i := 6) sc_lay_out_pages.nd rfl (Or.inl rfl) (pe_callO (ok_lay_out_item T) (hr.mono (by decide)) rfl (pa_cons (pv 5) (pa_cons (pv 1) pa_nil))))
 (pss_cons (ps_set (i := 7) sc_lay_out_pages.nd rfl (Or.inl rfl) (pe_callO (ok_lines_behind T) (hr.mono (by decide)) rfl (pa_cons (pv 4) (pa_cons (pv 6) pa_nil))))
 (pss_one (ps_if (pt_cmpR op_le (pe_callB (r := rLenQ K) call_len_seq (by rfl) T.f_len (by decide +kernel) (pa_cons (pv 7) pa_nil)) (pv 2) (nomark _))
 (pss_one (ps_set (i := 4) sc_lay_out_pages.nd rfl (Or.inl rfl) (pv 7)))
 (pss_cons (ps_if (pt_cmpR op_gt (pe_callB (r := rLenQ K) call_len_seq (by rfl) T.f_len (by decide +kernel) (pa_cons (pv 4) pa_nil)) pe_int (nomark _))
 (pss_one (ps_expr (pe_bm PySem.F.plainAttrs_list PySem.F.slot_list_append PySem.F.type_list_append mt_append (pv 3) (pa_cons (pv 4) pa_nil))))
 pss_nil)
 (pss_cons (ps_set (i := 8) sc_lay_out_pages.nd rfl (Or.inl rfl) (pe_callO (ok_divide_item T) (hr.mono (by decide)) rfl (pa_cons (pv 5) (pa_cons (pv 6) (pa_cons (pv 2) pa_nil)))))
 (pss_cons (ps_expr (pe_bm PySem.F.plainAttrs_list PySem.F.slot_list_extend PySem.F.type_list_extend mt_extend (pv 3) (pa_cons (pe_slice (r := rSlL K) sl_list (pv 8) po_none (po_some (pe_un un_neg pe_int))) pa_nil)))
 (pss_one (ps_set (i := 4) sc_lay_out_pages.nd rfl (Or.inl rfl) (pe_ix (r := rIxL K) ix_list (pv 8) (pe_un un_neg pe_int) (fun _ _ => rfl))))))))))))
 (pss_cons (ps_if (pt_cmpR op_gt (pe_callB (r := rLenQ K) call_len_seq (by rfl) T.f_len (by decide +kernel) (pa_cons (pv 4) pa_nil)) pe_int (nomark _))
 (pss_one (ps_expr (pe_bm PySem.F.plainAttrs_list PySem.F.slot_list_append PySem.F.type_list_append mt_append (pv 3) (pa_cons (pv 4) pa_nil))))
 pss_nil)
 (pss_one (ps_ret (pv 3))))))), ?_⟩
  intro B ds d hR
  obtain ⟨⟩ := hR
  rename_i xs w h hv hl hw hw2 hh hh2
  refine sd_seq (sd_asgN (en_lst ea_nil (hle rfl)) (hlt rfl) ?_)
  refine sd_seq (sd_asgN (en_lst ea_nil (hle rfl)) (hlt rfl) ?_)
  refine sd_frz 4 rfl ?_
  refine sd_seq (sd_forL (f := dIt) (l := xs) (dw_listL (ed_var rfl)) (fun pre δ => ∃ s1 s2 s3 s4, δ = [.sh (dIts xs), .sh (.int w), .sh (.int h), .own ((pgFold w h pre).1.map dBs), .sh (dBs (pgFold w h pre).2), s1, s2, s3, s4]) ?_ ?_ ?_)
  · exact ⟨_, _, _, _, rfl⟩
  · rintro pre x post δ e ⟨s1, s2, s3, s4, rfl⟩
    have v := hv x (by rw [e]; simp)
    have hp : pre.length ≤ 12 := by
      have := congrArg List.length e
      simp at this
      omega
    obtain ⟨p1, p2, p3⟩ := pgFold_bd (h := h) hw hw2 hh _ pre rfl fun y hy => hv y (by rw [e]; simp [hy])
    obtain ⟨f1, f2, f3⟩ := item_fits v hw hw2
    obtain ⟨q1, q2, q3⟩ := split_bd (h := h) v hw hw2 hh
    rw [pgFold_snoc]
    generalize pgFold w h pre = S at *
    have bl : (mBehind S.2 (Vanbkh.itemLines w x)).length ≤ 300 := by
      unfold mBehind
      split
      · omega
      · simp
        omega
    refine gd_name (hlt rfl) ?_
    refine sd_seq (sd_asg (ed_call (ea_cons (ed_var rfl) (ea_cons (ed_var rfl) ea_nil)) (.mk v hw hw2)) (hlt rfl) ?_)
    refine sd_seq (sd_asg (ed_call (ea_cons (ed_var rfl) (ea_cons (ed_var rfl) ea_nil)) (.mk (by omega) (by omega))) (hlt rfl) ?_)
    refine (sd_if (et_test (ed_le (ed_lenM (l := mBehind S.2 (Vanbkh.itemLines w x)) (f := dB) (ed_var rfl)) (ed_var rfl))) (fun hq => ?_) (fun hq => ?_))
    · have hc : (mBehind S.2 (Vanbkh.itemLines w x)).length ≤ h := by
        have := of_decide_eq_true hq
        omega
      refine (sd_asg (ed_var rfl) (hlt rfl) ?_)
      refine ⟨.sh (dIt x), .sh (dBs (Vanbkh.itemLines w x)), .sh (dBs (mBehind S.2 (Vanbkh.itemLines w x))), s4, ?_⟩
      unfold pgStep
      rw [if_pos hc]
      rfl
    · have hc : ¬ (mBehind S.2 (Vanbkh.itemLines w x)).length ≤ h := by
        have := of_decide_eq_false hq
        omega
      unfold pgStep
      rw [if_neg hc]
      refine sd_cut [.sh (dIts xs), .sh (.int w), .sh (.int h), .own ((if 0 < S.2.length then S.1 ++ [S.2] else S.1).map dBs), .sh (dBs S.2), .sh (dIt x), .sh (dBs (Vanbkh.itemLines w x)), .sh (dBs (mBehind S.2 (Vanbkh.itemLines w x))), s4] (sd_if (et_test (ed_gt (ed_lenM (l := S.2) (f := dB) (ed_var rfl)) ed_int)) (fun hq => ?_) (fun hq => ?_)) ?_
      · have : (S.2.length : Int) > 0 := of_decide_eq_true hq
        refine (sd_appendM (f := dBs) (l := S.1) (x := S.2) rfl (ed_var rfl) (by omega) ?_)
        rw [if_pos (by omega)]
        rfl
      · have : ¬ (S.2.length : Int) > 0 := of_decide_eq_false hq
        refine sd_next ?_
        rw [if_neg (by omega)]
        rfl
      · have il : (if 0 < S.2.length then S.1 ++ [S.2] else S.1).length ≤ 505 := by
          split
          · simp
            omega
          · omega
        generalize (if 0 < S.2.length then S.1 ++ [S.2] else S.1) = F at *
        refine sd_seq (sd_asg (ed_call (ea_cons (ed_var rfl) (ea_cons (ed_var rfl) (ea_cons (ed_var rfl) ea_nil))) (.mk v hw hw2 hh hh2)) (hlt rfl) ?_)
        have lastE : ∃ m y, Vanbkh.splitItem w h x = m ++ [y] := ⟨_, _, (List.dropLast_concat_getLast q1).symm⟩
        obtain ⟨m, y, em⟩ := lastE
        rw [em]
        rw [em] at q2
        refine sd_seq (sd_extendM (f := dBs) (l := F) (m := m) rfl (ed_is (en_slice (ds := (m ++ [y]).map dBs) (ed_var rfl) eo_none (eo_some (ed_neg ed_int))).ed ?_) ?_ ?_)
        · rw [cutD_map]
          show D.lst ((cutD (m ++ [y]) none (some (-1))).map dBs) = _
          rw [cutD_dropLast, List.dropLast_concat]
        · simp at q2
          omega
        · refine (sd_asg (ed_ix (d := dBs y) (ds := (m ++ [y]).map dBs) (ed_var rfl) (ed_neg ed_int) ?_) (hlt rfl) ?_)
          · rw [List.map_append]
            exact atI_last (m.map dBs) (dBs y)
          · refine ⟨.sh (dIt x), .sh (dBs (Vanbkh.itemLines w x)), .sh (dBs (mBehind S.2 (Vanbkh.itemLines w x))), .sh (.lst ((m ++ [y]).map dBs)), ?_⟩
            have e1 : (m ++ [y]).getLastD [] = y := by simp
            rw [e1, List.dropLast_concat]
            rfl
  rintro δ ⟨s1, s2, s3, s4, rfl⟩
  obtain ⟨p1, p2, p3⟩ := pgFold_bd (h := h) hw hw2 hh _ xs rfl hv
  rw [pages_eq hw hw2 hh xs hv]
  generalize pgFold w h xs = S at *
  refine sd_cut [.sh (dIts xs), .sh (.int w), .sh (.int h), .own ((if 0 < S.2.length then S.1 ++ [S.2] else S.1).map dBs), .sh (dBs S.2), s1, s2, s3, s4] (sd_if (et_test (ed_gt (ed_lenM (l := S.2) (f := dB) (ed_var rfl)) ed_int)) (fun hq => ?_) (fun hq => ?_)) ?_
  · have : (S.2.length : Int) > 0 := of_decide_eq_true hq
    refine (sd_appendM (f := dBs) (l := S.1) (x := S.2) rfl (ed_var rfl) (by omega) ?_)
    rw [if_pos (by omega)]
    rfl
  · have : ¬ (S.2.length : Int) > 0 := of_decide_eq_false hq
    refine sd_next ?_
    rw [if_neg (by omega)]
  · refine sd_frz 3 rfl (sd_ret (ed_var rfl) ?_)
    rfl
end Rl
namespace Rl
open PySem PySem.Spec PyProof.Rows L2 Dg

inductive r_is_width : List D → D → Prop
  | mk {w : Int} : r_is_width [.int w] (.bl (decide (20 ≤ w) && decide (w ≤ 120)))
abbrev N_is_width : List Str := ["width"]
theorem sc_is_width : FnScope N_is_width ["width"] (defScope (top 157)) := ⟨rfl, rfl, rfl, by decide +kernel, rfl, by decide +kernel, by decide +kernel⟩
theorem ok_is_width {Pr : Program} {w : World} {K : PySem.W.Frag} {mg : Str → Option Value} {base : Heap} (T : Tx K mg) : Ok Pr w K mg base 2 "is_width" ["width"] (spR K r_is_width) := by
  obtain ⟨fd, F⟩ := T.d_is_width
  refine ⟨⟨fd, fn_pure (N := N_is_width) F sc_is_width (fun ds d h => by cases h; rfl) ?_, F.bindsN fun _ _ _ _ _ _ us hl => match us, hl with | [_], _ => rfl⟩, F.kp, T.g_is_width⟩
  intro cdv A outer s H E hr
  refine ⟨_, (pss_one (ps_ret (pe_callO (ok_is_within T) (hr.mono (by decide)) rfl (pa_cons (pv 0) (pa_cons pe_int (pa_cons pe_int pa_nil)))))), ?_⟩
  intro B ds d hR
  obtain ⟨⟩ := hR
  exact (sd_ret (ed_call (ea_cons (ed_var rfl) (ea_cons ed_int (ea_cons ed_int ea_nil))) (.mk)) rfl)
inductive r_encode_lines : List D → D → Prop
  | mk {ls : List (List UInt8)} (h : ls.length ≤ 100000) (h2 : ∀ l ∈ ls, l.length ≤ 120) : r_encode_lines [dBs ls] (.lst (dI (Vanbkh.encodeLines ls)))
abbrev N_encode_lines : List Str := ["lines", "encoded", "line"]
theorem sc_encode_lines : FnScope N_encode_lines ["lines"] (defScope (top 158)) := ⟨rfl, rfl, rfl, by decide +kernel, rfl, by decide +kernel, by decide +kernel⟩
theorem ok_encode_lines {Pr : Program} {w : World} {K : PySem.W.Frag} {mg : Str → Option Value} {base : Heap} (T : Tx K mg) : Ok Pr w K mg base 1 "encode_lines" ["lines"] (spR K r_encode_lines) := by
  obtain ⟨fd, F⟩ := T.d_encode_lines
  refine ⟨⟨fd, fn_pure (N := N_encode_lines) F sc_encode_lines (fun ds d h => by cases h; rfl) ?_, F.bindsN fun _ _ _ _ _ _ us hl => match us, hl with | [_], _ => rfl⟩, F.kp, T.g_encode_lines⟩
  intro cdv A outer s H E hr
  refine ⟨_, (pss_cons (ps_set (i := 1) sc_encode_lines.nd rfl (Or.inl rfl) (pe_lst (pa_cons (pe_callB (r := rLenQ K) call_len_seq (by rfl) T.f_len (by decide +kernel) (pa_cons (pv 0) pa_nil)) pa_nil)))
 (pss_cons (ps_for PassesOwn.never rfl (pi_list (pv 0)) (pg_name (i := 2) sc_encode_lines.nd rfl (Or.inl rfl))
 (pss_cons (ps_expr (pe_bm PySem.F.plainAttrs_list PySem.F.slot_list_append PySem.F.type_list_append mt_append (pv 1) (pa_cons (pe_callB (r := rLenQ K) call_len_seq (by rfl) T.f_len (by decide +kernel) (pa_cons (pv 2) pa_nil)) pa_nil)))
 (pss_one (ps_expr (pe_bm PySem.F.plainAttrs_list PySem.F.slot_list_extend PySem.F.type_list_extend mt_extend (pv 1) (pa_cons (pv 2) pa_nil))))))
 (pss_one (ps_ret (pv 1))))), ?_⟩
  intro B ds d hR
  obtain ⟨⟩ := hR
  rename_i ls h h2
  refine sd_seq (sd_asgN (en_lst1I (ed_lenM (l := ls) (f := dB) (ed_var rfl))) (hlt rfl) ?_)
  refine sd_seq (sd_forL (f := dB) (l := ls) (dw_listL (ed_var rfl)) (fun pre δ => ∃ s, δ = [.sh (dBs ls), .own (dI ((ls.length : Int) :: pre.flatMap Vanbkh.withLength)), s]) ?_ ?_ ?_)
  · exact ⟨_, rfl⟩
  · rintro pre x post δ e ⟨s, rfl⟩
    have hp : pre.length ≤ 100000 := by
      have := congrArg List.length e
      simp at this
      omega
    have hx := h2 x (by rw [e]; simp)
    have hl := encLines_len (w := 120) (ls := pre) fun y hy => h2 y (by rw [e]; simp [hy])
    have : (120 + 1) * pre.length ≤ (120 + 1) * 100000 := Nat.mul_le_mul_left _ hp
    refine gd_name (hlt rfl) ?_
    refine sd_seq (sd_appendI (l := (ls.length : Int) :: pre.flatMap Vanbkh.withLength) (x := (x.length : Int)) rfl (ed_is (ed_lenN (l := bI x) (ed_var rfl)) (by rw [bI_length])) (by rw [List.length_cons]; omega) ?_)
    refine (sd_extendI (l := (ls.length : Int) :: pre.flatMap Vanbkh.withLength ++ [(x.length : Int)]) (m := bI x) rfl (ed_var rfl) (by rw [List.length_append, bI_length]; show (_ + 1) + 1 + _ ≤ _; omega) ?_)
    refine ⟨.sh (dB x), ?_⟩
    have e1 : (pre ++ [x]).flatMap Vanbkh.withLength = pre.flatMap Vanbkh.withLength ++ ((x.length : Int) :: bI x) := by
      rw [List.flatMap_append]
      simp [withLength_eq]
    rw [e1]
    show [Sl.sh (dBs ls), .own (dI ((ls.length : Int) :: pre.flatMap Vanbkh.withLength ++ [(x.length : Int)] ++ bI x)), .sh (dB x)] = _
    rw [List.append_assoc]
    rfl
  rintro δ ⟨s, rfl⟩
  exact sd_frz 1 rfl (sd_ret (ed_var rfl) rfl)
inductive r_item_lines : List D → D → Prop
  | mk {xs : List Vanbkh.Item} {i w : Int} (hv : VS xs) : r_item_lines [dIts xs, .int i, .int w] (.lst (dI (qA xs (.itemLines i w))))
abbrev N_item_lines : List Str := ["items", "index", "width"]
theorem sc_item_lines : FnScope N_item_lines ["items", "index", "width"] (defScope (top 159)) := ⟨rfl, rfl, rfl, by decide +kernel, rfl, by decide +kernel, by decide +kernel⟩
theorem ok_item_lines {Pr : Program} {w : World} {K : PySem.W.Frag} {mg : Str → Option Value} {base : Heap} (T : Tx K mg) : Ok Pr w K mg base 10 "item_lines" ["items", "index", "width"] (spR K r_item_lines) := by
  obtain ⟨fd, F⟩ := T.d_item_lines
  refine ⟨⟨fd, fn_pure (N := N_item_lines) F sc_item_lines (fun ds d h => by cases h; rfl) ?_, F.bindsN fun _ _ _ _ _ _ us hl => match us, hl with | [_, _, _], _ => rfl⟩, F.kp, T.g_item_lines⟩
  intro cdv A outer s H E hr
  refine ⟨_, (pss_cons (ps_if (pt_not (pt_val (pe_callO (ok_has_item T) (hr.mono (by decide)) rfl (pa_cons (pv 0) (pa_cons (pv 1) pa_nil)))))
 (pss_one (ps_ret (pe_lst (pa_cons (pe_gint rfl T.i_NO_SUCH_ITEM) pa_nil))))
 pss_nil)
 (pss_cons (ps_if (pt_not (pt_val (pe_callO (ok_is_width T) (hr.mono (by decide)) rfl (pa_cons (pv 2) pa_nil))))
 (pss_one (ps_ret (pe_lst (pa_cons (pe_gint rfl T.i_BAD_WIDTH) pa_nil))))
 pss_nil)
 (pss_one (ps_ret (pe_callO (ok_encode_lines T) (hr.mono (by decide)) rfl (pa_cons (pe_callO (ok_lay_out_item T) (hr.mono (by decide)) rfl (pa_cons (pe_ix (r := rIxL K) ix_list (pv 0) (pv 1) (fun _ _ => rfl)) (pa_cons (pv 2) pa_nil))) pa_nil)))))), ?_⟩
  intro B ds d hR
  obtain ⟨⟩ := hR
  rename_i xs i w hv
  have er0 : qA xs (.itemLines i w) = VanbkhNeutral.encode (match Vanbkh.itemAt ⟨xs⟩ i with | none => .error (-11) | some x => if Vanbkh.isInvalidWidth w = true then .error (-14) else .numbers (Vanbkh.encodeLines (Vanbkh.itemLines w.toNat x))) := rfl
  have hl := hv.2
  refine sd_seq (sd_if (b := !(hasI xs.length i)) (et_is (et_not (et_B (ed_call (ea_cons (ed_var rfl) (ea_cons (ed_var rfl) ea_nil)) (.mk)))) (by rw [List.length_map]; rfl)) (fun h => ?_) (fun h => ?_))
  · refine (sd_ret (en_lst1I ed_int).ed ?_)
    have h' : hasI xs.length i = false := by simpa using h
    rw [er0, itemAt_none h']
    rfl
  refine sd_next ?_
  have h' : hasI xs.length i = true := by simpa using h
  obtain ⟨x, e1, e2, e3, _⟩ := itemAt_some h'
  have er : qA xs (.itemLines i w) = VanbkhNeutral.encode (if Vanbkh.isInvalidWidth w = true then .error (-14) else .numbers (Vanbkh.encodeLines (Vanbkh.itemLines w.toNat x))) := by
    rw [er0, e1]
  rw [er, invalidW]
  refine sd_seq (sd_if (et_not (et_B (ed_call (ea_cons (ed_var rfl) ea_nil) (.mk)))) (fun h => ?_) (fun h => ?_))
  · refine (sd_ret (en_lst1I ed_int).ed ?_)
    rw [if_pos h]
    rfl
  refine sd_next ?_
  rw [if_neg (by rw [h]; simp)]
  obtain ⟨w1, w2, w3⟩ := validW (w := w) (by simpa using h)
  obtain ⟨f1, f2, f3⟩ := item_fits (hv.1 x e3) w1 w2
  exact (sd_ret (ed_call (ea_cons (ed_call (ea_cons (ed_ix (ds := xs.map dIt) (ed_var rfl) (ed_var rfl) (atI_map dIt e2)) (ea_cons (ed_is (ed_var rfl) (e := .int (w.toNat : Nat)) (by rw [← w3])) ea_nil)) (.mk (hv.1 x e3) w1 w2)) ea_nil) (.mk (by omega) (fun l hl => Nat.le_trans (f3 l hl) w2))) rfl)
inductive r_document_lines : List D → D → Prop
  | mk {xs : List Vanbkh.Item} {w : Int} (hv : VS xs) : r_document_lines [dIts xs, .int w] (.lst (dI (qA xs (.documentLines w))))
abbrev N_document_lines : List Str := ["items", "width"]
theorem sc_document_lines : FnScope N_document_lines ["items", "width"] (defScope (top 160)) := ⟨rfl, rfl, rfl, by decide +kernel, rfl, by decide +kernel, by decide +kernel⟩
theorem ok_document_lines {Pr : Program} {w : World} {K : PySem.W.Frag} {mg : Str → Option Value} {base : Heap} (T : Tx K mg) : Ok Pr w K mg base 11 "document_lines" ["items", "width"] (spR K r_document_lines) := by
  obtain ⟨fd, F⟩ := T.d_document_lines
  refine ⟨⟨fd, fn_pure (N := N_document_lines) F sc_document_lines (fun ds d h => by cases h; rfl) ?_, F.bindsN fun _ _ _ _ _ _ us hl => match us, hl with | [_, _], _ => rfl⟩, F.kp, T.g_document_lines⟩
  intro cdv A outer s H E hr
  refine ⟨_, (pss_cons (ps_if (pt_not (pt_val (pe_callO (ok_is_width T) (hr.mono (by decide)) rfl (pa_cons (pv 1) pa_nil))))
 (pss_one (ps_ret (pe_lst (pa_cons (pe_gint rfl T.i_BAD_WIDTH) pa_nil))))
 pss_nil)
 (pss_one (ps_ret (pe_callO (ok_encode_lines T) (hr.mono (by decide)) rfl (pa_cons (pe_callO (ok_lay_out_document T) (hr.mono (by decide)) rfl (pa_cons (pv 0) (pa_cons (pv 1) pa_nil))) pa_nil))))), ?_⟩
  intro B ds d hR
  obtain ⟨⟩ := hR
  rename_i xs w hv
  have hl := hv.2
  have er : qA xs (.documentLines w) = VanbkhNeutral.encode (if Vanbkh.isInvalidWidth w = true then .error (-14) else .numbers (Vanbkh.encodeLines (Vanbkh.documentLines w.toNat xs))) := rfl
  rw [er, invalidW]
  refine sd_seq (sd_if (et_not (et_B (ed_call (ea_cons (ed_var rfl) ea_nil) (.mk)))) (fun h => ?_) (fun h => ?_))
  · refine (sd_ret (en_lst1I ed_int).ed ?_)
    rw [if_pos h]
    rfl
  refine sd_next ?_
  rw [if_neg (by rw [h]; simp)]
  obtain ⟨w1, w2, w3⟩ := validW (w := w) (by simpa using h)
  obtain ⟨d1, d2⟩ := mDoc_bd w1 w2 _ xs rfl hv.1
  rw [← mDoc_eq xs fun x hx => by have := (item_fits (hv.1 x hx) w1 w2).1; omega]
  exact (sd_ret (ed_call (ea_cons (ed_call (ea_cons (ed_var rfl) (ea_cons (ed_is (ed_var rfl) (e := .int (w.toNat : Nat)) (by rw [← w3])) ea_nil)) (.mk hv.1 hl w1 w2)) ea_nil) (.mk (by omega) (fun l hl => Nat.le_trans (d2 l hl) w2))) rfl)
inductive r_pages : List D → D → Prop
  | mk {xs : List Vanbkh.Item} {w h : Int} (hv : VS xs) : r_pages [dIts xs, .int w, .int h] (.lst (dI (qA xs (.pages w h))))
abbrev N_pages : List Str := ["items", "width", "height", "laid_out", "encoded", "page"]
theorem sc_pages : FnScope N_pages ["items", "width", "height"] (defScope (top 161)) := ⟨rfl, rfl, rfl, by decide +kernel, rfl, by decide +kernel, by decide +kernel⟩
theorem ok_pages {Pr : Program} {w : World} {K : PySem.W.Frag} {mg : Str → Option Value} {base : Heap} (T : Tx K mg) : Ok Pr w K mg base 11 "pages" ["items", "width", "height"] (spR K r_pages) := by
  obtain ⟨fd, F⟩ := T.d_pages
  refine ⟨⟨fd, fn_pure (N := N_pages) F sc_pages (fun ds d h => by cases h; rfl) ?_, F.bindsN fun _ _ _ _ _ _ us hl => match us, hl with | [_, _, _], _ => rfl⟩, F.kp, T.g_pages⟩
  intro cdv A outer s H E hr
  refine ⟨_, (pss_cons (ps_if (pt_not (pt_val (pe_callO (ok_is_width T) (hr.mono (by decide)) rfl (pa_cons (pv 1) pa_nil))))
 (pss_one (ps_ret (pe_lst (pa_cons (pe_gint rfl T.i_BAD_WIDTH) pa_nil))))
 pss_nil)
 (pss_cons (ps_if (pt_not (pt_val (pe_callO (ok_is_within T) (hr.mono (by decide)) rfl (pa_cons (pv 2) (pa_cons pe_int (pa_cons pe_int pa_nil))))))
 (pss_one (ps_ret (pe_lst (pa_cons (pe_gint rfl T.i_BAD_PAGE_HEIGHT) pa_nil))))
 pss_nil)
 (pss_cons (ps_set (i := 3) sc_pages.nd rfl (Or.inl rfl) (pe_callO (ok_lay_out_pages T) (hr.mono (by decide)) rfl (pa_cons (pv 0) (pa_cons (pv 1) (pa_cons (pv 2) pa_nil)))))
 (pss_cons (ps_set (i := 4) sc_pages.nd rfl (Or.inl rfl) (pe_lst (pa_cons (pe_callB (r := rLenQ K) call_len_seq (by rfl) T.f_len (by decide +kernel) (pa_cons (pv 3) pa_nil)) pa_nil)))
 (pss_cons (ps_for PassesOwn.never rfl (pi_list (pv 3)) (pg_name (i := 5) sc_pages.nd rfl (Or.inl rfl))
 (pss_one (ps_expr (pe_bm PySem.F.plainAttrs_list PySem.F.slot_list_extend PySem.F.type_list_extend mt_extend (pv 4) (pa_cons (pe_callO (ok_encode_lines T) (hr.mono (by decide)) rfl (pa_cons (pv 5) pa_nil)) pa_nil)))))
 (pss_one (ps_ret (pv 4)))))))), ?_⟩
  intro B ds d hR
  obtain ⟨⟩ := hR
  rename_i xs w hh hv
  have hl := hv.2
  have er : qA xs (.pages w hh) = VanbkhNeutral.encode (if Vanbkh.isInvalidWidth w = true then .error (-14) else if (!Vanbkh.isBetween hh 5 60) = true then .error (-15) else .numbers (Vanbkh.ofNat (Vanbkh.pages w.toNat hh.toNat xs).length :: (Vanbkh.pages w.toNat hh.toNat xs).flatMap Vanbkh.encodeLines)) := rfl
  rw [er, invalidW]
  refine sd_seq (sd_if (et_not (et_B (ed_call (ea_cons (ed_var rfl) ea_nil) (.mk)))) (fun h => ?_) (fun h => ?_))
  · refine (sd_ret (en_lst1I ed_int).ed ?_)
    rw [if_pos h]
    rfl
  refine sd_next ?_
  rw [if_neg (by rw [h]; simp)]
  obtain ⟨w1, w2, w3⟩ := validW (w := w) (by simpa using h)
  refine sd_seq (sd_if (b := !Vanbkh.isBetween hh 5 60) (et_not (et_B (ed_call (ea_cons (ed_var rfl) (ea_cons ed_int (ea_cons ed_int ea_nil))) (.mk)))) (fun h => ?_) (fun h => ?_))
  · refine (sd_ret (en_lst1I ed_int).ed ?_)
    rw [if_pos h]
    rfl
  refine sd_next ?_
  rw [if_neg (by rw [h]; simp)]
  have hb : 5 ≤ hh.toNat ∧ hh.toNat ≤ 60 ∧ hh = (hh.toNat : Nat) := by
    unfold Vanbkh.isBetween at h
    simp only [Bool.not_eq_false', Bool.and_eq_true, decide_eq_true_eq] at h
    omega
  obtain ⟨p1, p2, p3⟩ := pgFold_bd (h := hh.toNat) w1 w2 hb.1 _ xs rfl hv.1
  have pe := pages_eq (h := hh.toNat) w1 w2 hb.1 xs hv.1
  have pb : (Vanbkh.pages w.toNat hh.toNat xs).length ≤ 505 ∧ ∀ p ∈ Vanbkh.pages w.toNat hh.toNat xs, p.length ≤ 60 ∧ ∀ l ∈ p, l.length ≤ 120 := by
    rw [pe]
    split
    · refine ⟨by rw [List.length_append]; simp only [List.length_cons, List.length_nil]; omega, fun p hp => ?_⟩
      rcases List.mem_append.mp hp with hp | hp
      · exact ⟨by have := (p3 p hp).1; omega, fun l hl => by have := (p3 p hp).2 l hl; omega⟩
      · have : p = (pgFold w.toNat hh.toNat xs).2 := by simpa using hp
        rw [this]
        exact ⟨by have := p2.1; omega, fun l hl => by have := p2.2 l hl; omega⟩
    · refine ⟨by omega, fun p hp => ?_⟩
      exact ⟨by have := (p3 p hp).1; omega, fun l hl => by have := (p3 p hp).2 l hl; omega⟩
  refine sd_seq (sd_asg (ed_call (ea_cons (ed_var rfl) (ea_cons (ed_is (ed_var rfl) (e := .int (w.toNat : Nat)) (by rw [← w3])) (ea_cons (ed_is (ed_var rfl) (e := .int (hh.toNat : Nat)) (by rw [← hb.2.2])) ea_nil))) (.mk hv.1 hl w1 w2 hb.1 hb.2.1)) (hlt rfl) ?_)
  generalize Vanbkh.pages w.toNat hh.toNat xs = ps at *
  refine sd_seq (sd_asgN (en_lst1I (ed_lenM (l := ps) (f := dBs) (ed_var rfl))) (hlt rfl) ?_)
  have ebd : ∀ pre : List (List (List UInt8)), (∀ p ∈ pre, p ∈ ps) → pre.length ≤ 505 → (pre.flatMap Vanbkh.encodeLines).length ≤ 7261 * 505 := fun pre hm hpl => by
    have := flat_leI (f := Vanbkh.encodeLines) (c := 7261) (l := pre) fun p hp => by
      have q := pb.2 p (hm p hp)
      have := encLines_len (w := 120) (ls := p) q.2
      have : (120 + 1) * p.length ≤ (120 + 1) * 60 := Nat.mul_le_mul_left _ q.1
      show (_ :: p.flatMap Vanbkh.withLength).length ≤ 7261
      rw [List.length_cons]
      omega
    have : 7261 * pre.length ≤ 7261 * 505 := Nat.mul_le_mul_left _ hpl
    omega
  refine sd_seq (sd_forL (f := dBs) (l := ps) (dw_listL (ed_var rfl)) (fun pre δ => ∃ s, δ = [.sh (dIts xs), .sh (.int w), .sh (.int hh), .sh (.lst (ps.map dBs)), .own (dI ((ps.length : Int) :: pre.flatMap Vanbkh.encodeLines)), s]) ?_ ?_ ?_)
  · exact ⟨_, rfl⟩
  · rintro pre x post δ e ⟨s, rfl⟩
    have hx : x ∈ ps := by rw [e]; simp
    have hp : (pre ++ [x]).length ≤ 505 := by
      have := congrArg List.length e
      have := pb.1
      simp at *
      omega
    have b1 := ebd (pre ++ [x]) (fun p hp => by rw [e]; simp at hp ⊢; rcases hp with hp | hp <;> simp [hp]) hp
    rw [List.flatMap_append, List.length_append, List.flatMap_singleton] at b1
    refine gd_name (hlt rfl) ?_
    refine (sd_extendI (l := (ps.length : Int) :: pre.flatMap Vanbkh.encodeLines) (m := Vanbkh.encodeLines x) rfl (ed_call (ea_cons (ed_var rfl) ea_nil) (.mk (by have := (pb.2 x hx).1; omega) (pb.2 x hx).2)) (by rw [List.length_cons]; omega) ?_)
    refine ⟨.sh (dBs x), ?_⟩
    rw [List.flatMap_append, List.flatMap_singleton]
    rfl
  rintro δ ⟨s, rfl⟩
  exact sd_frz 4 rfl (sd_ret (ed_var rfl) rfl)
end Rl
namespace Rl
open PySem PySem.Spec PyProof.Rows L2 Dg

theorem ed_isTab {K : PySem.W.Frag} {mg : Str → Option Value} {B : Bs} {δ : List Sl} {ta : TE} {x : Vanbkh.Item} (T : Tx K mg) (h : ED K B δ ta (dIt x)) : ED K B δ (tCB (rIsi K) (tCons ta (tCons (tC (.ref (He.ga K "Table"))) tNil))) (.bl (isTab x)) := by
  cases x with
  | heading k t => exact ed_is (ed_isi h (T.ty "Heading" (by decide) T.k_Heading) (T.kit "Heading" "Table" (by decide) (by decide))) (congrArg D.bl (Eq.trans (b := false) (by decide) rfl))
  | paragraph t => exact ed_is (ed_isi h (T.ty "Paragraph" (by decide) T.k_Paragraph) (T.kit "Paragraph" "Table" (by decide) (by decide))) (congrArg D.bl (Eq.trans (b := false) (by decide) rfl))
  | table t => exact ed_is (ed_isi h (T.ty "Table" (by decide) T.k_Table) (T.kit "Table" "Table" (by decide) (by decide))) (congrArg D.bl (Eq.trans (b := true) (by decide) rfl))
  | plot a b => exact ed_is (ed_isi h (T.ty "Plot" (by decide) T.k_Plot) (T.kit "Plot" "Table" (by decide) (by decide))) (congrArg D.bl (Eq.trans (b := false) (by decide) rfl))
  | check a b => exact ed_is (ed_isi h (T.ty "Check" (by decide) T.k_Check) (T.kit "Check" "Table" (by decide) (by decide))) (congrArg D.bl (Eq.trans (b := false) (by decide) rfl))
  | bars l => exact ed_is (ed_isi h (T.ty "BarChart" (by decide) T.k_BarChart) (T.kit "BarChart" "Table" (by decide) (by decide))) (congrArg D.bl (Eq.trans (b := false) (by decide) rfl))
theorem ed_kind {K : PySem.W.Frag} {mg : Str → Option Value} {B : Bs} {δ : List Sl} {ta : TE} {x : Vanbkh.Item} (T : Tx K mg) (h : ED K B δ ta (dIt x)) : ED K B δ (tFld K ta "kind") (.int (Vanbkh.kindOf x)) := by
  cases x with
  | heading k t => exact ed_fld h T.k_Heading T.n_Heading_kind rfl
  | paragraph t => exact ed_fld h T.k_Paragraph T.n_Paragraph_kind rfl
  | table t => exact ed_fld h T.k_Table T.n_Table_kind rfl
  | plot a b => exact ed_fld h T.k_Plot T.n_Plot_kind rfl
  | check a b => exact ed_fld h T.k_Check T.n_Check_kind rfl
  | bars l => exact ed_fld h T.k_BarChart T.n_BarChart_kind rfl
theorem tab_of {x : Vanbkh.Item} (h : isTab x = true) : ∃ t, x = .table t := by
  cases x with
  | table t => exact ⟨t, rfl⟩
  | heading _ _ => cases h
  | paragraph _ => cases h
  | plot _ _ => cases h
  | check _ _ => cases h
  | bars _ => cases h
inductive r_column_widths : List D → D → Prop
  | mk {xs : List Vanbkh.Item} {i w : Int} (hv : VS xs) : r_column_widths [dIts xs, .int i, .int w] (.lst (dI (qA xs (.columnWidths i w))))
abbrev N_column_widths : List Str := ["items", "index", "width", "table", "widths"]
theorem sc_column_widths : FnScope N_column_widths ["items", "index", "width"] (defScope (top 162)) := ⟨rfl, rfl, rfl, by decide +kernel, rfl, by decide +kernel, by decide +kernel⟩
theorem ok_column_widths {Pr : Program} {w : World} {K : PySem.W.Frag} {mg : Str → Option Value} {base : Heap} (T : Tx K mg) : Ok Pr w K mg base 9 "column_widths" ["items", "index", "width"] (spR K r_column_widths) := by
  obtain ⟨fd, F⟩ := T.d_column_widths
  refine ⟨⟨fd, fn_pure (N := N_column_widths) F sc_column_widths (fun ds d h => by cases h; rfl) ?_, F.bindsN fun _ _ _ _ _ _ us hl => match us, hl with | [_, _, _], _ => rfl⟩, F.kp, T.g_column_widths⟩
  intro cdv A outer s H E hr
  refine ⟨_, (pss_cons (ps_if (pt_not (pt_val (pe_callO (ok_has_item T) (hr.mono (by decide)) rfl (pa_cons (pv 0) (pa_cons (pv 1) pa_nil)))))
 (pss_one (ps_ret (pe_lst (pa_cons (pe_gint rfl T.i_NO_SUCH_ITEM) pa_nil))))
 pss_nil)
 (pss_cons (ps_if (pt_not (pt_val (pe_callO (ok_is_width T) (hr.mono (by decide)) rfl (pa_cons (pv 2) pa_nil))))
 (pss_one (ps_ret (pe_lst (pa_cons (pe_gint rfl T.i_BAD_WIDTH) pa_nil))))
 pss_nil)
 (pss_cons (ps_set (i := 3) sc_column_widths.nd rfl (Or.inl rfl) (pe_ix (r := rIxL K) ix_list (pv 0) (pv 1) (fun _ _ => rfl)))
 (pss_cons (ps_if (pt_not (pt_val (pe_callB (r := rIsi K) call_isi (by rfl) T.f_isinstance (by decide +kernel) (pa_cons (pv 3) (pa_cons (pe_gref rfl T.g_Table) pa_nil)))))
 (pss_one (ps_ret (pe_lst (pa_cons (pe_gint rfl T.i_NOT_A_TABLE) pa_nil))))
 pss_nil)
 (pss_cons (ps_set (i := 4) sc_column_widths.nd rfl (Or.inl rfl) (pe_callO (ok_visible_widths T) (hr.mono (by decide)) rfl (pa_cons (pv 3) (pa_cons (pv 2) pa_nil))))
 (pss_one (ps_ret (pe_op op_cat (pe_lst (pa_cons (pe_callB (r := rLenQ K) call_len_seq (by rfl) T.f_len (by decide +kernel) (pa_cons (pv 4) pa_nil)) pa_nil)) (pv 4))))))))), ?_⟩
  intro B ds d hR
  obtain ⟨⟩ := hR
  rename_i xs i w hv
  have hl := hv.2
  have er0 := qA_widths xs i w
  refine sd_seq (sd_if (b := !(hasI xs.length i)) (et_is (et_not (et_B (ed_call (ea_cons (ed_var rfl) (ea_cons (ed_var rfl) ea_nil)) (.mk)))) (by rw [List.length_map]; rfl)) (fun h => ?_) (fun h => ?_))
  · refine (sd_ret (en_lst1I ed_int).ed ?_)
    have h' : hasI xs.length i = false := by simpa using h
    rw [er0, itemAt_none h']
    rfl
  refine sd_next ?_
  have h' : hasI xs.length i = true := by simpa using h
  obtain ⟨x, e1, e2, e3, _⟩ := itemAt_some h'
  rw [er0, e1]
  show SD _ _ _ _ { n := fun _ => D.lst (dI (VanbkhNeutral.encode (if Vanbkh.isInvalidWidth w = true then .error (-14) else cwA w x))) = .non, r := fun d' _ => d' = D.lst (dI (VanbkhNeutral.encode (if Vanbkh.isInvalidWidth w = true then .error (-14) else cwA w x))) }
  rw [invalidW]
  refine sd_seq (sd_if (et_not (et_B (ed_call (ea_cons (ed_var rfl) ea_nil) (.mk)))) (fun h => ?_) (fun h => ?_))
  · refine (sd_ret (en_lst1I ed_int).ed ?_)
    rw [if_pos h]
    rfl
  refine sd_next ?_
  rw [if_neg (by rw [h]; simp)]
  obtain ⟨w1, w2, w3⟩ := validW (w := w) (by simpa using h)
  refine sd_seq (sd_asg (ed_ix (d := dIt x) (ds := xs.map dIt) (ed_var rfl) (ed_var rfl) (atI_map dIt e2)) (hlt rfl) ?_)
  refine sd_seq (sd_if (et_not (et_B (ed_isTab T (ed_var rfl)))) (fun h => ?_) (fun h => ?_))
  · refine (sd_ret (en_lst1I ed_int).ed ?_)
    cases x with
    | table t => cases h
    | heading _ _ => rfl
    | paragraph _ => rfl
    | plot _ _ => rfl
    | check _ _ => rfl
    | bars _ => rfl
  refine sd_next ?_
  obtain ⟨t, rfl⟩ := tab_of (x := x) (by simpa using h)
  have v : VT t := hv.1 _ e3
  have cw := (widths_bd v w1 w2).1
  have c8 := (vis_bd w1 w2 v.lo).2.1
  have h8 := v.hi
  refine sd_seq (sd_asg (ed_call (ea_cons (ed_is (ed_var rfl) (e := dT t) rfl) (ea_cons (ed_is (ed_var rfl) (e := .int (w.toNat : Nat)) (by rw [← w3])) ea_nil)) (.mk v w1 w2)) (hlt rfl) ?_)
  refine (sd_ret (en_catI (l := [((Vanbkh.columnWidths w.toNat t).length : Int)]) (m := nI (Vanbkh.columnWidths w.toNat t)) (en_lst1I (ed_is (ed_lenN (l := nI (Vanbkh.columnWidths w.toNat t)) (ed_var rfl)) (by rw [nI_length]))).ed (ed_var rfl) ?_).ed rfl)
  rw [nI_length]
  show 1 + _ ≤ _
  omega
inductive r_item_kinds : List D → D → Prop
  | mk {xs : List Vanbkh.Item} (hv : VS xs) : r_item_kinds [dIts xs] (.lst (dI (qA xs .kinds)))
abbrev N_item_kinds : List Str := ["items", "item"]
theorem sc_item_kinds : FnScope N_item_kinds ["items"] (defScope (top 163)) := ⟨rfl, rfl, rfl, by decide +kernel, rfl, by decide +kernel, by decide +kernel⟩
theorem ok_item_kinds {Pr : Program} {w : World} {K : PySem.W.Frag} {mg : Str → Option Value} {base : Heap} (T : Tx K mg) : Ok Pr w K mg base 1 "item_kinds" ["items"] (spR K r_item_kinds) := by
  obtain ⟨fd, F⟩ := T.d_item_kinds
  refine ⟨⟨fd, fn_pure (N := N_item_kinds) F sc_item_kinds (fun ds d h => by cases h; rfl) ?_, F.bindsN fun _ _ _ _ _ _ us hl => match us, hl with | [_], _ => rfl⟩, F.kp, T.g_item_kinds⟩
  intro cdv A outer s H E hr
  refine ⟨_, (pss_one (ps_ret (pe_op op_cat (pe_lst (pa_cons (pe_callB (r := rLenQ K) call_len_seq (by rfl) T.f_len (by decide +kernel) (pa_cons (pv 0) pa_nil)) pa_nil)) (pe_lc (own := [("item", 1)]) (g := gName 1) (tt := tYes) rfl sc_item_kinds.nd (pi_list (pv 0)) (blkOk_by (own := [("item", 1)]) (N := N_item_kinds) (sc := (defScope (top 163))) (by decide +kernel)) (fun _ _ _ _ _ => pg_name (i := 1) sc_item_kinds.nd rfl (Or.inl rfl)) (fun _ _ _ _ _ => pts_nil) (fun _ _ _ _ _ => (pe_fldK (K := K) (pv 1) rfl rfl)))))), ?_⟩
  intro B ds d hR
  obtain ⟨⟩ := hR
  rename_i xs hv
  have hl := hv.2
  refine (sd_ret (en_catI (l := [(xs.length : Int)]) (m := xs.map Vanbkh.kindOf) (en_lst1I (ed_lenM (l := xs) (f := dIt) (ed_var rfl))).ed (ed_is (en_lcL (f := dIt) (l := xs) (g := fun x => D.int (Vanbkh.kindOf x)) (dw_listL (ed_var rfl)) rfl rfl (fun x hx => (ed_kind T (ed_var rfl))) (by omega)).ed (by unfold dI; rw [List.map_map]; rfl)) ?_).ed rfl)
  rw [List.length_map]
  show 1 + _ ≤ _
  omega
inductive r_table_cells : List D → D → Prop
  | mk {xs : List Vanbkh.Item} {i : Int} (hv : VS xs) : r_table_cells [dIts xs, .int i] (.lst (dI (qA xs (.cells i))))
abbrev N_table_cells : List Str := ["items", "index", "table", "encoded", "row", "cell"]
theorem sc_table_cells : FnScope N_table_cells ["items", "index"] (defScope (top 164)) := ⟨rfl, rfl, rfl, by decide +kernel, rfl, by decide +kernel, by decide +kernel⟩
theorem ok_table_cells {Pr : Program} {w : World} {K : PySem.W.Frag} {mg : Str → Option Value} {base : Heap} (T : Tx K mg) : Ok Pr w K mg base 3 "table_cells" ["items", "index"] (spR K r_table_cells) := by
  obtain ⟨fd, F⟩ := T.d_table_cells
  refine ⟨⟨fd, fn_pure (N := N_table_cells) F sc_table_cells (fun ds d h => by cases h; rfl) ?_, F.bindsN fun _ _ _ _ _ _ us hl => match us, hl with | [_, _], _ => rfl⟩, F.kp, T.g_table_cells⟩
  intro cdv A outer s H E hr
  refine ⟨_, (pss_cons (ps_if (pt_not (pt_val (pe_callO (ok_has_item T) (hr.mono (by decide)) rfl (pa_cons (pv 0) (pa_cons (pv 1) pa_nil)))))
 (pss_one (ps_ret (pe_lst (pa_cons (pe_gint rfl T.i_NO_SUCH_ITEM) pa_nil))))
 pss_nil)
 (pss_cons (ps_set (i := 2) sc_table_cells.nd rfl (Or.inl rfl) (pe_ix (r := rIxL K) ix_list (pv 0) (pv 1) (fun _ _ => rfl)))
 (pss_cons (ps_if (pt_not (pt_val (pe_callB (r := rIsi K) call_isi (by rfl) T.f_isinstance (by decide +kernel) (pa_cons (pv 2) (pa_cons (pe_gref rfl T.g_Table) pa_nil)))))
 (pss_one (ps_ret (pe_lst (pa_cons (pe_gint rfl T.i_NOT_A_TABLE) pa_nil))))
 pss_nil)
 (pss_cons (ps_set (i := 3) sc_table_cells.nd rfl (Or.inl rfl) (pe_lst (pa_cons (pe_callB (r := rLenQ K) call_len_seq (by rfl) T.f_len (by decide +kernel) (pa_cons (pe_fldK (K := K) (pv 2) rfl rfl) pa_nil)) (pa_cons (pe_callB (r := rLenQ K) call_len_seq (by rfl) T.f_len (by decide +kernel) (pa_cons (pe_fldK (K := K) (pv 2) rfl rfl) pa_nil)) pa_nil))))
 (pss_cons (ps_for PassesOwn.never rfl (pi_list (pe_op op_cat (pe_lst (pa_cons (pe_fldK (K := K) (pv 2) rfl rfl) pa_nil)) (pe_fldK (K := K) (pv 2) rfl rfl))) (pg_name (i := 4) sc_table_cells.nd rfl (Or.inl rfl))
 (pss_one (ps_for PassesOwn.never rfl (pi_list (pv 4)) (pg_name (i := 5) sc_table_cells.nd rfl (Or.inl rfl))
 (pss_one (ps_expr (pe_bm PySem.F.plainAttrs_list PySem.F.slot_list_extend PySem.F.type_list_extend mt_extend (pv 3) (pa_cons (pe_callO (ok_encode_cell T) (hr.mono (by decide)) rfl (pa_cons (pv 5) pa_nil)) pa_nil)))))))
 (pss_one (ps_ret (pv 3)))))))), ?_⟩
  intro B ds d hR
  obtain ⟨⟩ := hR
  rename_i xs i hv
  have hl := hv.2
  have er0 : qA xs (.cells i) = VanbkhNeutral.encode (match Vanbkh.itemAt ⟨xs⟩ i with | none => .error (-11) | some (.table t) => .numbers (Vanbkh.encodeTable t) | some _ => .error (-12)) := rfl
  refine sd_seq (sd_if (b := !(hasI xs.length i)) (et_is (et_not (et_B (ed_call (ea_cons (ed_var rfl) (ea_cons (ed_var rfl) ea_nil)) (.mk)))) (by rw [List.length_map]; rfl)) (fun h => ?_) (fun h => ?_))
  · refine (sd_ret (en_lst1I ed_int).ed ?_)
    have h' : hasI xs.length i = false := by simpa using h
    rw [er0, itemAt_none h']
    rfl
  refine sd_next ?_
  have h' : hasI xs.length i = true := by simpa using h
  obtain ⟨x, e1, e2, e3, _⟩ := itemAt_some h'
  rw [er0, e1]
  refine sd_seq (sd_asg (ed_ix (d := dIt x) (ds := xs.map dIt) (ed_var rfl) (ed_var rfl) (atI_map dIt e2)) (hlt rfl) ?_)
  refine sd_seq (sd_if (et_not (et_B (ed_isTab T (ed_var rfl)))) (fun h => ?_) (fun h => ?_))
  · refine (sd_ret (en_lst1I ed_int).ed ?_)
    cases x with
    | table t => cases h
    | heading _ _ => rfl
    | paragraph _ => rfl
    | plot _ _ => rfl
    | check _ _ => rfl
    | bars _ => rfl
  refine sd_next ?_
  obtain ⟨t, rfl⟩ := tab_of (x := x) (by simpa using h)
  have v : VT t := hv.1 _ e3
  have vrs := v.rs
  have v8 := v.hi
  have ml : (mRowsH t).length ≤ 25 := by
    show t.rows.length + 1 ≤ 25
    omega
  show SD _ _ _ _ { n := fun _ => D.lst (dI (Vanbkh.encodeTable t)) = .non, r := fun d' _ => d' = D.lst (dI (Vanbkh.encodeTable t)) }
  rw [encodeTable_eq]
  have rowB : ∀ r ∈ mRowsH t, (r.flatMap Vanbkh.encodeCell).length ≤ 1616 := fun r hr => by
    have q := v.row r hr
    have := flat_leI (f := Vanbkh.encodeCell) (c := 202) (l := r) fun c hc => encodeCell_len (q.2 c hc)
    have : 202 * r.length ≤ 202 * 8 := Nat.mul_le_mul_left _ (by omega)
    omega
  refine sd_seq (sd_asgN (en_lst2I (ed_is (ed_lenM (l := t.headers.map Vanbkh.Cell.text) (f := dC) (ed_fld (fs := tbl t) (ed_var rfl) T.k_Table T.n_Table_headers rfl)) (e := .int (t.headers.length : Nat)) (by rw [List.length_map])) (ed_lenM (l := t.rows) (f := dCs) (ed_fld (fs := tbl t) (ed_var rfl) T.k_Table T.n_Table_rows rfl))) (hlt rfl) ?_)
  refine sd_seq (sd_forL (f := dCs) (l := mRowsH t) (dw_listL (ed_is (en_cat (ds := [dCs (t.headers.map .text)]) (es := t.rows.map dCs) (en_lst (ea_cons (ed_fld (fs := tbl t) (ed_var rfl) T.k_Table T.n_Table_headers rfl) ea_nil) (hle rfl)).ed (ed_fld (fs := tbl t) (ed_var rfl) T.k_Table T.n_Table_rows rfl) (by rw [List.length_map]; show 1 + _ ≤ _; omega)).ed rfl)) (fun pre δ => ∃ s1 s2, δ = [.sh (dIts xs), .sh (.int i), .sh (dIt (.table t)), .own (dI ([(t.headers.length : Int), (t.rows.length : Int)] ++ encRows pre)), s1, s2]) ?_ ?_ ?_)
  · exact ⟨_, _, rfl⟩
  · rintro pre r post δ e ⟨s1, s2, rfl⟩
    have hr : r ∈ mRowsH t := by rw [e]; simp
    have hp : pre.length ≤ 25 := by
      have := congrArg List.length e
      simp at this
      omega
    have hb := flat_leI (f := fun r : List Vanbkh.Cell => r.flatMap Vanbkh.encodeCell) (c := 1616) (l := pre) fun y hy => rowB y (by rw [e]; simp [hy])
    have : 1616 * pre.length ≤ 1616 * 25 := Nat.mul_le_mul_left _ hp
    have hb2 : (encRows pre).length ≤ 1616 * 25 := Nat.le_trans hb this
    have vr := v.row r hr
    refine gd_name (hlt rfl) ?_
    refine (sd_forL (f := dC) (l := r) (dw_listL (ed_var rfl)) (fun cp δ => ∃ s, δ = [.sh (dIts xs), .sh (.int i), .sh (dIt (.table t)), .own (dI ([(t.headers.length : Int), (t.rows.length : Int)] ++ encRows pre ++ cp.flatMap Vanbkh.encodeCell)), .sh (dCs r), s]) ?_ ?_ ?_)
    · exact ⟨s2, by simp [dCs]⟩
    · rintro cp c cpost δ e2 ⟨s, rfl⟩
      have hc : c ∈ r := by rw [e2]; simp
      have cl := encodeCell_len (vr.2 c hc)
      have cpl := flat_leI (f := Vanbkh.encodeCell) (c := 202) (l := cp) fun y hy => encodeCell_len (vr.2 y (by rw [e2]; simp [hy]))
      have : cp.length ≤ 8 := by
        have := congrArg List.length e2
        simp at this
        omega
      have : 202 * cp.length ≤ 202 * 8 := Nat.mul_le_mul_left _ this
      refine gd_name (hlt rfl) ?_
      refine (sd_extendI (l := [(t.headers.length : Int), (t.rows.length : Int)] ++ encRows pre ++ cp.flatMap Vanbkh.encodeCell) (m := Vanbkh.encodeCell c) rfl (ed_call (ea_cons (ed_var rfl) ea_nil) (.mk (by omega))) (by rw [List.length_append, List.length_append]; show 2 + _ + _ + _ ≤ _; omega) ?_)
      exact ⟨.sh (dC c), by rw [List.flatMap_append, List.flatMap_singleton, ← List.append_assoc]; rfl⟩
    · rintro δ ⟨s, rfl⟩
      refine ⟨.sh (dCs r), s, ?_⟩
      have e5 : encRows (pre ++ [r]) = encRows pre ++ r.flatMap Vanbkh.encodeCell := by
        unfold encRows
        rw [List.flatMap_append, List.flatMap_singleton]
      rw [e5, ← List.append_assoc]
  rintro δ ⟨s1, s2, rfl⟩
  exact sd_frz 3 rfl (sd_ret (ed_var rfl) rfl)
inductive r_perform_showing : List D → D → Prop
  | mk {xs : List Vanbkh.Item} {n : Int} {is ls : List Int} {c : Vanbkh.Call} (hv : VS xs) (hs : Shows n is c) : r_perform_showing [dIts xs, dCall n is ls] (.lst (dI (qA xs c)))
abbrev N_perform_showing : List Str := ["items", "call", "integers"]
theorem sc_perform_showing : FnScope N_perform_showing ["items", "call"] (defScope (top 168)) := ⟨rfl, rfl, rfl, by decide +kernel, rfl, by decide +kernel, by decide +kernel⟩
theorem ok_perform_showing {Pr : Program} {w : World} {K : PySem.W.Frag} {mg : Str → Option Value} {base : Heap} (T : Tx K mg) : Ok Pr w K mg base 12 "perform_showing" ["items", "call"] (spR K r_perform_showing) := by
  obtain ⟨fd, F⟩ := T.d_perform_showing
  refine ⟨⟨fd, fn_pure (N := N_perform_showing) F sc_perform_showing (fun ds d h => by cases h; rfl) ?_, F.bindsN fun _ _ _ _ _ _ us hl => match us, hl with | [_, _], _ => rfl⟩, F.kp, T.g_perform_showing⟩
  intro cdv A outer s H E hr
  refine ⟨_, (pss_cons (ps_set (i := 2) sc_perform_showing.nd rfl (Or.inl rfl) (pe_fldK (K := K) (pv 1) rfl rfl))
 (pss_cons (ps_if (pt_cmpR op_eq (pe_fldK (K := K) (pv 1) rfl rfl) pe_int (nomark _))
 (pss_one (ps_ret (pe_callO (ok_item_lines T) (hr.mono (by decide)) rfl (pa_cons (pv 0) (pa_cons (pe_ix (r := rIxL K) ix_list (pv 2) pe_int (fun _ _ => rfl)) (pa_cons (pe_ix (r := rIxL K) ix_list (pv 2) pe_int (fun _ _ => rfl)) pa_nil))))))
 pss_nil)
 (pss_cons (ps_if (pt_cmpR op_eq (pe_fldK (K := K) (pv 1) rfl rfl) pe_int (nomark _))
 (pss_one (ps_ret (pe_callO (ok_document_lines T) (hr.mono (by decide)) rfl (pa_cons (pv 0) (pa_cons (pe_ix (r := rIxL K) ix_list (pv 2) pe_int (fun _ _ => rfl)) pa_nil)))))
 pss_nil)
 (pss_cons (ps_if (pt_cmpR op_eq (pe_fldK (K := K) (pv 1) rfl rfl) pe_int (nomark _))
 (pss_one (ps_ret (pe_callO (ok_pages T) (hr.mono (by decide)) rfl (pa_cons (pv 0) (pa_cons (pe_ix (r := rIxL K) ix_list (pv 2) pe_int (fun _ _ => rfl)) (pa_cons (pe_ix (r := rIxL K) ix_list (pv 2) pe_int (fun _ _ => rfl)) pa_nil))))))
 pss_nil)
 (pss_cons (ps_if (pt_cmpR op_eq (pe_fldK (K := K) (pv 1) rfl rfl) pe_int (nomark _))
 (pss_one (ps_ret (pe_callO (ok_column_widths T) (hr.mono (by decide)) rfl (pa_cons (pv 0) (pa_cons (pe_ix (r := rIxL K) ix_list (pv 2) pe_int (fun _ _ => rfl)) (pa_cons (pe_ix (r := rIxL K) ix_list (pv 2) pe_int (fun _ _ => rfl)) pa_nil))))))
 pss_nil)
 (pss_cons (ps_if (pt_cmpR op_eq (pe_fldK (K := K) (pv 1) rfl rfl) pe_int (nomark _))
 (pss_one (ps_ret (pe_callO (ok_item_kinds T) (hr.mono (by decide)) rfl (pa_cons (pv 0) pa_nil))))
 pss_nil)
 (pss_one (ps_ret (pe_callO (ok_table_cells T) (hr.mono (by decide)) rfl (pa_cons (pv 0) (pa_cons (pe_ix (r := rIxL K) ix_list (pv 2) pe_int (fun _ _ => rfl)) pa_nil))))))))))), ?_⟩
  intro B ds d hR
  obtain ⟨⟩ := hR
  rename_i xs n is ls c hv hs
  refine sd_seq (sd_asg (ed_fld (d := .lst (dI is)) (ed_var rfl) T.k_Call T.n_Call_integers rfl) (hlt rfl) ?_)
  cases hs with
  | item i w =>
    refine sd_seq (sd_if (b := true) (et_is (et_test (ed_eq (i := 10) (ed_fld (ed_var rfl) T.k_Call T.n_Call_number rfl) ed_int)) rfl) (fun _ => ?_) (fun z => absurd z (by decide)))
    exact (sd_ret (ed_call (ea_cons (ed_var rfl) (ea_cons (ed_ixN (x := i) (ed_var rfl) ed_int (atI_nat (j := 0) rfl)) (ea_cons (ed_ixN (x := w) (ed_var rfl) ed_int (atI_nat (j := 1) rfl)) ea_nil))) (.mk hv)) rfl)
  | doc w =>
    refine sd_seq (sd_if (b := false) (et_is (et_test (ed_eq (i := 11) (ed_fld (ed_var rfl) T.k_Call T.n_Call_number rfl) ed_int)) rfl) (fun z => absurd z (by decide)) (fun _ => sd_next ?_))
    refine sd_seq (sd_if (b := true) (et_is (et_test (ed_eq (i := 11) (ed_fld (ed_var rfl) T.k_Call T.n_Call_number rfl) ed_int)) rfl) (fun _ => ?_) (fun z => absurd z (by decide)))
    exact (sd_ret (ed_call (ea_cons (ed_var rfl) (ea_cons (ed_ixN (x := w) (ed_var rfl) ed_int (atI_nat (j := 0) rfl)) ea_nil)) (.mk hv)) rfl)
  | pages w h =>
    refine sd_seq (sd_if (b := false) (et_is (et_test (ed_eq (i := 12) (ed_fld (ed_var rfl) T.k_Call T.n_Call_number rfl) ed_int)) rfl) (fun z => absurd z (by decide)) (fun _ => sd_next ?_))
    refine sd_seq (sd_if (b := false) (et_is (et_test (ed_eq (i := 12) (ed_fld (ed_var rfl) T.k_Call T.n_Call_number rfl) ed_int)) rfl) (fun z => absurd z (by decide)) (fun _ => sd_next ?_))
    refine sd_seq (sd_if (b := true) (et_is (et_test (ed_eq (i := 12) (ed_fld (ed_var rfl) T.k_Call T.n_Call_number rfl) ed_int)) rfl) (fun _ => ?_) (fun z => absurd z (by decide)))
    exact (sd_ret (ed_call (ea_cons (ed_var rfl) (ea_cons (ed_ixN (x := w) (ed_var rfl) ed_int (atI_nat (j := 0) rfl)) (ea_cons (ed_ixN (x := h) (ed_var rfl) ed_int (atI_nat (j := 1) rfl)) ea_nil))) (.mk hv)) rfl)
  | widths i w =>
    refine sd_seq (sd_if (b := false) (et_is (et_test (ed_eq (i := 13) (ed_fld (ed_var rfl) T.k_Call T.n_Call_number rfl) ed_int)) rfl) (fun z => absurd z (by decide)) (fun _ => sd_next ?_))
    refine sd_seq (sd_if (b := false) (et_is (et_test (ed_eq (i := 13) (ed_fld (ed_var rfl) T.k_Call T.n_Call_number rfl) ed_int)) rfl) (fun z => absurd z (by decide)) (fun _ => sd_next ?_))
    refine sd_seq (sd_if (b := false) (et_is (et_test (ed_eq (i := 13) (ed_fld (ed_var rfl) T.k_Call T.n_Call_number rfl) ed_int)) rfl) (fun z => absurd z (by decide)) (fun _ => sd_next ?_))
    refine sd_seq (sd_if (b := true) (et_is (et_test (ed_eq (i := 13) (ed_fld (ed_var rfl) T.k_Call T.n_Call_number rfl) ed_int)) rfl) (fun _ => ?_) (fun z => absurd z (by decide)))
    exact (sd_ret (ed_call (ea_cons (ed_var rfl) (ea_cons (ed_ixN (x := i) (ed_var rfl) ed_int (atI_nat (j := 0) rfl)) (ea_cons (ed_ixN (x := w) (ed_var rfl) ed_int (atI_nat (j := 1) rfl)) ea_nil))) (.mk hv)) rfl)
  | kinds =>
    refine sd_seq (sd_if (b := false) (et_is (et_test (ed_eq (i := 15) (ed_fld (ed_var rfl) T.k_Call T.n_Call_number rfl) ed_int)) rfl) (fun z => absurd z (by decide)) (fun _ => sd_next ?_))
    refine sd_seq (sd_if (b := false) (et_is (et_test (ed_eq (i := 15) (ed_fld (ed_var rfl) T.k_Call T.n_Call_number rfl) ed_int)) rfl) (fun z => absurd z (by decide)) (fun _ => sd_next ?_))
    refine sd_seq (sd_if (b := false) (et_is (et_test (ed_eq (i := 15) (ed_fld (ed_var rfl) T.k_Call T.n_Call_number rfl) ed_int)) rfl) (fun z => absurd z (by decide)) (fun _ => sd_next ?_))
    refine sd_seq (sd_if (b := false) (et_is (et_test (ed_eq (i := 15) (ed_fld (ed_var rfl) T.k_Call T.n_Call_number rfl) ed_int)) rfl) (fun z => absurd z (by decide)) (fun _ => sd_next ?_))
    refine sd_seq (sd_if (b := true) (et_is (et_test (ed_eq (i := 15) (ed_fld (ed_var rfl) T.k_Call T.n_Call_number rfl) ed_int)) rfl) (fun _ => ?_) (fun z => absurd z (by decide)))
    exact (sd_ret (ed_call (ea_cons (ed_var rfl) ea_nil) (.mk hv)) rfl)
  | cells i =>
    refine sd_seq (sd_if (b := false) (et_is (et_test (ed_eq (i := 16) (ed_fld (ed_var rfl) T.k_Call T.n_Call_number rfl) ed_int)) rfl) (fun z => absurd z (by decide)) (fun _ => sd_next ?_))
    refine sd_seq (sd_if (b := false) (et_is (et_test (ed_eq (i := 16) (ed_fld (ed_var rfl) T.k_Call T.n_Call_number rfl) ed_int)) rfl) (fun z => absurd z (by decide)) (fun _ => sd_next ?_))
    refine sd_seq (sd_if (b := false) (et_is (et_test (ed_eq (i := 16) (ed_fld (ed_var rfl) T.k_Call T.n_Call_number rfl) ed_int)) rfl) (fun z => absurd z (by decide)) (fun _ => sd_next ?_))
    refine sd_seq (sd_if (b := false) (et_is (et_test (ed_eq (i := 16) (ed_fld (ed_var rfl) T.k_Call T.n_Call_number rfl) ed_int)) rfl) (fun z => absurd z (by decide)) (fun _ => sd_next ?_))
    refine sd_seq (sd_if (b := false) (et_is (et_test (ed_eq (i := 16) (ed_fld (ed_var rfl) T.k_Call T.n_Call_number rfl) ed_int)) rfl) (fun z => absurd z (by decide)) (fun _ => sd_next ?_))
    exact (sd_ret (ed_call (ea_cons (ed_var rfl) (ea_cons (ed_ixN (x := i) (ed_var rfl) ed_int (atI_nat (j := 0) rfl)) ea_nil)) (.mk hv)) rfl)
end Rl
namespace Rl
open PySem PySem.Spec PyProof.Rows L2 Dg

abbrev N_append_item : List Str := ["items", "item"]
theorem sc_append_item : FnScope N_append_item ["items", "item"] (defScope (top 104)) := ⟨rfl, rfl, rfl, by decide +kernel, rfl, by decide +kernel, by decide +kernel⟩
theorem ok_append_item {Pr : Program} {w : World} {K : PySem.W.Frag} {mg : Str → Option Value} {base : Heap} (T : Tx K mg) : Ok Pr w K mg base 1 "append_item" ["items", "item"] spApp := by
  obtain ⟨fd, F⟩ := T.d_append_item
  refine ⟨⟨fd, F.ok sc_append_item (fun vs H Q E h => ?_) (fun cdv A outer s H vs Q E hr h => ⟨_, PSs.nox (pss_cons (ps_expr (pe_bm PySem.F.plainAttrs_list PySem.F.slot_list_append PySem.F.type_list_append mt_append (pv 0) (pa_cons (pv 1) pa_nil)))
 (pss_one (ps_ret (pe_lst (pa_cons (pe_op op_sub (pe_callB (r := rLenQ K) call_len_seq (by rfl) T.f_len (by decide +kernel) (pa_cons (pv 0) pa_nil)) pe_int) pa_nil))))), ?_⟩), F.bindsN fun _ _ _ _ _ _ us hl => match us, hl with | [_, _], _ => rfl⟩, F.kp, T.g_append_item⟩
  · obtain ⟨p, zs, y, rfl, _⟩ := h
    rfl
  · obtain ⟨p, zs, y, rfl, hp, hl, q⟩ := h
    refine ⟨.ref p, rfl, .inl ⟨rfl, _, .of hp⟩, y, rfl, p, zs, y, rfl, rfl, hp, sz_lt (by omega), ?_⟩
    refine ⟨.ref p, rfl, p, zs ++ [y], rfl, .inl (.of upd_same), ((zs ++ [y]).length : Int), 1, rfl, rfl, ?_⟩
    refine ⟨by show 1 ≤ sizeLine; decide, fun l hl2 => ?_⟩
    have e : ((zs ++ [y]).length : Int) - 1 = zs.length := by simp
    show Q (.ref l) (upd (upd H p (.lst (zs ++ [y]))) l (.lst [V.int (((zs ++ [y]).length : Int) - 1)]))
    rw [e]
    exact q l hl2
def stA (s : List Vanbkh.Item) (c : Vanbkh.Call) : List Int := VanbkhNeutral.encode (Vanbkh.step ⟨s⟩ c).2
def stS (s : List Vanbkh.Item) (c : Vanbkh.Call) : List Vanbkh.Item := (Vanbkh.step ⟨s⟩ c).1.items
theorem app2 (s : Vanbkh.State) (a b : Bool) (n m : Int) (x : Vanbkh.Item) : Vanbkh.appendItem s [(a, n), (b, m)] x = if a = true then (s, .error n) else if b = true then (s, .error m) else ({ items := s.items ++ [x] }, .numbers [Vanbkh.ofNat s.items.length]) := by cases a <;> cases b <;> rfl
theorem app3 (s : Vanbkh.State) (a b c : Bool) (n m k : Int) (x : Vanbkh.Item) : Vanbkh.appendItem s [(a, n), (b, m), (c, k)] x = if a = true then (s, .error n) else if b = true then (s, .error m) else if c = true then (s, .error k) else ({ items := s.items ++ [x] }, .numbers [Vanbkh.ofNat s.items.length]) := by cases a <;> cases b <;> cases c <;> rfl
theorem app4 (s : Vanbkh.State) (a b c d : Bool) (n m k j : Int) (x : Vanbkh.Item) : Vanbkh.appendItem s [(a, n), (b, m), (c, k), (d, j)] x = if a = true then (s, .error n) else if b = true then (s, .error m) else if c = true then (s, .error k) else if d = true then (s, .error j) else ({ items := s.items ++ [x] }, .numbers [Vanbkh.ofNat s.items.length]) := by cases a <;> cases b <;> cases c <;> cases d <;> rfl
theorem app5 (s : Vanbkh.State) (a b c d e : Bool) (n m k j i : Int) (x : Vanbkh.Item) : Vanbkh.appendItem s [(a, n), (b, m), (c, k), (d, j), (e, i)] x = if a = true then (s, .error n) else if b = true then (s, .error m) else if c = true then (s, .error k) else if d = true then (s, .error j) else if e = true then (s, .error i) else ({ items := s.items ++ [x] }, .numbers [Vanbkh.ofNat s.items.length]) := by cases a <;> cases b <;> cases c <;> cases d <;> cases e <;> rfl
theorem ei_is {K : PySem.W.Frag} {B : Bs} {δ : List Sl} {te : TE} {a b : It0} (h : EI K B δ te a) (q : a = b) : EI K B δ te b := q ▸ h
inductive r_is_full : List D → D → Prop
  | mk {ds : List D} : r_is_full [.lst ds] (.bl (decide ((12 : Int) ≤ ds.length)))
abbrev N_is_full : List Str := ["items"]
theorem sc_is_full : FnScope N_is_full ["items"] (defScope (top 103)) := ⟨rfl, rfl, rfl, by decide +kernel, rfl, by decide +kernel, by decide +kernel⟩
theorem ok_is_full {Pr : Program} {w : World} {K : PySem.W.Frag} {mg : Str → Option Value} {base : Heap} (T : Tx K mg) : Ok Pr w K mg base 1 "is_full" ["items"] (spR K r_is_full) := by
  obtain ⟨fd, F⟩ := T.d_is_full
  refine ⟨⟨fd, fn_pure (N := N_is_full) F sc_is_full (fun ds d h => by cases h; rfl) ?_, F.bindsN fun _ _ _ _ _ _ us hl => match us, hl with | [_], _ => rfl⟩, F.kp, T.g_is_full⟩
  intro cdv A outer s H E hr
  refine ⟨_, (pss_one (ps_ret (pe_cmpR op_ge (pe_callB (r := rLenQ K) call_len_seq (by rfl) T.f_len (by decide +kernel) (pa_cons (pv 0) pa_nil)) (pe_gint rfl T.i_MOST_ITEMS) (nomark _)))), ?_⟩
  intro B ds d hR
  obtain ⟨⟩ := hR
  exact (sd_ret (ed_ge (ed_lenL (ed_var rfl)) ed_int) rfl)
theorem isFull_eq (s : List Vanbkh.Item) : decide ((12 : Int) ≤ (((s.map itC).map obD).length : Nat)) = Vanbkh.isFull ⟨s⟩ := by
  unfold Vanbkh.isFull Vanbkh.maxItems
  rw [List.length_map, List.length_map]
  exact decide_eq_decide.mpr (by show (12 : Int) ≤ s.length ↔ 12 ≤ s.length; omega)
theorem notFull {s : List Vanbkh.Item} (h : Vanbkh.isFull ⟨s⟩ = false) : s.length < 12 := by
  unfold Vanbkh.isFull Vanbkh.maxItems at h
  have := of_decide_eq_false h
  have h2 : ¬ 12 ≤ s.length := this
  omega
theorem st_len {xs : List Addr} {s : List Vanbkh.Item} {K : PySem.W.Frag} {G H : Hp} (h : Paired (ItA K G H) xs (s.map itC)) : xs.length = s.length := by rw [paired_len h, List.length_map]
inductive r_add_heading : List It0 → List D → D → List It0 → Prop
  | mk {s : List Vanbkh.Item} {k : Int} {l : List Int} (h : l.length ≤ 100000) : r_add_heading (s.map itC) [.int k, .lst (dI l)] (.lst (dI (stA s (.addHeading k l)))) ((stS s (.addHeading k l)).map itC)
abbrev N_add_heading : List Str := ["items", "level", "text"]
theorem sc_add_heading : FnScope N_add_heading ["items", "level", "text"] (defScope (top 105)) := ⟨rfl, rfl, rfl, by decide +kernel, rfl, by decide +kernel, by decide +kernel⟩
theorem ok_add_heading {Pr : Program} {w : World} {K : PySem.W.Frag} {mg : Str → Option Value} {base : Heap} (T : Tx K mg) : Ok Pr w K mg base 4 "add_heading" ["items", "level", "text"] (spS K r_add_heading) := by
  obtain ⟨fd, F⟩ := T.d_add_heading
  refine ⟨⟨fd, fn_state (N := N_add_heading) F sc_add_heading (fun its ds d its2 h => by cases h; rfl) ?_, F.bindsN fun _ _ _ _ _ _ us hl => match us, hl with | [_, _, _], _ => rfl⟩, F.kp, T.g_add_heading⟩
  intro cdv A outer s H E hr
  refine ⟨_, (pss_cons (ps_if (pt_val (pe_callO (ok_is_full T) (hr.mono (by decide)) rfl (pa_cons (pv 0) pa_nil)))
 (pss_one (ps_ret (pe_lst (pa_cons (pe_gint rfl T.i_TOO_MANY_ITEMS) pa_nil))))
 pss_nil)
 (pss_cons (ps_if (pt_not (pt_val (pe_callO (ok_is_within T) (hr.mono (by decide)) rfl (pa_cons (pv 1) (pa_cons pe_int (pa_cons pe_int pa_nil))))))
 (pss_one (ps_ret (pe_lst (pa_cons (pe_gint rfl T.i_BAD_LEVEL) pa_nil))))
 pss_nil)
 (pss_cons (ps_if (pt_not (pt_val (pe_callO (ok_is_text T) (hr.mono (by decide)) rfl (pa_cons (pv 2) pa_nil))))
 (pss_one (ps_ret (pe_lst (pa_cons (pe_gint rfl T.i_NOT_A_TEXT) pa_nil))))
 pss_nil)
 (pss_one (ps_ret (pe_callO (ok_append_item T) (hr.mono (by decide)) rfl (pa_cons (pv 0) (pa_cons (pe_makeO (ok_Heading T) (hr.mono (by decide)) rfl (pa_cons (pv 1) (pa_cons (pe_callTy (r := rTupleQ K) call_tuple_of (by rfl) T.f_tuple (by decide +kernel) (pa_cons (pv 2) pa_nil)) pa_nil))) pa_nil)))))))), ?_⟩
  intro B p xs its ds d its2 hR
  obtain ⟨⟩ := hR
  rename_i s k l hl
  have e : Vanbkh.step ⟨s⟩ (.addHeading k l) = _ := app3 ⟨s⟩ (Vanbkh.isFull ⟨s⟩) (!Vanbkh.isBetween k 1 3) (!Vanbkh.isText l) (-1) (-2) (-3) (.heading k.toNat (Vanbkh.bytesOf l))
  unfold stA stS
  rw [e]
  refine sd_seq (sd_if (b := Vanbkh.isFull ⟨s⟩) (et_is (et_B (ed_callS rfl ea_nil .mk)) (isFull_eq s)) (fun h => ?_) (fun h => ?_))
  · rw [if_pos h]
    exact (sd_ret (en_lst1I ed_int).ed ⟨rfl, _, rfl⟩)
  refine sd_next ?_
  have nf := notFull h
  rw [if_neg (by rw [h]; simp)]
  refine sd_seq (sd_if (b := !Vanbkh.isBetween k 1 3) (et_not (et_B (ed_call (ea_cons (ed_var rfl) (ea_cons ed_int (ea_cons ed_int ea_nil))) (.mk)))) (fun h => ?_) (fun h => ?_))
  · rw [if_pos h]
    exact (sd_ret (en_lst1I ed_int).ed ⟨rfl, _, rfl⟩)
  refine sd_next ?_
  rw [if_neg (by rw [h]; simp)]
  have hb : 1 ≤ k ∧ k ≤ 3 := by
    unfold Vanbkh.isBetween at h
    simpa using h
  refine sd_seq (sd_if (b := !Vanbkh.isText l) (et_is (et_not (et_B (ed_call (ea_cons (ed_var rfl) ea_nil) (.mk hl)))) (by rw [mIsText_eq])) (fun h => ?_) (fun h => ?_))
  · rw [if_pos h]
    exact (sd_ret (en_lst1I ed_int).ed ⟨rfl, _, rfl⟩)
  refine sd_next ?_
  rw [if_neg (by rw [h]; simp)]
  have ht : mIsText l = true := by rw [mIsText_eq]; simpa using h
  refine sd_lenSt (i := 0) rfl fun hxs => ?_
  refine (sd_retApp (it := itC (.heading k.toNat (Vanbkh.bytesOf l))) (i := 0) rfl (ei_is (ei_make (fs := [("kind", .int 0), ("level", .int k), ("text", .tup (dI l))]) (ea_cons (ed_var rfl) (ea_cons (ed_tuple (ed_var rfl)) ea_nil)) rfl (fun G vs hv => ?_)) ?_) ?_ (fun x => ⟨?_, xs ++ [x], ?_⟩))
  · obtain ⟨a, b, rfl, ax, ay⟩ := fv2 hv
    exact .cons .int (.cons ax (.cons ay .nil))
  · show (("Heading" : Str), [(("kind" : Str), D.int 0), ("level", D.int k), ("text", D.tup (dI l))]) = (("Heading" : Str), [(("kind" : Str), D.int 0), ("level", D.int (k.toNat : Nat)), ("text", D.tup (dI (bI (Vanbkh.bytesOf l))))])
    rw [text_bytes ht, show ((k.toNat : Nat) : Int) = k by omega]
  · rw [hxs, List.length_map]
    omega
  · rw [List.length_map]
    rfl
  · show some _ = _
    rw [List.map_append]
    rfl
inductive r_add_paragraph : List It0 → List D → D → List It0 → Prop
  | mk {s : List Vanbkh.Item} {l : List Int} (h : l.length ≤ 100000) : r_add_paragraph (s.map itC) [.lst (dI l)] (.lst (dI (stA s (.addParagraph l)))) ((stS s (.addParagraph l)).map itC)
abbrev N_add_paragraph : List Str := ["items", "text"]
theorem sc_add_paragraph : FnScope N_add_paragraph ["items", "text"] (defScope (top 106)) := ⟨rfl, rfl, rfl, by decide +kernel, rfl, by decide +kernel, by decide +kernel⟩
theorem ok_add_paragraph {Pr : Program} {w : World} {K : PySem.W.Frag} {mg : Str → Option Value} {base : Heap} (T : Tx K mg) : Ok Pr w K mg base 4 "add_paragraph" ["items", "text"] (spS K r_add_paragraph) := by
  obtain ⟨fd, F⟩ := T.d_add_paragraph
  refine ⟨⟨fd, fn_state (N := N_add_paragraph) F sc_add_paragraph (fun its ds d its2 h => by cases h; rfl) ?_, F.bindsN fun _ _ _ _ _ _ us hl => match us, hl with | [_, _], _ => rfl⟩, F.kp, T.g_add_paragraph⟩
  intro cdv A outer s H E hr
  refine ⟨_, (pss_cons (ps_if (pt_val (pe_callO (ok_is_full T) (hr.mono (by decide)) rfl (pa_cons (pv 0) pa_nil)))
 (pss_one (ps_ret (pe_lst (pa_cons (pe_gint rfl T.i_TOO_MANY_ITEMS) pa_nil))))
 pss_nil)
 (pss_cons (ps_if (pt_not (pt_val (pe_callO (ok_is_text T) (hr.mono (by decide)) rfl (pa_cons (pv 1) pa_nil))))
 (pss_one (ps_ret (pe_lst (pa_cons (pe_gint rfl T.i_NOT_A_TEXT) pa_nil))))
 pss_nil)
 (pss_one (ps_ret (pe_callO (ok_append_item T) (hr.mono (by decide)) rfl (pa_cons (pv 0) (pa_cons (pe_makeO (ok_Paragraph T) (hr.mono (by decide)) rfl (pa_cons (pe_callTy (r := rTupleQ K) call_tuple_of (by rfl) T.f_tuple (by decide +kernel) (pa_cons (pv 1) pa_nil)) pa_nil)) pa_nil))))))), ?_⟩
  intro B p xs its ds d its2 hR
  obtain ⟨⟩ := hR
  rename_i s l hl
  have e : Vanbkh.step ⟨s⟩ (.addParagraph l) = _ := app2 ⟨s⟩ (Vanbkh.isFull ⟨s⟩) (!Vanbkh.isText l) (-1) (-3) (.paragraph (Vanbkh.bytesOf l))
  unfold stA stS
  rw [e]
  refine sd_seq (sd_if (b := Vanbkh.isFull ⟨s⟩) (et_is (et_B (ed_callS rfl ea_nil .mk)) (isFull_eq s)) (fun h => ?_) (fun h => ?_))
  · rw [if_pos h]
    exact (sd_ret (en_lst1I ed_int).ed ⟨rfl, _, rfl⟩)
  refine sd_next ?_
  have nf := notFull h
  rw [if_neg (by rw [h]; simp)]
  refine sd_seq (sd_if (b := !Vanbkh.isText l) (et_is (et_not (et_B (ed_call (ea_cons (ed_var rfl) ea_nil) (.mk hl)))) (by rw [mIsText_eq])) (fun h => ?_) (fun h => ?_))
  · rw [if_pos h]
    exact (sd_ret (en_lst1I ed_int).ed ⟨rfl, _, rfl⟩)
  refine sd_next ?_
  rw [if_neg (by rw [h]; simp)]
  have ht : mIsText l = true := by rw [mIsText_eq]; simpa using h
  refine sd_lenSt (i := 0) rfl fun hxs => ?_
  refine (sd_retApp (it := itC (.paragraph (Vanbkh.bytesOf l))) (i := 0) rfl (ei_is (ei_make (fs := [("kind", .int 1), ("text", .tup (dI l))]) (ea_cons (ed_tuple (ed_var rfl)) ea_nil) rfl (fun G vs hv => ?_)) ?_) ?_ (fun x => ⟨?_, xs ++ [x], ?_⟩))
  · obtain ⟨a, rfl, ax⟩ := hv.one
    exact .cons .int (.cons ax .nil)
  · show (("Paragraph" : Str), [(("kind" : Str), D.int 1), ("text", D.tup (dI l))]) = (("Paragraph" : Str), [(("kind" : Str), D.int 1), ("text", D.tup (dI (bI (Vanbkh.bytesOf l))))])
    rw [text_bytes ht]
  · rw [hxs, List.length_map]
    omega
  · rw [List.length_map]
    rfl
  · show some _ = _
    rw [List.map_append]
    rfl
inductive r_add_check : List It0 → List D → D → List It0 → Prop
  | mk {s : List Vanbkh.Item} {k : Int} {l : List Int} (h : l.length ≤ 100000) : r_add_check (s.map itC) [.int k, .lst (dI l)] (.lst (dI (stA s (.addCheck k l)))) ((stS s (.addCheck k l)).map itC)
abbrev N_add_check : List Str := ["items", "passed", "text"]
theorem sc_add_check : FnScope N_add_check ["items", "passed", "text"] (defScope (top 112)) := ⟨rfl, rfl, rfl, by decide +kernel, rfl, by decide +kernel, by decide +kernel⟩
theorem ok_add_check {Pr : Program} {w : World} {K : PySem.W.Frag} {mg : Str → Option Value} {base : Heap} (T : Tx K mg) : Ok Pr w K mg base 4 "add_check" ["items", "passed", "text"] (spS K r_add_check) := by
  obtain ⟨fd, F⟩ := T.d_add_check
  refine ⟨⟨fd, fn_state (N := N_add_check) F sc_add_check (fun its ds d its2 h => by cases h; rfl) ?_, F.bindsN fun _ _ _ _ _ _ us hl => match us, hl with | [_, _, _], _ => rfl⟩, F.kp, T.g_add_check⟩
  intro cdv A outer s H E hr
  refine ⟨_, (pss_cons (ps_if (pt_val (pe_callO (ok_is_full T) (hr.mono (by decide)) rfl (pa_cons (pv 0) pa_nil)))
 (pss_one (ps_ret (pe_lst (pa_cons (pe_gint rfl T.i_TOO_MANY_ITEMS) pa_nil))))
 pss_nil)
 (pss_cons (ps_if (pt_not (pt_val (pe_callO (ok_is_within T) (hr.mono (by decide)) rfl (pa_cons (pv 1) (pa_cons pe_int (pa_cons pe_int pa_nil))))))
 (pss_one (ps_ret (pe_lst (pa_cons (pe_gint rfl T.i_NOT_ZERO_OR_ONE) pa_nil))))
 pss_nil)
 (pss_cons (ps_if (pt_not (pt_val (pe_callO (ok_is_text T) (hr.mono (by decide)) rfl (pa_cons (pv 2) pa_nil))))
 (pss_one (ps_ret (pe_lst (pa_cons (pe_gint rfl T.i_NOT_A_TEXT) pa_nil))))
 pss_nil)
 (pss_one (ps_ret (pe_callO (ok_append_item T) (hr.mono (by decide)) rfl (pa_cons (pv 0) (pa_cons (pe_makeO (ok_Check T) (hr.mono (by decide)) rfl (pa_cons (pv 1) (pa_cons (pe_callTy (r := rTupleQ K) call_tuple_of (by rfl) T.f_tuple (by decide +kernel) (pa_cons (pv 2) pa_nil)) pa_nil))) pa_nil)))))))), ?_⟩
  intro B p xs its ds d its2 hR
  obtain ⟨⟩ := hR
  rename_i s k l hl
  have e : Vanbkh.step ⟨s⟩ (.addCheck k l) = _ := app3 ⟨s⟩ (Vanbkh.isFull ⟨s⟩) (!Vanbkh.isBetween k 0 1) (!Vanbkh.isText l) (-1) (-10) (-3) (.check (k == 1) (Vanbkh.bytesOf l))
  unfold stA stS
  rw [e]
  refine sd_seq (sd_if (b := Vanbkh.isFull ⟨s⟩) (et_is (et_B (ed_callS rfl ea_nil .mk)) (isFull_eq s)) (fun h => ?_) (fun h => ?_))
  · rw [if_pos h]
    exact (sd_ret (en_lst1I ed_int).ed ⟨rfl, _, rfl⟩)
  refine sd_next ?_
  have nf := notFull h
  rw [if_neg (by rw [h]; simp)]
  refine sd_seq (sd_if (b := !Vanbkh.isBetween k 0 1) (et_not (et_B (ed_call (ea_cons (ed_var rfl) (ea_cons ed_int (ea_cons ed_int ea_nil))) (.mk)))) (fun h => ?_) (fun h => ?_))
  · rw [if_pos h]
    exact (sd_ret (en_lst1I ed_int).ed ⟨rfl, _, rfl⟩)
  refine sd_next ?_
  rw [if_neg (by rw [h]; simp)]
  have hb : 0 ≤ k ∧ k ≤ 1 := by
    unfold Vanbkh.isBetween at h
    simpa using h
  refine sd_seq (sd_if (b := !Vanbkh.isText l) (et_is (et_not (et_B (ed_call (ea_cons (ed_var rfl) ea_nil) (.mk hl)))) (by rw [mIsText_eq])) (fun h => ?_) (fun h => ?_))
  · rw [if_pos h]
    exact (sd_ret (en_lst1I ed_int).ed ⟨rfl, _, rfl⟩)
  refine sd_next ?_
  rw [if_neg (by rw [h]; simp)]
  have ht : mIsText l = true := by rw [mIsText_eq]; simpa using h
  refine sd_lenSt (i := 0) rfl fun hxs => ?_
  refine (sd_retApp (it := itC (.check (k == 1) (Vanbkh.bytesOf l))) (i := 0) rfl (ei_is (ei_make (fs := [("kind", .int 4), ("passed", .int k), ("text", .tup (dI l))]) (ea_cons (ed_var rfl) (ea_cons (ed_tuple (ed_var rfl)) ea_nil)) rfl (fun G vs hv => ?_)) ?_) ?_ (fun x => ⟨?_, xs ++ [x], ?_⟩))
  · obtain ⟨a, b, rfl, ax, ay⟩ := fv2 hv
    exact .cons .int (.cons ax (.cons ay .nil))
  · show (("Check" : Str), [(("kind" : Str), D.int 4), ("passed", D.int k), ("text", D.tup (dI l))]) = (("Check" : Str), [(("kind" : Str), D.int 4), ("passed", D.int (if (k == 1) = true then 1 else 0)), ("text", D.tup (dI (bI (Vanbkh.bytesOf l))))])
    have ek : (if (k == 1) = true then (1 : Int) else 0) = k := by
      rcases (by omega : k = 0 ∨ k = 1) with rfl | rfl <;> rfl
    rw [text_bytes ht, ek]
  · rw [hxs, List.length_map]
    omega
  · rw [List.length_map]
    rfl
  · show some _ = _
    rw [List.map_append]
    rfl
inductive r_is_coordinate : List D → D → Prop
  | mk {z : Int} : r_is_coordinate [.int z] (.bl (Vanbkh.isBetween z (1 - Vanbkh.limit) (Vanbkh.limit - 1)))
abbrev N_is_coordinate : List Str := ["number"]
theorem sc_is_coordinate : FnScope N_is_coordinate ["number"] (defScope (top 109)) := ⟨rfl, rfl, rfl, by decide +kernel, rfl, by decide +kernel, by decide +kernel⟩
theorem ok_is_coordinate {Pr : Program} {w : World} {K : PySem.W.Frag} {mg : Str → Option Value} {base : Heap} (T : Tx K mg) : Ok Pr w K mg base 2 "is_coordinate" ["number"] (spR K r_is_coordinate) := by
  obtain ⟨fd, F⟩ := T.d_is_coordinate
  refine ⟨⟨fd, fn_pure (N := N_is_coordinate) F sc_is_coordinate (fun ds d h => by cases h; rfl) ?_, F.bindsN fun _ _ _ _ _ _ us hl => match us, hl with | [_], _ => rfl⟩, F.kp, T.g_is_coordinate⟩
  intro cdv A outer s H E hr
  refine ⟨_, (pss_one (ps_ret (pe_callO (ok_is_within T) (hr.mono (by decide)) rfl (pa_cons (pv 0) (pa_cons (pe_un un_neg (pe_gint rfl T.i_GREATEST_NUMBER)) (pa_cons (pe_gint rfl T.i_GREATEST_NUMBER) pa_nil)))))), ?_⟩
  intro B ds d hR
  obtain ⟨⟩ := hR
  exact (sd_ret (ed_call (ea_cons (ed_var rfl) (ea_cons (ed_neg ed_int) (ea_cons ed_int ea_nil))) (.mk)) rfl)
theorem pts_get : ∀ (n : Nat) (l : List Int), l.length = 2 * n → (Vanbkh.pointsOf l).length = n ∧ ∀ i, i < n → ∃ x y, l[2 * i]? = some x ∧ l[2 * i + 1]? = some y ∧ (Vanbkh.pointsOf l)[i]? = some (x, y)
  | 0, l, h => by
    have : l = [] := List.length_eq_zero_iff.mp (by omega)
    subst this
    exact ⟨rfl, fun i hi => by omega⟩
  | n + 1, l, h => by
    match l, h with
    | x :: y :: r, h =>
      obtain ⟨h1, h2⟩ := pts_get n r (by simp at h; omega)
      refine ⟨by show (Vanbkh.pointsOf r).length + 1 = n + 1; rw [h1], fun i hi => ?_⟩
      cases i with
      | zero => exact ⟨x, y, rfl, rfl, rfl⟩
      | succ i =>
        obtain ⟨a, b, q1, q2, q3⟩ := h2 i (by omega)
        exact ⟨a, b, q1, q2, q3⟩
    | [x], h => simp at h; omega
    | [], h => simp at h
inductive r_split_into_points : List D → D → Prop
  | mk {l : List Int} {n : Nat} (h : l.length = 2 * n) (hn : n ≤ 1000) : r_split_into_points [.lst (dI l)] (.lst ((Vanbkh.pointsOf l).map dPt))
abbrev N_split_into_points : List Str := ["coordinates", "place"]
theorem sc_split_into_points : FnScope N_split_into_points ["coordinates"] (defScope (top 110)) := ⟨rfl, rfl, rfl, by decide +kernel, rfl, by decide +kernel, by decide +kernel⟩
theorem ok_split_into_points {Pr : Program} {w : World} {K : PySem.W.Frag} {mg : Str → Option Value} {base : Heap} (T : Tx K mg) : Ok Pr w K mg base 1 "split_into_points" ["coordinates"] (spR K r_split_into_points) := by
  obtain ⟨fd, F⟩ := T.d_split_into_points
  refine ⟨⟨fd, fn_pure (N := N_split_into_points) F sc_split_into_points (fun ds d h => by cases h; rfl) ?_, F.bindsN fun _ _ _ _ _ _ us hl => match us, hl with | [_], _ => rfl⟩, F.kp, T.g_split_into_points⟩
  intro cdv A outer s H E hr
  refine ⟨_, (pss_one (ps_ret (pe_lc (own := [("place", 1)]) (g := gName 1) (tt := tYes) rfl sc_split_into_points.nd (pi_range3 (by rfl) T.f_range (pa_cons pe_int (pa_cons (pe_callB (r := rLenQ K) call_len_seq (by rfl) T.f_len (by decide +kernel) (pa_cons (pv 0) pa_nil)) (pa_cons pe_int pa_nil)))) (blkOk_by (own := [("place", 1)]) (N := N_split_into_points) (sc := (defScope (top 110))) (by decide +kernel)) (fun _ _ _ _ _ => pg_name (i := 1) sc_split_into_points.nd rfl (Or.inl rfl)) (fun _ _ _ _ _ => pts_nil) (fun _ _ _ _ _ => (pe_tup (pa_cons (pe_ix (r := rIxL K) ix_list (pv 0) (pv 1) (fun _ _ => rfl)) (pa_cons (pe_ix (r := rIxL K) ix_list (pv 0) (pe_op op_add (pv 1) pe_int) (fun _ _ => rfl)) pa_nil))))))), ?_⟩
  intro B ds d hR
  obtain ⟨⟩ := hR
  rename_i l n hl hn
  obtain ⟨p1, p2⟩ := pts_get n l hl
  have ec : (l.length + 2 - 1) / 2 = n := by omega
  have rg := cut_rg (n := 2) (m := l.length) (by omega) (by omega) (by omega)
  rw [ec] at rg
  refine (sd_ret (en_is (es := (Vanbkh.pointsOf l).map dPt) (en_lc (g := fun i => dPt ((Vanbkh.pointsOf l).getD i (0, 0))) (dw_rng3 ed_int (ed_lenN (ed_var rfl)) ed_int rg) rfl rfl (fun i hi => ?_) (by omega)) ?_).ed rfl)
  · obtain ⟨x, y, q1, q2, q3⟩ := p2 i hi
    have e3 : (Vanbkh.pointsOf l).getD i (0, 0) = (x, y) := by rw [List.getD_eq_getElem?_getD, q3]; rfl
    rw [e3]
    have ei : ((0 : Int) + (i : Int) * 2) = ((2 * i : Nat) : Int) := by omega
    refine (ed_tup (ea_cons (ed_ixN (x := x) (ed_var rfl) (ed_is (ed_var rfl) (e := .int ((2 * i : Nat) : Int)) (congrArg D.int ei)) (atI_nat q1)) (ea_cons (ed_ixN (x := y) (ed_var rfl) (ed_is (ed_add (ed_var rfl) ed_int) (e := .int ((2 * i + 1 : Nat) : Int)) (by congr 1; omega)) (atI_nat q2)) ea_nil)) (hle rfl))
  · apply List.ext_getElem
    · simp [p1]
    · intro i h1 h2
      simp [List.getD_eq_getElem?_getD]
      rw [List.getElem?_eq_getElem (by simpa using h2)]
      rfl
theorem not_all {α : Type} (f : α → Bool) : ∀ l : List α, (!l.all f) = l.any fun x => !f x
  | [] => rfl
  | a :: l => by
    rw [List.all_cons, List.any_cons, ← not_all f l, Bool.not_and]
inductive r_add_plot : List It0 → List D → D → List It0 → Prop
  | mk {s : List Vanbkh.Item} {k : Int} {l : List Int} (h : l.length ≤ 100000) : r_add_plot (s.map itC) [.int k, .lst (dI l)] (.lst (dI (stA s (.addPlot k l)))) ((stS s (.addPlot k l)).map itC)
abbrev N_add_plot : List Str := ["items", "height", "coordinates", "number"]
theorem sc_add_plot : FnScope N_add_plot ["items", "height", "coordinates"] (defScope (top 111)) := ⟨rfl, rfl, rfl, by decide +kernel, rfl, by decide +kernel, by decide +kernel⟩
theorem ok_add_plot {Pr : Program} {w : World} {K : PySem.W.Frag} {mg : Str → Option Value} {base : Heap} (T : Tx K mg) : Ok Pr w K mg base 3 "add_plot" ["items", "height", "coordinates"] (spS K r_add_plot) := by
  obtain ⟨fd, F⟩ := T.d_add_plot
  refine ⟨⟨fd, fn_state (N := N_add_plot) F sc_add_plot (fun its ds d its2 h => by cases h; rfl) ?_, F.bindsN fun _ _ _ _ _ _ us hl => match us, hl with | [_, _, _], _ => rfl⟩, F.kp, T.g_add_plot⟩
  intro cdv A outer s H E hr
  refine ⟨_, (pss_cons (ps_if (pt_val (pe_callO (ok_is_full T) (hr.mono (by decide)) rfl (pa_cons (pv 0) pa_nil)))
 (pss_one (ps_ret (pe_lst (pa_cons (pe_gint rfl T.i_TOO_MANY_ITEMS) pa_nil))))
 pss_nil)
 (pss_cons (ps_if (pt_not (pt_val (pe_callO (ok_is_within T) (hr.mono (by decide)) rfl (pa_cons (pv 1) (pa_cons pe_int (pa_cons pe_int pa_nil))))))
 (pss_one (ps_ret (pe_lst (pa_cons (pe_gint rfl T.i_BAD_PLOT_HEIGHT) pa_nil))))
 pss_nil)
 (pss_cons (ps_if (PW.pt (pw_or (pt_cmpR op_ne (pe_op op_mod (pe_callB (r := rLenQ K) call_len_seq (by rfl) T.f_len (by decide +kernel) (pa_cons (pv 2) pa_nil)) pe_int) pe_int (nomark _)) (pw_or1 (pt_cmpR op_gt (pe_callB (r := rLenQ K) call_len_seq (by rfl) T.f_len (by decide +kernel) (pa_cons (pv 2) pa_nil)) (pe_gint rfl T.i_MOST_COORDINATES) (nomark _)))))
 (pss_one (ps_ret (pe_lst (pa_cons (pe_gint rfl T.i_BAD_COORDINATE_COUNT) pa_nil))))
 pss_nil)
 (pss_cons (ps_if (pt_not (pt_val (pe_callB (r := rAll K) (cr_all rfl) (by rfl) T.f_all (by decide +kernel) (pa_cons (pe_lc (own := [("number", 3)]) (g := gName 3) (tt := tYes) rfl sc_add_plot.nd (pi_list (pv 2)) (blkOk_by (own := [("number", 3)]) (N := N_add_plot) (sc := (defScope (top 111))) (by decide +kernel)) (fun _ _ _ _ _ => pg_name (i := 3) sc_add_plot.nd rfl (Or.inl rfl)) (fun _ _ _ _ _ => pts_nil) (fun _ _ _ _ _ => (pe_callO (ok_is_coordinate T) (hr.mono (by decide)) rfl (pa_cons (pv 3) pa_nil)))) pa_nil))))
 (pss_one (ps_ret (pe_lst (pa_cons (pe_gint rfl T.i_OUT_OF_RANGE) pa_nil))))
 pss_nil)
 (pss_one (ps_ret (pe_callO (ok_append_item T) (hr.mono (by decide)) rfl (pa_cons (pv 0) (pa_cons (pe_makeO (ok_Plot T) (hr.mono (by decide)) rfl (pa_cons (pv 1) (pa_cons (pe_callO (ok_split_into_points T) (hr.mono (by decide)) rfl (pa_cons (pv 2) pa_nil)) pa_nil))) pa_nil))))))))), ?_⟩
  intro B p xs its ds d its2 hR
  obtain ⟨⟩ := hR
  rename_i s k l hl
  have e : Vanbkh.step ⟨s⟩ (.addPlot k l) = _ := app4 ⟨s⟩ (Vanbkh.isFull ⟨s⟩) (!Vanbkh.isBetween k 3 40) (l.length % 2 != 0 || decide (2 * Vanbkh.maxPoints < l.length)) (l.any fun z => !Vanbkh.isBetween z (1 - Vanbkh.limit) (Vanbkh.limit - 1)) (-1) (-7) (-8) (-9) (.plot k.toNat (Vanbkh.pointsOf l))
  unfold stA stS
  rw [e]
  refine sd_seq (sd_if (b := Vanbkh.isFull ⟨s⟩) (et_is (et_B (ed_callS rfl ea_nil .mk)) (isFull_eq s)) (fun h => ?_) (fun h => ?_))
  · rw [if_pos h]
    exact (sd_ret (en_lst1I ed_int).ed ⟨rfl, _, rfl⟩)
  refine sd_next ?_
  have nf := notFull h
  rw [if_neg (by rw [h]; simp)]
  refine sd_seq (sd_if (b := !Vanbkh.isBetween k 3 40) (et_not (et_B (ed_call (ea_cons (ed_var rfl) (ea_cons ed_int (ea_cons ed_int ea_nil))) (.mk)))) (fun h => ?_) (fun h => ?_))
  · rw [if_pos h]
    exact (sd_ret (en_lst1I ed_int).ed ⟨rfl, _, rfl⟩)
  refine sd_next ?_
  rw [if_neg (by rw [h]; simp)]
  have hb : 3 ≤ k ∧ k ≤ 40 := by
    unfold Vanbkh.isBetween at h
    simpa using h
  refine sd_seq (sd_if (b := (l.length % 2 != 0 || decide (2 * Vanbkh.maxPoints < l.length))) (et_is (et_or (et_test (ed_ne (ed_mod (ed_lenN (ed_var rfl)) ed_int ?_) ed_int)) (fun h => (et_test (ed_gt (ed_lenN (ed_var rfl)) ed_int)))) ?_) (fun h => ?_) (fun h => ?_))
  · decide
  · unfold Vanbkh.maxPoints
    have e1 : (l.length % 2 != 0) = !decide ((l.length : Int) % 2 = 0) := by
      rw [Bool.eq_iff_iff]
      simp
      omega
    rw [e1]
    congr 1
    exact decide_eq_decide.mpr (by omega)
  · rw [if_pos h]
    exact (sd_ret (en_lst1I ed_int).ed ⟨rfl, _, rfl⟩)
  refine sd_next ?_
  rw [if_neg (by rw [h]; simp)]
  have hsz : l.length % 2 = 0 ∧ l.length ≤ 120 := by
    unfold Vanbkh.maxPoints at h
    simpa using h
  refine sd_seq (sd_if (b := (l.any fun z => !Vanbkh.isBetween z (1 - Vanbkh.limit) (Vanbkh.limit - 1))) (et_is (et_not (et_B (ed_all (ed_is (en_lcL (f := D.int) (l := l) (g := fun z => D.bl (Vanbkh.isBetween z (1 - Vanbkh.limit) (Vanbkh.limit - 1))) (dw_listL (ed_var rfl)) rfl rfl (fun x hx => (ed_call (ea_cons (ed_var rfl) ea_nil) (.mk))) (by omega)).ed (e := .lst ((l.map fun z => Vanbkh.isBetween z (1 - Vanbkh.limit) (Vanbkh.limit - 1)).map D.bl)) (by rw [List.map_map]; rfl))))) ?_) (fun h => ?_) (fun h => ?_))
  · rw [List.all_map]
    exact not_all _ _
  · rw [if_pos h]
    exact (sd_ret (en_lst1I ed_int).ed ⟨rfl, _, rfl⟩)
  refine sd_next ?_
  rw [if_neg (by rw [h]; simp)]
  refine sd_lenSt (i := 0) rfl fun hxs => ?_
  refine (sd_retApp (it := itC (.plot k.toNat (Vanbkh.pointsOf l))) (i := 0) rfl (ei_is (ei_make (fs := [("kind", .int 3), ("height", .int k), ("points", .lst ((Vanbkh.pointsOf l).map dPt))]) (ea_cons (ed_var rfl) (ea_cons (ed_call (ea_cons (ed_var rfl) ea_nil) (.mk (n := l.length / 2) (by omega) (by omega))) ea_nil)) rfl (fun G vs hv => ?_)) ?_) ?_ (fun x => ⟨?_, xs ++ [x], ?_⟩))
  · obtain ⟨a, b, rfl, ax, ay⟩ := fv2 hv
    exact .cons .int (.cons ax (.cons ay .nil))
  · show (("Plot" : Str), [(("kind" : Str), D.int 3), ("height", D.int k), ("points", D.lst ((Vanbkh.pointsOf l).map dPt))]) = (("Plot" : Str), [(("kind" : Str), D.int 3), ("height", D.int (k.toNat : Nat)), ("points", D.lst ((Vanbkh.pointsOf l).map dPt))])
    rw [show ((k.toNat : Nat) : Int) = k by omega]
  · rw [hxs, List.length_map]
    omega
  · rw [List.length_map]
    rfl
  · show some _ = _
    rw [List.map_append]
    rfl
end Rl
namespace Rl
open PySem PySem.Spec PyProof.Rows L2 Dg

def sizeOk (c n : Nat) : Bool := !(c % n != 0 || c == 0 || decide (25 * n < c))
inductive r_is_table_size : List D → D → Prop
  | mk {c n : Nat} (h : 1 ≤ n) (h8 : n ≤ 8) : r_is_table_size [.int c, .int n] (.bl (sizeOk c n))
abbrev N_is_table_size : List Str := ["cell_count", "columns"]
theorem sc_is_table_size : FnScope N_is_table_size ["cell_count", "columns"] (defScope (top 107)) := ⟨rfl, rfl, rfl, by decide +kernel, rfl, by decide +kernel, by decide +kernel⟩
theorem ok_is_table_size {Pr : Program} {w : World} {K : PySem.W.Frag} {mg : Str → Option Value} {base : Heap} (T : Tx K mg) : Ok Pr w K mg base 1 "is_table_size" ["cell_count", "columns"] (spR K r_is_table_size) := by
  obtain ⟨fd, F⟩ := T.d_is_table_size
  refine ⟨⟨fd, fn_pure (N := N_is_table_size) F sc_is_table_size (fun ds d h => by cases h; rfl) ?_, F.bindsN fun _ _ _ _ _ _ us hl => match us, hl with | [_, _], _ => rfl⟩, F.kp, T.g_is_table_size⟩
  intro cdv A outer s H E hr
  refine ⟨_, (pss_cons (ps_if (PW.pt (pw_or (pt_cmpR op_eq (pv 0) pe_int (nomark _)) (pw_or1 (pt_cmpR op_gt (pv 0) (pe_op op_mulW (pe_gint rfl T.i_MOST_ROWS_WITH_HEADERS) (pv 1)) (nomark _)))))
 (pss_one (ps_ret pe_bl))
 pss_nil)
 (pss_one (ps_ret (pe_cmpR op_eq (pe_op op_mod (pv 0) (pv 1)) pe_int (nomark _))))), ?_⟩
  intro B ds d hR
  obtain ⟨⟩ := hR
  rename_i c n h h8
  have l1 := log_small (n := n) (Nat.lt_of_le_of_lt h8 (by decide))
  refine sd_seq (sd_if (b := c == 0 || decide (25 * n < c)) (et_is (et_or (et_test (ed_eq (ed_var rfl) ed_int)) (fun h => (et_test (ed_gt (ed_var rfl) (ed_mulW ed_int (ed_var rfl) ?_))))) ?_) (fun h => ?_) (fun h => ?_))
  · show Nat.log2 25 + ((n : Int).natAbs).log2 < 1000000
    have e : (n : Int).natAbs = n := by omega
    have : Nat.log2 25 = 4 := by decide
    rw [e]
    omega
  · have e1 : (c == 0) = decide ((c : Int) = 0) := by
      rw [Bool.eq_iff_iff]
      simp
    rw [e1]
    congr 1
    exact decide_eq_decide.mpr (by omega)
  · refine (sd_ret ed_bl ?_)
    unfold sizeOk
    rw [Bool.or_assoc, h]
    simp
  refine sd_next ?_
  refine (sd_ret (ed_eq (ed_mod (ed_var rfl) (ed_var rfl) (by omega)) ed_int) ?_)
  unfold sizeOk
  rw [Bool.or_assoc, h]
  show D.bl (decide ((c : Int) % n = 0)) = _
  congr 1
  have e2 : ((c : Int) % n = 0) ↔ c % n = 0 := by omega
  rw [Bool.or_false]
  by_cases q : c % n = 0
  · rw [decide_eq_true (e2.mpr q), q]
    rfl
  · rw [decide_eq_false (fun z => q (e2.mp z))]
    simp [q]
theorem cut_dCs (n : Nat) (l : List Vanbkh.Cell) : D.lst ((mCut n (l.map dC)).map D.lst) = D.lst ((mCut n l).map dCs) := by
  rw [mCut_map, List.map_map]
  rfl
inductive r_add_table : List It0 → List D → D → List It0 → Prop
  | mk {s : List Vanbkh.Item} {k : Int} {l : List Int} (h : l.length ≤ 100000) (hv : ∀ x ∈ l, Vanbkh.isValidNumber x = true) : r_add_table (s.map itC) [.int k, .lst (dI l)] (.lst (dI (stA s (.addTable k l)))) ((stS s (.addTable k l)).map itC)
abbrev N_add_table : List Str := ["items", "columns", "numbers", "cells", "rows", "header"]
theorem sc_add_table : FnScope N_add_table ["items", "columns", "numbers"] (defScope (top 108)) := ⟨rfl, rfl, rfl, by decide +kernel, rfl, by decide +kernel, by decide +kernel⟩
theorem ok_add_table {Pr : Program} {w : World} {K : PySem.W.Frag} {mg : Str → Option Value} {base : Heap} (T : Tx K mg) : Ok Pr w K mg base 7 "add_table" ["items", "columns", "numbers"] (spS K r_add_table) := by
  obtain ⟨fd, F⟩ := T.d_add_table
  refine ⟨⟨fd, fn_state (N := N_add_table) F sc_add_table (fun its ds d its2 h => by cases h; rfl) ?_, F.bindsN fun _ _ _ _ _ _ us hl => match us, hl with | [_, _, _], _ => rfl⟩, F.kp, T.g_add_table⟩
  intro cdv A outer s H E hr
  refine ⟨_, (pss_cons (ps_if (pt_val (pe_callO (ok_is_full T) (hr.mono (by decide)) rfl (pa_cons (pv 0) pa_nil)))
 (pss_one (ps_ret (pe_lst (pa_cons (pe_gint rfl T.i_TOO_MANY_ITEMS) pa_nil))))
 pss_nil)
 (pss_cons (ps_if (pt_not (pt_val (pe_callO (ok_is_within T) (hr.mono (by decide)) rfl (pa_cons (pv 1) (pa_cons pe_int (pa_cons (pe_gint rfl T.i_MOST_COLUMNS) pa_nil))))))
 (pss_one (ps_ret (pe_lst (pa_cons (pe_gint rfl T.i_BAD_COLUMN_COUNT) pa_nil))))
 pss_nil)
 (pss_cons (ps_set (i := 3) sc_add_table.nd rfl (Or.inl rfl) (pe_callO (ok_decode_cells T) (hr.mono (by decide)) rfl (pa_cons (pv 2) pa_nil)))
 (pss_cons (ps_if (pt_cmp (pc_isN (pv 3)) rfl)
 (pss_one (ps_ret (pe_lst (pa_cons (pe_gint rfl T.i_BAD_CELLS) pa_nil))))
 pss_nil)
 (pss_cons (ps_if (pt_not (pt_val (pe_callO (ok_is_table_size T) (hr.mono (by decide)) rfl (pa_cons (pe_callB (r := rLenQ K) call_len_seq (by rfl) T.f_len (by decide +kernel) (pa_cons (pv 3) pa_nil)) (pa_cons (pv 1) pa_nil)))))
 (pss_one (ps_ret (pe_lst (pa_cons (pe_gint rfl T.i_BAD_CELL_COUNT) pa_nil))))
 pss_nil)
 (pss_cons (ps_set (i := 4) sc_add_table.nd rfl (Or.inl rfl) (pe_callO (ok_cut_into_pieces T) (hr.mono (by decide)) rfl (pa_cons (pv 3) (pa_cons (pv 1) pa_nil))))
 (pss_cons (ps_if (pt_val (pe_callB (r := rAny K) (cr_any rfl) (by rfl) T.f_any (by decide +kernel) (pa_cons (pe_lc (own := [("header", 5)]) (g := gName 5) (tt := tYes) rfl sc_add_table.nd (pi_list (pe_ix (r := rIxL K) ix_list (pv 4) pe_int (fun _ _ => rfl))) (blkOk_by (own := [("header", 5)]) (N := N_add_table) (sc := (defScope (top 108))) (by decide +kernel)) (fun _ _ _ _ _ => pg_name (i := 5) sc_add_table.nd rfl (Or.inl rfl)) (fun _ _ _ _ _ => pts_nil) (fun _ _ _ _ _ => (pe_callO (ok_is_number_cell T) (hr.mono (by decide)) rfl (pa_cons (pv 5) pa_nil)))) pa_nil)))
 (pss_one (ps_ret (pe_lst (pa_cons (pe_gint rfl T.i_BAD_CELLS) pa_nil))))
 pss_nil)
 (pss_one (ps_ret (pe_callO (ok_append_item T) (hr.mono (by decide)) rfl (pa_cons (pv 0) (pa_cons (pe_makeO (ok_Table T) (hr.mono (by decide)) rfl (pa_cons (pe_ix (r := rIxL K) ix_list (pv 4) pe_int (fun _ _ => rfl)) (pa_cons (pe_slice (r := rSlL K) sl_list (pv 4) (po_some pe_int) po_none) pa_nil))) pa_nil)))))))))))), ?_⟩
  intro B p xs its ds d its2 hR
  obtain ⟨⟩ := hR
  rename_i s k l hl hv
  have e : Vanbkh.step ⟨s⟩ (.addTable k l) = _ := app5 ⟨s⟩ (Vanbkh.isFull ⟨s⟩) (!Vanbkh.isBetween k 1 (Vanbkh.ofNat Vanbkh.maxColumns)) ((Vanbkh.decodeCells l).isNone) (((Vanbkh.decodeCells l).getD []).length % k.toNat != 0 || ((Vanbkh.decodeCells l).getD []).isEmpty || decide ((Vanbkh.maxRows + 1) * k.toNat < ((Vanbkh.decodeCells l).getD []).length)) ((((Vanbkh.decodeCells l).getD []).take k.toNat).any Vanbkh.isNumber) (-1) (-4) (-5) (-6) (-5) (.table { headers := (((Vanbkh.decodeCells l).getD []).take k.toNat).map Vanbkh.textOf, rows := Vanbkh.rowsOf k.toNat ((Vanbkh.decodeCells l).getD []).length (((Vanbkh.decodeCells l).getD []).drop k.toNat) })
  unfold stA stS
  rw [e]
  refine sd_seq (sd_if (b := Vanbkh.isFull ⟨s⟩) (et_is (et_B (ed_callS rfl ea_nil .mk)) (isFull_eq s)) (fun h => ?_) (fun h => ?_))
  · rw [if_pos h]
    exact (sd_ret (en_lst1I ed_int).ed ⟨rfl, _, rfl⟩)
  refine sd_next ?_
  have nf := notFull h
  rw [if_neg (by rw [h]; simp)]
  refine sd_seq (sd_if (b := !Vanbkh.isBetween k 1 (Vanbkh.ofNat Vanbkh.maxColumns)) (et_not (et_B (ed_call (ea_cons (ed_var rfl) (ea_cons ed_int (ea_cons ed_int ea_nil))) (.mk)))) (fun h => ?_) (fun h => ?_))
  · rw [if_pos h]
    exact (sd_ret (en_lst1I ed_int).ed ⟨rfl, _, rfl⟩)
  refine sd_next ?_
  rw [if_neg (by rw [h]; simp)]
  have hb : 1 ≤ k ∧ k ≤ 8 := by
    have h' : (!(decide (1 ≤ k) && decide (k ≤ 8))) = false := h
    simpa using h'
  refine sd_seq (sd_asg (ed_call (ea_cons (ed_var rfl) ea_nil) (.mk hl hv)) (hlt rfl) ?_)
  cases q : Vanbkh.decodeCells l with
  | none =>
    refine sd_seq (sd_if (b := true) (et_B (ed_isN (ed_var (d := .non) rfl))) (fun _ => ?_) (fun z => absurd z (by decide)))
    rw [if_pos (show (Option.isNone (none : Option (List Vanbkh.Cell))) = true from rfl)]
    exact (sd_ret (en_lst1I ed_int).ed ⟨rfl, _, rfl⟩)
  | some cs =>
    obtain ⟨cl, cv⟩ := cells_ok _ l cs hv q
    refine sd_seq (sd_if (b := false) (et_B (ed_isN (ed_var (d := dCs cs) rfl))) (fun z => absurd z (by decide)) (fun _ => sd_next ?_))
    rw [if_neg (show ¬ (Option.isNone (some cs)) = true by simp), Option.getD_some]
    have ek : k = ((k.toNat : Nat) : Int) := by omega
    have so : (cs.length % k.toNat != 0 || cs.isEmpty || decide ((Vanbkh.maxRows + 1) * k.toNat < cs.length)) = !sizeOk cs.length k.toNat := by
      unfold sizeOk
      rw [Bool.not_not]
      congr 2
      cases cs <;> rfl
    rw [so]
    refine sd_seq (sd_if (et_not (et_B (ed_call (ea_cons (ed_lenM (l := cs) (f := dC) (ed_var rfl)) (ea_cons (ed_is (ed_var rfl) (e := .int (k.toNat : Nat)) (congrArg D.int ek)) ea_nil)) (.mk (by omega) (by omega))))) (fun h => ?_) (fun h => ?_))
    · rw [if_pos h]
      exact (sd_ret (en_lst1I ed_int).ed ⟨rfl, _, rfl⟩)
    refine sd_next ?_
    rw [if_neg (by rw [h]; simp)]
    have hsz : cs ≠ [] ∧ cs.length ≤ 200 := by
      have h' : sizeOk cs.length k.toNat = true := by simpa using h
      unfold sizeOk at h'
      simp at h'
      have : 25 * k.toNat ≤ 25 * 8 := Nat.mul_le_mul_left _ (by omega)
      refine ⟨fun z => ?_, by omega⟩
      subst z
      simp at h'
    have c1 := mCut_cons (n := k.toNat) (by omega) hsz.1
    have cm := mCut_len (n := k.toNat) (by omega) cs
    refine sd_seq (sd_asg (ed_is (ed_call (ea_cons (ed_var rfl) (ea_cons (ed_is (ed_var rfl) (e := .int (k.toNat : Nat)) (congrArg D.int ek)) ea_nil)) (.mk (ds := cs.map dC) (n := k.toNat) (by rw [List.length_map]; omega) (by omega) (by omega))) (e := .lst ((cs.take k.toNat :: mCut k.toNat (cs.drop k.toNat)).map dCs)) (by rw [cut_dCs, c1])) (hlt rfl) ?_)
    refine sd_seq (sd_if (b := (cs.take k.toNat).any Vanbkh.isNumber) (et_B (ed_is (ed_any (ed_is (en_lcL (f := dC) (l := cs.take k.toNat) (g := fun c => D.bl (Vanbkh.isNumber c)) (dw_listL (ed_ix (d := dCs (cs.take k.toNat)) (ds := (cs.take k.toNat :: mCut k.toNat (cs.drop k.toNat)).map dCs) (ed_var rfl) ed_int (atI_zero _ _))) rfl rfl (fun x hx => (ed_call (ea_cons (ed_var rfl) ea_nil) (.mk))) (by rw [List.length_take]; omega)).ed (e := .lst (((cs.take k.toNat).map Vanbkh.isNumber).map D.bl)) (by rw [List.map_map]; rfl))) (by rw [List.any_map]; rfl))) (fun h => ?_) (fun h => ?_))
    · rw [if_pos h]
      exact (sd_ret (en_lst1I ed_int).ed ⟨rfl, _, rfl⟩)
    refine sd_next ?_
    rw [if_neg (by rw [h]; simp)]
    rw [rowsOf_eq (n := k.toNat) (by omega) cs.length (cs.drop k.toNat) (by rw [List.length_drop]; omega)]
    refine sd_lenSt (i := 0) rfl fun hxs => ?_
    refine (sd_retApp (it := itC (.table { headers := (cs.take k.toNat).map Vanbkh.textOf, rows := mCut k.toNat (cs.drop k.toNat) })) (i := 0) rfl (ei_is (ei_make (fs := [("kind", .int 2), ("headers", dCs (cs.take k.toNat)), ("rows", dRows (mCut k.toNat (cs.drop k.toNat)))]) (ea_cons (ed_ix (d := dCs (cs.take k.toNat)) (ds := (cs.take k.toNat :: mCut k.toNat (cs.drop k.toNat)).map dCs) (ed_var rfl) ed_int (atI_zero _ _)) (ea_cons (ed_is (en_slice (ds := (cs.take k.toNat :: mCut k.toNat (cs.drop k.toNat)).map dCs) (ed_var rfl) (eo_some ed_int) eo_none).ed (e := dRows (mCut k.toNat (cs.drop k.toNat))) (by rw [cutD_from _ (by omega)]; rfl)) ea_nil)) rfl (fun G vs hv => ?_)) ?_) ?_ (fun x => ⟨?_, xs ++ [x], ?_⟩))
    · obtain ⟨a, b, rfl, ax, ay⟩ := fv2 hv
      exact .cons .int (.cons ax (.cons ay .nil))
    · show (("Table" : Str), [(("kind" : Str), D.int 2), ("headers", dCs (cs.take k.toNat)), ("rows", dRows (mCut k.toNat (cs.drop k.toNat)))]) = (("Table" : Str), [(("kind" : Str), D.int 2), ("headers", dCs (((cs.take k.toNat).map Vanbkh.textOf).map .text)), ("rows", dRows (mCut k.toNat (cs.drop k.toNat)))])
      rw [heads_text h]
    · rw [hxs, List.length_map]
      omega
    · rw [List.length_map]
      rfl
    · show some _ = _
      rw [List.map_append]
      rfl
theorem step_read (s : List Vanbkh.Item) (l : List Int) : Vanbkh.step ⟨s⟩ (.readTable l) = if Vanbkh.isFull ⟨s⟩ = true then (⟨s⟩, .error (-1)) else match Vanbkh.readBytes l with | none => (⟨s⟩, .error (-16)) | some x => ({ items := s ++ [.table x] }, .numbers [Vanbkh.ofNat s.length]) := rfl
inductive r_read_table : List It0 → List D → D → List It0 → Prop
  | mk {s : List Vanbkh.Item} {l : List Int} (h : l.length ≤ 99999) (hr : mReadFull l = Vanbkh.readBytes l) : r_read_table (s.map itC) [.lst (dI l)] (.lst (dI (stA s (.readTable l)))) ((stS s (.readTable l)).map itC)
abbrev N_read_table : List Str := ["items", "text", "table"]
theorem sc_read_table : FnScope N_read_table ["items", "text"] (defScope (top 115)) := ⟨rfl, rfl, rfl, by decide +kernel, rfl, by decide +kernel, by decide +kernel⟩
theorem ok_read_table {Pr : Program} {w : World} {K : PySem.W.Frag} {mg : Str → Option Value} {base : Heap} (T : Tx K mg) : Ok Pr w K mg base 10 "read_table" ["items", "text"] (spS K r_read_table) := by
  obtain ⟨fd, F⟩ := T.d_read_table
  refine ⟨⟨fd, fn_state (N := N_read_table) F sc_read_table (fun its ds d its2 h => by cases h; rfl) ?_, F.bindsN fun _ _ _ _ _ _ us hl => match us, hl with | [_, _], _ => rfl⟩, F.kp, T.g_read_table⟩
  intro cdv A outer s H E hr
  refine ⟨_, (pss_cons (ps_if (pt_val (pe_callO (ok_is_full T) (hr.mono (by decide)) rfl (pa_cons (pv 0) pa_nil)))
 (pss_one (ps_ret (pe_lst (pa_cons (pe_gint rfl T.i_TOO_MANY_ITEMS) pa_nil))))
 pss_nil)
 (pss_cons (ps_set (i := 2) sc_read_table.nd rfl (Or.inl rfl) (pe_callO (ok_read_full_text T) (hr.mono (by decide)) rfl (pa_cons (pv 1) pa_nil)))
 (pss_cons (ps_if (pt_cmp (pc_isN (pv 2)) rfl)
 (pss_one (ps_ret (pe_lst (pa_cons (pe_gint rfl T.i_NOT_A_FULL_TEXT) pa_nil))))
 pss_nil)
 (pss_one (ps_ret (pe_callO (ok_append_item T) (hr.mono (by decide)) rfl (pa_cons (pv 0) (pa_cons (pv 2) pa_nil)))))))), ?_⟩
  intro B p xs its ds d its2 hR
  obtain ⟨⟩ := hR
  rename_i s l hl hr
  unfold stA stS
  rw [step_read]
  refine sd_seq (sd_if (b := Vanbkh.isFull ⟨s⟩) (et_is (et_B (ed_callS rfl ea_nil .mk)) (isFull_eq s)) (fun h => ?_) (fun h => ?_))
  · rw [if_pos h]
    exact (sd_ret (en_lst1I ed_int).ed ⟨rfl, _, rfl⟩)
  refine sd_next ?_
  have nf := notFull h
  rw [if_neg (by rw [h]; simp), ← hr]
  refine sd_seq (sd_asgCI (ea_cons (ed_var rfl) ea_nil) (.mk hl) (hlt rfl) (fun ho => ?_) (fun it x0 ho => ?_))
  · cases q : mReadFull l with
    | some t => rw [q] at ho; cases ho
    | none =>
      refine sd_seq (sd_if (b := true) (et_B (ed_isN (ed_var (d := .non) rfl))) (fun _ => ?_) (fun z => absurd z (by decide)))
      exact (sd_ret (en_lst1I ed_int).ed ⟨rfl, _, rfl⟩)
  · cases q : mReadFull l with
    | none => rw [q] at ho; cases ho
    | some t =>
      rw [q] at ho
      cases ho
      refine sd_seq (sd_if (b := false) (et_B (ed_isNOi (x := x0) rfl)) (fun z => absurd z (by decide)) (fun _ => sd_next ?_))
      refine sd_lenSt (i := 0) rfl fun hxs => ?_
      refine (sd_retAppV (i := 0) (j := 2) rfl rfl (by decide) ?_ ⟨?_, xs ++ [x0], ?_⟩)
      · rw [hxs, List.length_map]
        omega
      · rw [List.length_map]
        rfl
      · show some _ = some _
        rw [List.map_append]
        rfl
end Rl
namespace Rl
open PySem PySem.Spec PyProof.Rows L2 Dg

def isTN (p : List Vanbkh.Cell) : Bool := !Vanbkh.isNumber (p.getD 0 (.number 0)) && Vanbkh.isNumber (p.getD 1 (.number 0))
inductive r_is_text_and_number : List D → D → Prop
  | mk {p : List Vanbkh.Cell} (h : p.length = 2) : r_is_text_and_number [dCs p] (.bl (isTN p))
abbrev N_is_text_and_number : List Str := ["pair"]
theorem sc_is_text_and_number : FnScope N_is_text_and_number ["pair"] (defScope (top 113)) := ⟨rfl, rfl, rfl, by decide +kernel, rfl, by decide +kernel, by decide +kernel⟩
theorem ok_is_text_and_number {Pr : Program} {w : World} {K : PySem.W.Frag} {mg : Str → Option Value} {base : Heap} (T : Tx K mg) : Ok Pr w K mg base 2 "is_text_and_number" ["pair"] (spR K r_is_text_and_number) := by
  obtain ⟨fd, F⟩ := T.d_is_text_and_number
  refine ⟨⟨fd, fn_pure (N := N_is_text_and_number) F sc_is_text_and_number (fun ds d h => by cases h; rfl) ?_, F.bindsN fun _ _ _ _ _ _ us hl => match us, hl with | [_], _ => rfl⟩, F.kp, T.g_is_text_and_number⟩
  intro cdv A outer s H E hr
  refine ⟨_, (pss_one (ps_ret (pe_and (pe_callO (ok_is_text_cell T) (hr.mono (by decide)) rfl (pa_cons (pe_ix (r := rIxL K) ix_list (pv 0) pe_int (fun _ _ => rfl)) pa_nil)) (pe_one (pe_callO (ok_is_number_cell T) (hr.mono (by decide)) rfl (pa_cons (pe_ix (r := rIxL K) ix_list (pv 0) pe_int (fun _ _ => rfl)) pa_nil)))))), ?_⟩
  intro B ds d hR
  obtain ⟨⟩ := hR
  rename_i p hp
  match p, hp with
  | [a, b], _ => exact (sd_ret (ed_andV (ed_call (ea_cons (ed_ix (d := dC a) (ds := [dC a, dC b]) (ed_var rfl) ed_int (atI_zero _ _)) ea_nil) (.mk)) (fun h => (ed_call (ea_cons (ed_ix (d := dC b) (ds := [dC a, dC b]) (ed_var rfl) ed_int (atI_nat (j := 1) rfl)) ea_nil) (.mk)))) rfl)
def barOf (p : List Vanbkh.Cell) : List UInt8 × Int := match p with
  | [.text t, .number z] => (t, z)
  | _ => ([], 0)
theorem bars_eq : ∀ (n : Nat) (cs : List Vanbkh.Cell), cs.length = 2 * n → ((mCut 2 cs).all isTN = (Vanbkh.barsOf cs).isSome) ∧ (∀ l, Vanbkh.barsOf cs = some l → l = (mCut 2 cs).map barOf) ∧ (mCut 2 cs).length = n ∧ ∀ p ∈ mCut 2 cs, p.length = 2 ∧ ∀ c ∈ p, c ∈ cs
  | 0, cs, h => by
    have : cs = [] := List.length_eq_zero_iff.mp (by omega)
    subst this
    rw [mCut_nil (by decide)]
    exact ⟨rfl, fun l h => by cases h; rfl, rfl, by simp⟩
  | n + 1, cs, h => by
    match cs, h with
    | a :: b :: r, h =>
      obtain ⟨i1, i2, i3, i4⟩ := bars_eq n r (by simp at h; omega)
      rw [mCut_cons (by decide) (by simp)]
      show ((([a, b] :: mCut 2 r).all isTN) = _) ∧ _ ∧ (mCut 2 r).length + 1 = n + 1 ∧ _
      rw [i3]
      refine ⟨?_, ?_, rfl, fun p hp => ?_⟩
      · rw [List.all_cons, i1]
        cases a with
        | number z => rfl
        | text t =>
          cases b with
          | text u => rfl
          | number z =>
            show (true && (Vanbkh.barsOf r).isSome) = ((Vanbkh.barsOf r).map _).isSome
            cases Vanbkh.barsOf r <;> rfl
      · intro l hl
        cases a with
        | number z => cases hl
        | text t =>
          cases b with
          | text u => cases hl
          | number z =>
            have hl' : (Vanbkh.barsOf r).map (fun l => (t, z) :: l) = some l := hl
            cases q : Vanbkh.barsOf r with
            | none => rw [q] at hl'; cases hl'
            | some l' =>
              rw [q] at hl'
              cases hl'
              rw [i2 l' q]
              rfl
      · have hp' : p ∈ [a, b] :: mCut 2 r := hp
        rcases List.mem_cons.mp hp' with rfl | hp'
        · exact ⟨rfl, fun c hc => by simp at hc ⊢; rcases hc with hc | hc <;> simp [hc]⟩
        · obtain ⟨j1, j2⟩ := i4 p hp'
          exact ⟨j1, fun c hc => by simp [j2 c hc]⟩
    | [a], h => simp at h; omega
    | [], h => simp at h
theorem isTN_bar {p : List Vanbkh.Cell} (hp : p.length = 2) (h : isTN p = true) : ∃ t z, p = [.text t, .number z] := by
  match p, hp with
  | [a, b], _ =>
    cases a with
    | number z => cases h
    | text t =>
      cases b with
      | text u => cases h
      | number z => exact ⟨t, z, rfl⟩
inductive r_add_bars : List It0 → List D → D → List It0 → Prop
  | mk {s : List Vanbkh.Item} {l : List Int} (h : l.length ≤ 100000) (hv : ∀ x ∈ l, Vanbkh.isValidNumber x = true) : r_add_bars (s.map itC) [.lst (dI l)] (.lst (dI (stA s (.addBars l)))) ((stS s (.addBars l)).map itC)
abbrev N_add_bars : List Str := ["items", "numbers", "cells", "pairs", "bars", "pair", "bar"]
theorem sc_add_bars : FnScope N_add_bars ["items", "numbers"] (defScope (top 114)) := ⟨rfl, rfl, rfl, by decide +kernel, rfl, by decide +kernel, by decide +kernel⟩
theorem ok_add_bars {Pr : Program} {w : World} {K : PySem.W.Frag} {mg : Str → Option Value} {base : Heap} (T : Tx K mg) : Ok Pr w K mg base 7 "add_bars" ["items", "numbers"] (spS K r_add_bars) := by
  obtain ⟨fd, F⟩ := T.d_add_bars
  refine ⟨⟨fd, fn_state (N := N_add_bars) F sc_add_bars (fun its ds d its2 h => by cases h; rfl) ?_, F.bindsN fun _ _ _ _ _ _ us hl => match us, hl with | [_, _], _ => rfl⟩, F.kp, T.g_add_bars⟩
  intro cdv A outer s H E hr
  refine ⟨_, (pss_cons (ps_if (pt_val (pe_callO (ok_is_full T) (hr.mono (by decide)) rfl (pa_cons (pv 0) pa_nil)))
 (pss_one (ps_ret (pe_lst (pa_cons (pe_gint rfl T.i_TOO_MANY_ITEMS) pa_nil))))
 pss_nil)
 (pss_cons (ps_set (i := 2) sc_add_bars.nd rfl (Or.inl rfl) (pe_callO (ok_decode_cells T) (hr.mono (by decide)) rfl (pa_cons (pv 1) pa_nil)))
 (pss_cons (ps_if (pt_cmp (pc_isN (pv 2)) rfl)
 (pss_one (ps_ret (pe_lst (pa_cons (pe_gint rfl T.i_BAD_CELLS) pa_nil))))
 pss_nil)
 (pss_cons (ps_if (PW.pt (pw_or (pt_cmpR op_ne (pe_op op_mod (pe_callB (r := rLenQ K) call_len_seq (by rfl) T.f_len (by decide +kernel) (pa_cons (pv 2) pa_nil)) pe_int) pe_int (nomark _)) (pw_or1 (pt_cmpR op_gt (pe_callB (r := rLenQ K) call_len_seq (by rfl) T.f_len (by decide +kernel) (pa_cons (pv 2) pa_nil)) (pe_gint rfl T.i_MOST_CELLS_OF_BARS) (nomark _)))))
 (pss_one (ps_ret (pe_lst (pa_cons (pe_gint rfl T.i_BAD_CELL_COUNT) pa_nil))))
 pss_nil)
 (pss_cons (ps_set (i := 3) sc_add_bars.nd rfl (Or.inl rfl) (pe_callO (ok_cut_into_pieces T) (hr.mono (by decide)) rfl (pa_cons (pv 2) (pa_cons pe_int pa_nil))))
 (pss_cons (ps_if (pt_not (pt_val (pe_callB (r := rAll K) (cr_all rfl) (by rfl) T.f_all (by decide +kernel) (pa_cons (pe_lc (own := [("pair", 5)]) (g := gName 5) (tt := tYes) rfl sc_add_bars.nd (pi_list (pv 3)) (blkOk_by (own := [("pair", 5)]) (N := N_add_bars) (sc := (defScope (top 114))) (by decide +kernel)) (fun _ _ _ _ _ => pg_name (i := 5) sc_add_bars.nd rfl (Or.inl rfl)) (fun _ _ _ _ _ => pts_nil) (fun _ _ _ _ _ => (pe_callO (ok_is_text_and_number T) (hr.mono (by decide)) rfl (pa_cons (pv 5) pa_nil)))) pa_nil))))
 (pss_one (ps_ret (pe_lst (pa_cons (pe_gint rfl T.i_BAD_CELLS) pa_nil))))
 pss_nil)
 (pss_cons (ps_setLc (i := 4) (own := [("pair", 5)]) (g := gName 5) (tt := tYes) rfl sc_add_bars.nd rfl rfl (sw_true rfl rfl rfl (by decide +kernel)) (pi_list (pv 3)) (blkOk_by (own := [("pair", 5)]) (N := N_add_bars) (sc := (defScope (top 114))) (by decide +kernel)) (fun _ _ _ _ _ => pg_name (i := 5) sc_add_bars.nd rfl (Or.inl rfl)) (fun _ _ _ _ _ => pts_nil) (fun _ _ _ _ _ => (pe_tup (pa_cons (pe_ix (r := rIxT K) ix_tup (pe_ix (r := rIxL K) ix_list (pv 5) pe_int (fun _ _ => rfl)) pe_int (fun _ _ => rfl)) (pa_cons (pe_ix (r := rIxT K) ix_tup (pe_ix (r := rIxL K) ix_list (pv 5) pe_int (fun _ _ => rfl)) pe_int (fun _ _ => rfl)) pa_nil)))))
 (pss_cons (ps_if (pt_not (pt_val (pe_callB (r := rAll K) (cr_all rfl) (by rfl) T.f_all (by decide +kernel) (pa_cons (pe_lc (own := [("bar", 6)]) (g := gName 6) (tt := tYes) rfl sc_add_bars.nd (pi_list (pv 4)) (blkOk_by (own := [("bar", 6)]) (N := N_add_bars) (sc := (defScope (top 114))) (by decide +kernel)) (fun _ _ _ _ _ => pg_name (i := 6) sc_add_bars.nd rfl (Or.inl rfl)) (fun _ _ _ _ _ => pts_nil) (fun _ _ _ _ _ => (pe_callO (ok_is_within T) (hr.mono (by decide)) rfl (pa_cons (pe_ix (r := rIxT K) ix_tup (pv 6) pe_int (fun _ _ => rfl)) (pa_cons pe_int (pa_cons (pe_gint rfl T.i_GREATEST_NUMBER) pa_nil)))))) pa_nil))))
 (pss_one (ps_ret (pe_lst (pa_cons (pe_gint rfl T.i_OUT_OF_RANGE) pa_nil))))
 pss_nil)
 (pss_one (ps_ret (pe_callO (ok_append_item T) (hr.mono (by decide)) rfl (pa_cons (pv 0) (pa_cons (pe_makeO (ok_BarChart T) (hr.mono (by decide)) rfl (pa_cons (pv 4) pa_nil)) pa_nil))))))))))))), ?_⟩
  intro B p xs its ds d its2 hR
  obtain ⟨⟩ := hR
  rename_i s l hl hv
  have e : Vanbkh.step ⟨s⟩ (.addBars l) = _ := app5 ⟨s⟩ (Vanbkh.isFull ⟨s⟩) ((Vanbkh.decodeCells l).isNone) (((Vanbkh.decodeCells l).getD []).length % 2 != 0 || decide (2 * Vanbkh.maxBars < ((Vanbkh.decodeCells l).getD []).length)) ((Vanbkh.barsOf ((Vanbkh.decodeCells l).getD [])).isNone) (((Vanbkh.barsOf ((Vanbkh.decodeCells l).getD [])).getD []).any fun x => !Vanbkh.isBetween x.2 0 (Vanbkh.limit - 1)) (-1) (-5) (-6) (-5) (-9) (.bars ((Vanbkh.barsOf ((Vanbkh.decodeCells l).getD [])).getD []))
  unfold stA stS
  rw [e]
  refine sd_seq (sd_if (b := Vanbkh.isFull ⟨s⟩) (et_is (et_B (ed_callS rfl ea_nil .mk)) (isFull_eq s)) (fun h => ?_) (fun h => ?_))
  · rw [if_pos h]
    exact (sd_ret (en_lst1I ed_int).ed ⟨rfl, _, rfl⟩)
  refine sd_next ?_
  have nf := notFull h
  rw [if_neg (by rw [h]; simp)]
  refine sd_seq (sd_asg (ed_call (ea_cons (ed_var rfl) ea_nil) (.mk hl hv)) (hlt rfl) ?_)
  cases q : Vanbkh.decodeCells l with
  | none =>
    refine sd_seq (sd_if (b := true) (et_B (ed_isN (ed_var (d := .non) rfl))) (fun _ => ?_) (fun z => absurd z (by decide)))
    rw [if_pos (show (Option.isNone (none : Option (List Vanbkh.Cell))) = true from rfl)]
    exact (sd_ret (en_lst1I ed_int).ed ⟨rfl, _, rfl⟩)
  | some cs =>
    obtain ⟨cl, cv⟩ := cells_ok _ l cs hv q
    refine sd_seq (sd_if (b := false) (et_B (ed_isN (ed_var (d := dCs cs) rfl))) (fun z => absurd z (by decide)) (fun _ => sd_next ?_))
    rw [if_neg (show ¬ (Option.isNone (some cs)) = true by simp), Option.getD_some]
    refine sd_seq (sd_if (b := (cs.length % 2 != 0 || decide (2 * Vanbkh.maxBars < cs.length))) (et_is (et_or (et_test (ed_ne (ed_mod (ed_lenM (l := cs) (f := dC) (ed_var rfl)) ed_int ?_) ed_int)) (fun h => (et_test (ed_gt (ed_lenM (l := cs) (f := dC) (ed_var rfl)) ed_int)))) ?_) (fun h => ?_) (fun h => ?_))
    · decide
    · unfold Vanbkh.maxBars
      have e1 : (cs.length % 2 != 0) = !decide ((cs.length : Int) % 2 = 0) := by
        rw [Bool.eq_iff_iff]
        simp
        omega
      rw [e1]
      congr 1
      exact decide_eq_decide.mpr (by omega)
    · rw [if_pos h]
      exact (sd_ret (en_lst1I ed_int).ed ⟨rfl, _, rfl⟩)
    refine sd_next ?_
    rw [if_neg (by rw [h]; simp)]
    have hsz : cs.length % 2 = 0 ∧ cs.length ≤ 40 := by
      unfold Vanbkh.maxBars at h
      simpa using h
    obtain ⟨b1, b2, b3, b4⟩ := bars_eq (cs.length / 2) cs (by omega)
    refine sd_seq (sd_asg (ed_is (ed_call (ea_cons (ed_var rfl) (ea_cons ed_int ea_nil)) (.mk (ds := cs.map dC) (n := 2) (by rw [List.length_map]; omega) (by omega) (by omega))) (cut_dCs 2 cs)) (hlt rfl) ?_)
    have en : (Vanbkh.barsOf cs).isNone = !(mCut 2 cs).all isTN := by
      rw [b1]
      cases Vanbkh.barsOf cs <;> rfl
    rw [en]
    refine sd_seq (sd_if (b := !(mCut 2 cs).all isTN) (et_not (et_B (ed_is (ed_all (ed_is (en_lcL (f := dCs) (l := mCut 2 cs) (g := fun p => D.bl (isTN p)) (dw_listL (ed_var rfl)) rfl rfl (fun x hx => (ed_call (ea_cons (ed_var rfl) ea_nil) (.mk (b4 x hx).1))) (by omega)).ed (e := .lst (((mCut 2 cs).map isTN).map D.bl)) (by rw [List.map_map]; rfl))) (by rw [List.all_map]; rfl)))) (fun h => ?_) (fun h => ?_))
    · rw [if_pos h]
      exact (sd_ret (en_lst1I ed_int).ed ⟨rfl, _, rfl⟩)
    refine sd_next ?_
    rw [if_neg (by rw [h]; simp)]
    have ht : (mCut 2 cs).all isTN = true := by simpa using h
    have ex : ∃ L, Vanbkh.barsOf cs = some L := by
      rw [ht] at b1
      cases z : Vanbkh.barsOf cs with
      | none => rw [z] at b1; cases b1
      | some L => exact ⟨L, rfl⟩
    obtain ⟨L, eL⟩ := ex
    have eL2 := b2 L eL
    rw [eL, Option.getD_some]
    refine sd_seq (sd_asgN (en_is (es := L.map dBar) (en_lcL (f := dCs) (l := mCut 2 cs) (g := fun p => dBar (barOf p)) (dw_listL (ed_var rfl)) rfl rfl (fun x hx => ?_) (by omega)) (by rw [eL2, List.map_map]; rfl)) (hlt rfl) ?_)
    · obtain ⟨t, z, rfl⟩ := isTN_bar (b4 x hx).1 (List.all_eq_true.mp ht x hx)
      exact (ed_tup (ea_cons (ed_ixT (d := .tup (dI (bI t))) (ds := [.int 1, .tup (dI (bI t))]) (ed_ix (ds := [dC (.text t), dC (.number z)]) (ed_var rfl) ed_int (atI_zero _ _)) ed_int rfl) (ea_cons (ed_ixT (d := .int z) (ds := [.int 0, .int z]) (ed_ix (ds := [dC (.text t), dC (.number z)]) (ed_var rfl) ed_int (atI_nat (j := 1) rfl)) ed_int rfl) ea_nil)) (hle rfl))
    refine sd_frz 4 rfl ?_
    have Ll : L.length ≤ 20 := by rw [eL2, List.length_map]; omega
    refine sd_seq (sd_if (b := (L.any fun x => !Vanbkh.isBetween x.2 0 (Vanbkh.limit - 1))) (et_is (et_not (et_B (ed_all (ed_is (en_lcL (f := dBar) (l := L) (g := fun x => D.bl (Vanbkh.isBetween x.2 0 (Vanbkh.limit - 1))) (dw_listL (ed_var rfl)) rfl rfl (fun x hx => (ed_call (ea_cons (ed_ixT (d := .int x.2) (ds := [.tup (dI (bI x.1)), .int x.2]) (ed_var rfl) ed_int rfl) (ea_cons ed_int (ea_cons ed_int ea_nil))) (.mk))) (by omega)).ed (e := .lst ((L.map fun x => Vanbkh.isBetween x.2 0 (Vanbkh.limit - 1)).map D.bl)) (by rw [List.map_map]; rfl))))) ?_) (fun h => ?_) (fun h => ?_))
    · rw [List.all_map]
      exact not_all _ _
    · rw [if_pos h]
      exact (sd_ret (en_lst1I ed_int).ed ⟨rfl, _, rfl⟩)
    refine sd_next ?_
    rw [if_neg (by rw [h]; simp)]
    refine sd_lenSt (i := 0) rfl fun hxs => ?_
    refine (sd_retApp (it := itC (.bars L)) (i := 0) rfl (ei_is (ei_make (fs := [("kind", .int 5), ("bars", .lst (L.map dBar))]) (ea_cons (ed_var rfl) ea_nil) rfl (fun G vs hv => ?_)) rfl) ?_ (fun x => ⟨?_, xs ++ [x], ?_⟩))
    · obtain ⟨a, rfl, ax⟩ := hv.one
      exact .cons .int (.cons ax .nil)
    · rw [hxs, List.length_map]
      omega
    · rw [List.length_map]
      rfl
    · show some _ = _
      rw [List.map_append]
      rfl
end Rl
namespace Rl
open PySem PySem.Spec PyProof.Rows L2 Dg

inductive Adds : Int → List Int → List Int → Vanbkh.Call → Prop
  | heading (k : Int) (t : List Int) : Adds 0 [k] t (.addHeading k t)
  | para (t : List Int) : Adds 1 [] t (.addParagraph t)
  | table (n : Int) (l : List Int) : Adds 2 [n] l (.addTable n l)
  | plot (h : Int) (l : List Int) : Adds 3 [h] l (.addPlot h l)
  | check (k : Int) (t : List Int) : Adds 4 [k] t (.addCheck k t)
  | bars (l : List Int) : Adds 5 [] l (.addBars l)
  | read (l : List Int) : Adds 14 [] l (.readTable l)
inductive r_perform_adding : List It0 → List D → D → List It0 → Prop
  | mk {s : List Vanbkh.Item} {n : Int} {is ls : List Int} {c : Vanbkh.Call} (ha : Adds n is ls c) (h : ls.length ≤ 99999) (hv : ∀ x ∈ ls, Vanbkh.isValidNumber x = true) (hr : mReadFull ls = Vanbkh.readBytes ls) : r_perform_adding (s.map itC) [dCall n is ls] (.lst (dI (stA s c))) ((stS s c).map itC)
abbrev N_perform_adding : List Str := ["items", "call", "integers"]
theorem sc_perform_adding : FnScope N_perform_adding ["items", "call"] (defScope (top 166)) := ⟨rfl, rfl, rfl, by decide +kernel, rfl, by decide +kernel, by decide +kernel⟩
theorem ok_perform_adding {Pr : Program} {w : World} {K : PySem.W.Frag} {mg : Str → Option Value} {base : Heap} (T : Tx K mg) : Ok Pr w K mg base 11 "perform_adding" ["items", "call"] (spS K r_perform_adding) := by
  obtain ⟨fd, F⟩ := T.d_perform_adding
  refine ⟨⟨fd, fn_state (N := N_perform_adding) F sc_perform_adding (fun its ds d its2 h => by cases h; rfl) ?_, F.bindsN fun _ _ _ _ _ _ us hl => match us, hl with | [_, _], _ => rfl⟩, F.kp, T.g_perform_adding⟩
  intro cdv A outer s H E hr
  refine ⟨_, (pss_cons (ps_set (i := 2) sc_perform_adding.nd rfl (Or.inl rfl) (pe_fldK (K := K) (pv 1) rfl rfl))
 (pss_cons (ps_if (pt_cmpR op_eq (pe_fldK (K := K) (pv 1) rfl rfl) pe_int (nomark _))
 (pss_one (ps_ret (pe_callO (ok_add_heading T) (hr.mono (by decide)) rfl (pa_cons (pv 0) (pa_cons (pe_ix (r := rIxL K) ix_list (pv 2) pe_int (fun _ _ => rfl)) (pa_cons (pe_fldK (K := K) (pv 1) rfl rfl) pa_nil))))))
 pss_nil)
 (pss_cons (ps_if (pt_cmpR op_eq (pe_fldK (K := K) (pv 1) rfl rfl) pe_int (nomark _))
 (pss_one (ps_ret (pe_callO (ok_add_paragraph T) (hr.mono (by decide)) rfl (pa_cons (pv 0) (pa_cons (pe_fldK (K := K) (pv 1) rfl rfl) pa_nil)))))
 pss_nil)
 (pss_cons (ps_if (pt_cmpR op_eq (pe_fldK (K := K) (pv 1) rfl rfl) pe_int (nomark _))
 (pss_one (ps_ret (pe_callO (ok_add_table T) (hr.mono (by decide)) rfl (pa_cons (pv 0) (pa_cons (pe_ix (r := rIxL K) ix_list (pv 2) pe_int (fun _ _ => rfl)) (pa_cons (pe_fldK (K := K) (pv 1) rfl rfl) pa_nil))))))
 pss_nil)
 (pss_cons (ps_if (pt_cmpR op_eq (pe_fldK (K := K) (pv 1) rfl rfl) pe_int (nomark _))
 (pss_one (ps_ret (pe_callO (ok_add_plot T) (hr.mono (by decide)) rfl (pa_cons (pv 0) (pa_cons (pe_ix (r := rIxL K) ix_list (pv 2) pe_int (fun _ _ => rfl)) (pa_cons (pe_fldK (K := K) (pv 1) rfl rfl) pa_nil))))))
 pss_nil)
 (pss_cons (ps_if (pt_cmpR op_eq (pe_fldK (K := K) (pv 1) rfl rfl) pe_int (nomark _))
 (pss_one (ps_ret (pe_callO (ok_add_check T) (hr.mono (by decide)) rfl (pa_cons (pv 0) (pa_cons (pe_ix (r := rIxL K) ix_list (pv 2) pe_int (fun _ _ => rfl)) (pa_cons (pe_fldK (K := K) (pv 1) rfl rfl) pa_nil))))))
 pss_nil)
 (pss_cons (ps_if (pt_cmpR op_eq (pe_fldK (K := K) (pv 1) rfl rfl) pe_int (nomark _))
 (pss_one (ps_ret (pe_callO (ok_add_bars T) (hr.mono (by decide)) rfl (pa_cons (pv 0) (pa_cons (pe_fldK (K := K) (pv 1) rfl rfl) pa_nil)))))
 pss_nil)
 (pss_one (ps_ret (pe_callO (ok_read_table T) (hr.mono (by decide)) rfl (pa_cons (pv 0) (pa_cons (pe_fldK (K := K) (pv 1) rfl rfl) pa_nil)))))))))))), ?_⟩
  intro B p xs its ds d its2 hR
  obtain ⟨⟩ := hR
  rename_i s n is ls c ha h hv hr
  refine sd_seq (sd_asg (ed_fld (d := .lst (dI is)) (ed_var rfl) T.k_Call T.n_Call_integers rfl) (hlt rfl) ?_)
  cases ha with
  | heading k t =>
    refine sd_seq (sd_if (b := true) (et_is (et_test (ed_eq (i := 0) (ed_fld (ed_var rfl) T.k_Call T.n_Call_number rfl) ed_int)) rfl) (fun _ => ?_) (fun z => absurd z (by decide)))
    exact (sd_retS (i := 0) rfl (ea_cons (ed_ixN (x := k) (ed_var rfl) ed_int (atI_nat (j := 0) rfl)) (ea_cons (ed_fld (d := .lst (dI ls)) (ed_var rfl) T.k_Call T.n_Call_listed rfl) ea_nil)) (.mk (by omega)) (fun xs' => ⟨rfl, xs', rfl⟩))
  | para t =>
    refine sd_seq (sd_if (b := false) (et_is (et_test (ed_eq (i := 1) (ed_fld (ed_var rfl) T.k_Call T.n_Call_number rfl) ed_int)) rfl) (fun z => absurd z (by decide)) (fun _ => sd_next ?_))
    refine sd_seq (sd_if (b := true) (et_is (et_test (ed_eq (i := 1) (ed_fld (ed_var rfl) T.k_Call T.n_Call_number rfl) ed_int)) rfl) (fun _ => ?_) (fun z => absurd z (by decide)))
    exact (sd_retS (i := 0) rfl (ea_cons (ed_fld (d := .lst (dI ls)) (ed_var rfl) T.k_Call T.n_Call_listed rfl) ea_nil) (.mk (by omega)) (fun xs' => ⟨rfl, xs', rfl⟩))
  | table k l =>
    refine sd_seq (sd_if (b := false) (et_is (et_test (ed_eq (i := 2) (ed_fld (ed_var rfl) T.k_Call T.n_Call_number rfl) ed_int)) rfl) (fun z => absurd z (by decide)) (fun _ => sd_next ?_))
    refine sd_seq (sd_if (b := false) (et_is (et_test (ed_eq (i := 2) (ed_fld (ed_var rfl) T.k_Call T.n_Call_number rfl) ed_int)) rfl) (fun z => absurd z (by decide)) (fun _ => sd_next ?_))
    refine sd_seq (sd_if (b := true) (et_is (et_test (ed_eq (i := 2) (ed_fld (ed_var rfl) T.k_Call T.n_Call_number rfl) ed_int)) rfl) (fun _ => ?_) (fun z => absurd z (by decide)))
    exact (sd_retS (i := 0) rfl (ea_cons (ed_ixN (x := k) (ed_var rfl) ed_int (atI_nat (j := 0) rfl)) (ea_cons (ed_fld (d := .lst (dI ls)) (ed_var rfl) T.k_Call T.n_Call_listed rfl) ea_nil)) (.mk (by omega) hv) (fun xs' => ⟨rfl, xs', rfl⟩))
  | plot k l =>
    refine sd_seq (sd_if (b := false) (et_is (et_test (ed_eq (i := 3) (ed_fld (ed_var rfl) T.k_Call T.n_Call_number rfl) ed_int)) rfl) (fun z => absurd z (by decide)) (fun _ => sd_next ?_))
    refine sd_seq (sd_if (b := false) (et_is (et_test (ed_eq (i := 3) (ed_fld (ed_var rfl) T.k_Call T.n_Call_number rfl) ed_int)) rfl) (fun z => absurd z (by decide)) (fun _ => sd_next ?_))
    refine sd_seq (sd_if (b := false) (et_is (et_test (ed_eq (i := 3) (ed_fld (ed_var rfl) T.k_Call T.n_Call_number rfl) ed_int)) rfl) (fun z => absurd z (by decide)) (fun _ => sd_next ?_))
    refine sd_seq (sd_if (b := true) (et_is (et_test (ed_eq (i := 3) (ed_fld (ed_var rfl) T.k_Call T.n_Call_number rfl) ed_int)) rfl) (fun _ => ?_) (fun z => absurd z (by decide)))
    exact (sd_retS (i := 0) rfl (ea_cons (ed_ixN (x := k) (ed_var rfl) ed_int (atI_nat (j := 0) rfl)) (ea_cons (ed_fld (d := .lst (dI ls)) (ed_var rfl) T.k_Call T.n_Call_listed rfl) ea_nil)) (.mk (by omega)) (fun xs' => ⟨rfl, xs', rfl⟩))
  | check k t =>
    refine sd_seq (sd_if (b := false) (et_is (et_test (ed_eq (i := 4) (ed_fld (ed_var rfl) T.k_Call T.n_Call_number rfl) ed_int)) rfl) (fun z => absurd z (by decide)) (fun _ => sd_next ?_))
    refine sd_seq (sd_if (b := false) (et_is (et_test (ed_eq (i := 4) (ed_fld (ed_var rfl) T.k_Call T.n_Call_number rfl) ed_int)) rfl) (fun z => absurd z (by decide)) (fun _ => sd_next ?_))
    refine sd_seq (sd_if (b := false) (et_is (et_test (ed_eq (i := 4) (ed_fld (ed_var rfl) T.k_Call T.n_Call_number rfl) ed_int)) rfl) (fun z => absurd z (by decide)) (fun _ => sd_next ?_))
    refine sd_seq (sd_if (b := false) (et_is (et_test (ed_eq (i := 4) (ed_fld (ed_var rfl) T.k_Call T.n_Call_number rfl) ed_int)) rfl) (fun z => absurd z (by decide)) (fun _ => sd_next ?_))
    refine sd_seq (sd_if (b := true) (et_is (et_test (ed_eq (i := 4) (ed_fld (ed_var rfl) T.k_Call T.n_Call_number rfl) ed_int)) rfl) (fun _ => ?_) (fun z => absurd z (by decide)))
    exact (sd_retS (i := 0) rfl (ea_cons (ed_ixN (x := k) (ed_var rfl) ed_int (atI_nat (j := 0) rfl)) (ea_cons (ed_fld (d := .lst (dI ls)) (ed_var rfl) T.k_Call T.n_Call_listed rfl) ea_nil)) (.mk (by omega)) (fun xs' => ⟨rfl, xs', rfl⟩))
  | bars l =>
    refine sd_seq (sd_if (b := false) (et_is (et_test (ed_eq (i := 5) (ed_fld (ed_var rfl) T.k_Call T.n_Call_number rfl) ed_int)) rfl) (fun z => absurd z (by decide)) (fun _ => sd_next ?_))
    refine sd_seq (sd_if (b := false) (et_is (et_test (ed_eq (i := 5) (ed_fld (ed_var rfl) T.k_Call T.n_Call_number rfl) ed_int)) rfl) (fun z => absurd z (by decide)) (fun _ => sd_next ?_))
    refine sd_seq (sd_if (b := false) (et_is (et_test (ed_eq (i := 5) (ed_fld (ed_var rfl) T.k_Call T.n_Call_number rfl) ed_int)) rfl) (fun z => absurd z (by decide)) (fun _ => sd_next ?_))
    refine sd_seq (sd_if (b := false) (et_is (et_test (ed_eq (i := 5) (ed_fld (ed_var rfl) T.k_Call T.n_Call_number rfl) ed_int)) rfl) (fun z => absurd z (by decide)) (fun _ => sd_next ?_))
    refine sd_seq (sd_if (b := false) (et_is (et_test (ed_eq (i := 5) (ed_fld (ed_var rfl) T.k_Call T.n_Call_number rfl) ed_int)) rfl) (fun z => absurd z (by decide)) (fun _ => sd_next ?_))
    refine sd_seq (sd_if (b := true) (et_is (et_test (ed_eq (i := 5) (ed_fld (ed_var rfl) T.k_Call T.n_Call_number rfl) ed_int)) rfl) (fun _ => ?_) (fun z => absurd z (by decide)))
    exact (sd_retS (i := 0) rfl (ea_cons (ed_fld (d := .lst (dI ls)) (ed_var rfl) T.k_Call T.n_Call_listed rfl) ea_nil) (.mk (by omega) hv) (fun xs' => ⟨rfl, xs', rfl⟩))
  | read l =>
    refine sd_seq (sd_if (b := false) (et_is (et_test (ed_eq (i := 14) (ed_fld (ed_var rfl) T.k_Call T.n_Call_number rfl) ed_int)) rfl) (fun z => absurd z (by decide)) (fun _ => sd_next ?_))
    refine sd_seq (sd_if (b := false) (et_is (et_test (ed_eq (i := 14) (ed_fld (ed_var rfl) T.k_Call T.n_Call_number rfl) ed_int)) rfl) (fun z => absurd z (by decide)) (fun _ => sd_next ?_))
    refine sd_seq (sd_if (b := false) (et_is (et_test (ed_eq (i := 14) (ed_fld (ed_var rfl) T.k_Call T.n_Call_number rfl) ed_int)) rfl) (fun z => absurd z (by decide)) (fun _ => sd_next ?_))
    refine sd_seq (sd_if (b := false) (et_is (et_test (ed_eq (i := 14) (ed_fld (ed_var rfl) T.k_Call T.n_Call_number rfl) ed_int)) rfl) (fun z => absurd z (by decide)) (fun _ => sd_next ?_))
    refine sd_seq (sd_if (b := false) (et_is (et_test (ed_eq (i := 14) (ed_fld (ed_var rfl) T.k_Call T.n_Call_number rfl) ed_int)) rfl) (fun z => absurd z (by decide)) (fun _ => sd_next ?_))
    refine sd_seq (sd_if (b := false) (et_is (et_test (ed_eq (i := 14) (ed_fld (ed_var rfl) T.k_Call T.n_Call_number rfl) ed_int)) rfl) (fun z => absurd z (by decide)) (fun _ => sd_next ?_))
    exact (sd_retS (i := 0) rfl (ea_cons (ed_fld (d := .lst (dI ls)) (ed_var rfl) T.k_Call T.n_Call_listed rfl) ea_nil) (.mk h hr) (fun xs' => ⟨rfl, xs', rfl⟩))
theorem vis_has {s : List Vanbkh.Item} {i : Int} : (decide (0 ≤ i) && decide (i ≤ ((((s.map itC).map obD).length : Nat) : Int) - 1)) = hasI s.length i := by
  rw [List.length_map, List.length_map]
  rfl
theorem step_rem (s : List Vanbkh.Item) (i : Int) : Vanbkh.step ⟨s⟩ (.remove i) = match Vanbkh.itemAt ⟨s⟩ i with | none => (⟨s⟩, .error (-11)) | some _ => ({ items := Vanbkh.without s i.toNat }, .numbers [0]) := rfl
theorem without_eq {α : Type} (l : List α) (k : Nat) : l.take k ++ l.drop (k + 1) = l.eraseIdx k := (List.eraseIdx_eq_take_drop_succ l k).symm
inductive r_remove_item : List It0 → List D → D → List It0 → Prop
  | mk {s : List Vanbkh.Item} {i : Int} (h : s.length ≤ 12) : r_remove_item (s.map itC) [.int i] (.lst (dI (stA s (.remove i)))) ((stS s (.remove i)).map itC)
abbrev N_remove_item : List Str := ["items", "index"]
theorem sc_remove_item : FnScope N_remove_item ["items", "index"] (defScope (top 117)) := ⟨rfl, rfl, rfl, by decide +kernel, rfl, by decide +kernel, by decide +kernel⟩
theorem ok_remove_item {Pr : Program} {w : World} {K : PySem.W.Frag} {mg : Str → Option Value} {base : Heap} (T : Tx K mg) : Ok Pr w K mg base 3 "remove_item" ["items", "index"] (spS K r_remove_item) := by
  obtain ⟨fd, F⟩ := T.d_remove_item
  refine ⟨⟨fd, fn_state (N := N_remove_item) F sc_remove_item (fun its ds d its2 h => by cases h; rfl) ?_, F.bindsN fun _ _ _ _ _ _ us hl => match us, hl with | [_, _], _ => rfl⟩, F.kp, T.g_remove_item⟩
  intro cdv A outer s H E hr
  refine ⟨_, (pss_cons (ps_if (pt_not (pt_val (pe_callO (ok_has_item T) (hr.mono (by decide)) rfl (pa_cons (pv 0) (pa_cons (pv 1) pa_nil)))))
 (pss_one (ps_ret (pe_lst (pa_cons (pe_gint rfl T.i_NO_SUCH_ITEM) pa_nil))))
 pss_nil)
 (pss_cons (ps_expr (pe_bm PySem.F.plainAttrs_list PySem.F.slot_list_pop PySem.F.type_list_pop mt_popAt (pv 0) (pa_cons (pv 1) pa_nil)))
 (pss_one (ps_ret (pe_lst (pa_cons pe_int pa_nil)))))), ?_⟩
  intro B p xs its ds d its2 hR
  obtain ⟨⟩ := hR
  rename_i s i hl
  unfold stA stS
  rw [step_rem]
  refine sd_seq (sd_if (b := !hasI s.length i) (et_not (et_is (et_B (ed_callS rfl (ea_cons (ed_var rfl) ea_nil) .mk)) vis_has)) (fun h => ?_) (fun h => ?_))
  · rw [itemAt_none (by simpa using h)]
    exact (sd_ret (en_lst1I ed_int).ed ⟨rfl, _, rfl⟩)
  refine sd_next ?_
  obtain ⟨x, e1, e2, e3, e4, e5, e6⟩ := itemAt_some (xs := s) (i := i) (by simpa using h)
  rw [e1]
  refine sd_lenSt (i := 0) rfl fun hxs => ?_
  rw [List.length_map] at hxs
  refine sd_seq (sd_popSt (i := 0) (k := i.toNat) rfl (ed_var rfl) e5 (by omega) rfl (by omega) ?_)
  refine (sd_ret (en_lst1I ed_int).ed ⟨rfl, xs.eraseIdx i.toNat, ?_⟩)
  show some (Sl.st p _ _) = some (Sl.st p _ ((Vanbkh.without s i.toNat).map itC))
  unfold Vanbkh.without
  rw [without_eq, map_erase]
theorem step_move (s : List Vanbkh.Item) (i j : Int) : Vanbkh.step ⟨s⟩ (.move i j) = if ((Vanbkh.itemAt ⟨s⟩ i).isNone || (Vanbkh.itemAt ⟨s⟩ j).isNone) = true then (⟨s⟩, .error (-11)) else ({ items := Vanbkh.moved s i.toNat j.toNat }, .numbers [0]) := rfl
theorem has_none {s : List Vanbkh.Item} {i : Int} : (Vanbkh.itemAt ⟨s⟩ i).isNone = !hasI s.length i := by
  cases h : hasI s.length i with
  | false => rw [itemAt_none h]; rfl
  | true =>
    obtain ⟨x, e1, _⟩ := itemAt_some h
    rw [e1]
    rfl
inductive r_move_item : List It0 → List D → D → List It0 → Prop
  | mk {s : List Vanbkh.Item} {i j : Int} (h : s.length ≤ 12) : r_move_item (s.map itC) [.int i, .int j] (.lst (dI (stA s (.move i j)))) ((stS s (.move i j)).map itC)
abbrev N_move_item : List Str := ["items", "index", "target", "item"]
theorem sc_move_item : FnScope N_move_item ["items", "index", "target"] (defScope (top 118)) := ⟨rfl, rfl, rfl, by decide +kernel, rfl, by decide +kernel, by decide +kernel⟩
theorem ok_move_item {Pr : Program} {w : World} {K : PySem.W.Frag} {mg : Str → Option Value} {base : Heap} (T : Tx K mg) : Ok Pr w K mg base 3 "move_item" ["items", "index", "target"] (spS K r_move_item) := by
  obtain ⟨fd, F⟩ := T.d_move_item
  refine ⟨⟨fd, fn_state (N := N_move_item) F sc_move_item (fun its ds d its2 h => by cases h; rfl) ?_, F.bindsN fun _ _ _ _ _ _ us hl => match us, hl with | [_, _, _], _ => rfl⟩, F.kp, T.g_move_item⟩
  intro cdv A outer s H E hr
  refine ⟨_, (pss_cons (ps_if (PW.pt (pw_or (pt_not (pt_val (pe_callO (ok_has_item T) (hr.mono (by decide)) rfl (pa_cons (pv 0) (pa_cons (pv 1) pa_nil))))) (pw_or1 (pt_not (pt_val (pe_callO (ok_has_item T) (hr.mono (by decide)) rfl (pa_cons (pv 0) (pa_cons (pv 2) pa_nil))))))))
 (pss_one (ps_ret (pe_lst (pa_cons (pe_gint rfl T.i_NO_SUCH_ITEM) pa_nil))))
 pss_nil)
 (pss_cons (ps_set (i := 3) sc_move_item.nd rfl (Or.inl rfl) (pe_bm PySem.F.plainAttrs_list PySem.F.slot_list_pop PySem.F.type_list_pop mt_popAt (pv 0) (pa_cons (pv 1) pa_nil)))
 (pss_cons (ps_expr (pe_bm PySem.F.plainAttrs_list PySem.F.slot_list_insert PySem.F.type_list_insert mt_insert (pv 0) (pa_cons (pv 2) (pa_cons (pv 3) pa_nil))))
 (pss_one (ps_ret (pe_lst (pa_cons pe_int pa_nil))))))), ?_⟩
  intro B p xs its ds d its2 hR
  obtain ⟨⟩ := hR
  rename_i s i j hl
  unfold stA stS
  rw [step_move, has_none, has_none]
  refine sd_seq (sd_if (b := (!hasI s.length i || !hasI s.length j)) (et_or (et_not (et_is (et_B (ed_callS rfl (ea_cons (ed_var rfl) ea_nil) .mk)) vis_has)) (fun h => (et_not (et_is (et_B (ed_callS rfl (ea_cons (ed_var rfl) ea_nil) .mk)) vis_has)))) (fun h => ?_) (fun h => ?_))
  · rw [if_pos h]
    exact (sd_ret (en_lst1I ed_int).ed ⟨rfl, _, rfl⟩)
  refine sd_next ?_
  rw [if_neg (by rw [h]; simp)]
  have hh : hasI s.length i = true ∧ hasI s.length j = true := by simpa using h
  obtain ⟨x, e1, e2, e3, e4, e5, e6⟩ := itemAt_some hh.1
  obtain ⟨y, f1, f2, f3, f4, f5, f6⟩ := itemAt_some hh.2
  refine sd_lenSt (i := 0) rfl fun hxs => ?_
  rw [List.length_map] at hxs
  have hit : (s.map itC)[i.toNat]? = some (itC x) := by rw [List.getElem?_map, e4]; rfl
  refine sd_moveSt (i := 0) (j := 3) (k := i.toNat) (m := 2) (y := j) rfl (ed_var rfl) e5 (by omega) rfl (by omega) hit (by omega) (by decide) (hlt rfl) ⟨_, rfl, rfl⟩ (by decide) rfl f5 (by omega) (fun x' hx' => ?_)
  refine (sd_ret (en_lst1I ed_int).ed ⟨rfl, moveL xs i.toNat j.toNat x', ?_⟩)
  show some (Sl.st p _ _) = some (Sl.st p _ ((Vanbkh.moved s i.toNat j.toNat).map itC))
  have em : Vanbkh.moved s i.toNat j.toNat = moveL s i.toNat j.toNat x := by
    unfold Vanbkh.moved moveL Vanbkh.without
    rw [e4, without_eq]
    simp
  have em2 : moveL (s.map itC) i.toNat j.toNat (itC x) = (moveL s i.toNat j.toNat x).map itC := by
    unfold moveL
    rw [map_erase, List.map_append, List.map_append, List.map_take, List.map_drop]
    rfl
  rw [em, em2]
inductive r_has_column : List D → D → Prop
  | mk {x : Vanbkh.Table} {k : Int} : r_has_column [dT x, .int k] (.bl (Vanbkh.isBetween k 0 (Vanbkh.ofNat x.headers.length - 1)))
abbrev N_has_column : List Str := ["table", "column"]
theorem sc_has_column : FnScope N_has_column ["table", "column"] (defScope (top 120)) := ⟨rfl, rfl, rfl, by decide +kernel, rfl, by decide +kernel, by decide +kernel⟩
theorem ok_has_column {Pr : Program} {w : World} {K : PySem.W.Frag} {mg : Str → Option Value} {base : Heap} (T : Tx K mg) : Ok Pr w K mg base 2 "has_column" ["table", "column"] (spR K r_has_column) := by
  obtain ⟨fd, F⟩ := T.d_has_column
  refine ⟨⟨fd, fn_pure (N := N_has_column) F sc_has_column (fun ds d h => by cases h; rfl) ?_, F.bindsN fun _ _ _ _ _ _ us hl => match us, hl with | [_, _], _ => rfl⟩, F.kp, T.g_has_column⟩
  intro cdv A outer s H E hr
  refine ⟨_, (pss_one (ps_ret (pe_callO (ok_is_within T) (hr.mono (by decide)) rfl (pa_cons (pv 1) (pa_cons pe_int (pa_cons (pe_op op_sub (pe_callB (r := rLenQ K) call_len_seq (by rfl) T.f_len (by decide +kernel) (pa_cons (pe_fldK (K := K) (pv 0) rfl rfl) pa_nil)) pe_int) pa_nil)))))), ?_⟩
  intro B ds d hR
  obtain ⟨⟩ := hR
  rename_i x k
  exact (sd_ret (ed_call (ea_cons (ed_var rfl) (ea_cons ed_int (ea_cons (ed_sub (ed_is (ed_lenM (l := x.headers.map Vanbkh.Cell.text) (f := dC) (ed_fld (fs := tbl x) (ed_var rfl) T.k_Table T.n_Table_headers rfl)) (e := .int (x.headers.length : Nat)) (by rw [List.length_map])) ed_int) ea_nil))) (.mk)) rfl)
inductive r_cells_in_columns : List D → D → Prop
  | mk {r : List Vanbkh.Cell} {ks : List Int} (h : ks.length ≤ 1000) (hk : ∀ k ∈ ks, 0 ≤ k ∧ k < r.length) : r_cells_in_columns [dCs r, .lst (dI ks)] (dCs ((ks.map Int.toNat).filterMap fun k => r[k]?))
theorem pick_eq {α : Type} (r : List α) [Inhabited α] : ∀ ks : List Int, (∀ k ∈ ks, 0 ≤ k ∧ k < r.length) → (ks.map Int.toNat).filterMap (fun k => r[k]?) = ks.map fun k => r.getD k.toNat default
  | [], _ => rfl
  | k :: ks, h => by
    have hk := h k (by simp)
    have hl : k.toNat < r.length := by omega
    rw [List.map_cons, List.filterMap_cons, List.getElem?_eq_getElem hl]
    show _ :: _ = _ :: _
    rw [pick_eq r ks fun j hj => h j (by simp [hj])]
    congr 1
    show r[k.toNat] = r.getD k.toNat default
    rw [List.getD_eq_getElem?_getD, List.getElem?_eq_getElem hl]
    rfl
abbrev N_cells_in_columns : List Str := ["row", "columns", "column"]
theorem sc_cells_in_columns : FnScope N_cells_in_columns ["row", "columns"] (defScope (top 122)) := ⟨rfl, rfl, rfl, by decide +kernel, rfl, by decide +kernel, by decide +kernel⟩
theorem ok_cells_in_columns {Pr : Program} {w : World} {K : PySem.W.Frag} {mg : Str → Option Value} {base : Heap} (T : Tx K mg) : Ok Pr w K mg base 1 "cells_in_columns" ["row", "columns"] (spR K r_cells_in_columns) := by
  obtain ⟨fd, F⟩ := T.d_cells_in_columns
  refine ⟨⟨fd, fn_pure (N := N_cells_in_columns) F sc_cells_in_columns (fun ds d h => by cases h; rfl) ?_, F.bindsN fun _ _ _ _ _ _ us hl => match us, hl with | [_, _], _ => rfl⟩, F.kp, T.g_cells_in_columns⟩
  intro cdv A outer s H E hr
  refine ⟨_, (pss_one (ps_ret (pe_lc (own := [("column", 2)]) (g := gName 2) (tt := tYes) rfl sc_cells_in_columns.nd (pi_list (pv 1)) (blkOk_by (own := [("column", 2)]) (N := N_cells_in_columns) (sc := (defScope (top 122))) (by decide +kernel)) (fun _ _ _ _ _ => pg_name (i := 2) sc_cells_in_columns.nd rfl (Or.inl rfl)) (fun _ _ _ _ _ => pts_nil) (fun _ _ _ _ _ => (pe_ix (r := rIxL K) ix_list (pv 0) (pv 2) (fun _ _ => rfl)))))), ?_⟩
  intro B ds d hR
  obtain ⟨⟩ := hR
  rename_i r ks h hk
  have : Inhabited Vanbkh.Cell := ⟨.number 0⟩
  refine (sd_ret (en_is (es := ((ks.map Int.toNat).filterMap fun k => r[k]?).map dC) (en_lcL (f := D.int) (l := ks) (g := fun k => dC (r.getD k.toNat default)) (dw_listL (ed_var rfl)) rfl rfl (fun x hx => (ed_ix (ds := r.map dC) (ed_var rfl) (ed_var rfl) (atI_map dC (atI_lt (hk x hx).1 ?_)))) (by omega)) ?_).ed rfl)
  · have := hk x hx
    rw [List.getD_eq_getElem?_getD, List.getElem?_eq_getElem (by omega)]
    rfl
  · rw [pick_eq r ks hk, List.map_map]
    rfl
end Rl
namespace Rl
open PySem PySem.Spec PyProof.Rows L2 Dg

theorem put_h (v a b c : V) : putF ("headers" : Str) v [(("kind" : Str), a), ("headers", b), ("rows", c)] = [(("kind" : Str), a), ("headers", v), ("rows", c)] := by rfl
theorem put_r (v a b c : V) : putF ("rows" : Str) v [(("kind" : Str), a), ("headers", b), ("rows", c)] = [(("kind" : Str), a), ("headers", b), ("rows", v)] := by rfl
def tabF (h r : D) : List (Str × D) := [("kind", .int 2), ("headers", h), ("rows", r)]
theorem tabF_h {K : PySem.W.Frag} {h r d : D} (G : Hp) (vs : List (Str × V)) (v : V) (a : Afs K G vs (tabF h r)) (b : At K G v d) : Afs K G (putF "headers" v vs) (tabF d r) := by
  cases a with
  | cons a1 a => cases a with
    | cons a2 a => cases a with
      | cons a3 a =>
        cases a
        rw [put_h]
        exact .cons a1 (.cons b (.cons a3 .nil))
theorem tabF_r {K : PySem.W.Frag} {h r d : D} (G : Hp) (vs : List (Str × V)) (v : V) (a : Afs K G vs (tabF h r)) (b : At K G v d) : Afs K G (putF "rows" v vs) (tabF h d) := by
  cases a with
  | cons a1 a => cases a with
    | cons a2 a => cases a with
      | cons a3 a =>
        cases a
        rw [put_r]
        exact .cons a1 (.cons a2 (.cons b .nil))
theorem ed_isTabA {K : PySem.W.Frag} {mg : Str → Option Value} {B : Bs} {δ : List Sl} {i j k : Nat} {p x0 : Addr} {xs : List Addr} {its : List It0} {x : Vanbkh.Item} (T : Tx K mg) (hi : δ[i]? = some (.st p xs its)) (hj : δ[j]? = some (.al x0)) (hx : xs[k]? = some x0) (ht : its[k]? = some (itC x)) :
    ED K B δ (tCB (rIsi K) (tCons (tVar j) (tCons (tC (.ref (He.ga K "Table"))) tNil))) (.bl (isTab x)) := by
  cases x with
  | heading a b => exact ed_is (ed_isiA hi hj hx ht (T.ty "Heading" (by decide) T.k_Heading) (T.kit "Heading" "Table" (by decide) (by decide))) (congrArg D.bl (Eq.trans (b := false) (by decide) rfl))
  | paragraph t => exact ed_is (ed_isiA hi hj hx ht (T.ty "Paragraph" (by decide) T.k_Paragraph) (T.kit "Paragraph" "Table" (by decide) (by decide))) (congrArg D.bl (Eq.trans (b := false) (by decide) rfl))
  | table t => exact ed_is (ed_isiA hi hj hx ht (T.ty "Table" (by decide) T.k_Table) (T.kit "Table" "Table" (by decide) (by decide))) (congrArg D.bl (Eq.trans (b := true) (by decide) rfl))
  | plot a b => exact ed_is (ed_isiA hi hj hx ht (T.ty "Plot" (by decide) T.k_Plot) (T.kit "Plot" "Table" (by decide) (by decide))) (congrArg D.bl (Eq.trans (b := false) (by decide) rfl))
  | check a b => exact ed_is (ed_isiA hi hj hx ht (T.ty "Check" (by decide) T.k_Check) (T.kit "Check" "Table" (by decide) (by decide))) (congrArg D.bl (Eq.trans (b := false) (by decide) rfl))
  | bars l => exact ed_is (ed_isiA hi hj hx ht (T.ty "BarChart" (by decide) T.k_BarChart) (T.kit "BarChart" "Table" (by decide) (by decide))) (congrArg D.bl (Eq.trans (b := false) (by decide) rfl))
def selBad (ks : List Int) : Bool := ks.isEmpty || decide (Vanbkh.maxColumns < ks.length)
def selOut (ks : List Int) (t : Vanbkh.Table) : Bool := ks.any fun k => !Vanbkh.isBetween k 0 (Vanbkh.ofNat t.headers.length - 1)
def onT (s : List Vanbkh.Item) (i : Int) (x : Option Vanbkh.Item) (a b : Vanbkh.Table → Bool) (n m : Int) (f : Vanbkh.Table → Vanbkh.Table) : Vanbkh.State × Vanbkh.Answer := match x with
  | none => (⟨s⟩, .error (-11))
  | some (.table t) => if a t = true then (⟨s⟩, .error n) else if b t = true then (⟨s⟩, .error m) else ({ items := s.set i.toNat (.table (f t)) }, .numbers [0])
  | some _ => (⟨s⟩, .error (-12))
theorem onT_eq (s : List Vanbkh.Item) (i : Int) (a b : Vanbkh.Table → Bool) (n m : Int) (f : Vanbkh.Table → Vanbkh.Table) : Vanbkh.onTable ⟨s⟩ i (fun t => [(a t, n), (b t, m)]) f = onT s i (Vanbkh.itemAt ⟨s⟩ i) a b n m f := by
  unfold Vanbkh.onTable onT
  cases Vanbkh.itemAt ⟨s⟩ i with
  | none => rfl
  | some x =>
    cases x with
    | table t => cases ha : a t <;> cases hb : b t <;> simp [Vanbkh.firstError, ha, hb]
    | heading _ _ => rfl
    | paragraph _ => rfl
    | plot _ _ => rfl
    | check _ _ => rfl
    | bars _ => rfl
theorem onT_non {s : List Vanbkh.Item} {i : Int} {x : Vanbkh.Item} {a b : Vanbkh.Table → Bool} {n m : Int} {f : Vanbkh.Table → Vanbkh.Table} (h : isTab x = false) : onT s i (some x) a b n m f = (⟨s⟩, .error (-12)) := by
  cases x with
  | table t => cases h
  | heading _ _ => rfl
  | paragraph _ => rfl
  | plot _ _ => rfl
  | check _ _ => rfl
  | bars _ => rfl
inductive r_select_columns : List It0 → List D → D → List It0 → Prop
  | mk {s : List Vanbkh.Item} {i : Int} {ks : List Int} (hs : VS s) (h : ks.length ≤ 1000) : r_select_columns (s.map itC) [.int i, .lst (dI ks)] (.lst (dI (stA s (.select i ks)))) ((stS s (.select i ks)).map itC)
abbrev N_select_columns : List Str := ["items", "index", "columns", "table", "column", "row"]
theorem sc_select_columns : FnScope N_select_columns ["items", "index", "columns"] (defScope (top 123)) := ⟨rfl, rfl, rfl, by decide +kernel, rfl, by decide +kernel, by decide +kernel⟩
theorem ok_select_columns {Pr : Program} {w : World} {K : PySem.W.Frag} {mg : Str → Option Value} {base : Heap} (T : Tx K mg) : Ok Pr w K mg base 3 "select_columns" ["items", "index", "columns"] (spS K r_select_columns) := by
  obtain ⟨fd, F⟩ := T.d_select_columns
  refine ⟨⟨fd, fn_state (N := N_select_columns) F sc_select_columns (fun its ds d its2 h => by cases h; rfl) ?_, F.bindsN fun _ _ _ _ _ _ us hl => match us, hl with | [_, _, _], _ => rfl⟩, F.kp, T.g_select_columns⟩
  intro cdv A outer s H E hr
  refine ⟨_, (pss_cons (ps_if (pt_not (pt_val (pe_callO (ok_has_item T) (hr.mono (by decide)) rfl (pa_cons (pv 0) (pa_cons (pv 1) pa_nil)))))
 (pss_one (ps_ret (pe_lst (pa_cons (pe_gint rfl T.i_NO_SUCH_ITEM) pa_nil))))
 pss_nil)
 (pss_cons (ps_set (i := 3) sc_select_columns.nd rfl (Or.inr rfl) (pe_ix (r := rIxL K) ix_list (pv 0) (pv 1) (fun _ _ => rfl)))
 (pss_cons (ps_if (pt_not (pt_val (pe_callB (r := rIsi K) call_isi (by rfl) T.f_isinstance (by decide +kernel) (pa_cons (pv 3) (pa_cons (pe_gref rfl T.g_Table) pa_nil)))))
 (pss_one (ps_ret (pe_lst (pa_cons (pe_gint rfl T.i_NOT_A_TABLE) pa_nil))))
 pss_nil)
 (pss_cons (ps_if (pt_not (pt_val (pe_callO (ok_is_within T) (hr.mono (by decide)) rfl (pa_cons (pe_callB (r := rLenQ K) call_len_seq (by rfl) T.f_len (by decide +kernel) (pa_cons (pv 2) pa_nil)) (pa_cons pe_int (pa_cons (pe_gint rfl T.i_MOST_COLUMNS) pa_nil))))))
 (pss_one (ps_ret (pe_lst (pa_cons (pe_gint rfl T.i_BAD_COLUMN_COUNT) pa_nil))))
 pss_nil)
 (pss_cons (ps_if (pt_not (pt_val (pe_callB (r := rAll K) (cr_all rfl) (by rfl) T.f_all (by decide +kernel) (pa_cons (pe_lc (own := [("column", 4)]) (g := gName 4) (tt := tYes) rfl sc_select_columns.nd (pi_list (pv 2)) (blkOk_by (own := [("column", 4)]) (N := N_select_columns) (sc := (defScope (top 123))) (by decide +kernel)) (fun _ _ _ _ _ => pg_name (i := 4) sc_select_columns.nd rfl (Or.inl rfl)) (fun _ _ _ _ _ => pts_nil) (fun _ _ _ _ _ => (pe_callO (ok_has_column T) (hr.mono (by decide)) rfl (pa_cons (pv 3) (pa_cons (pv 4) pa_nil))))) pa_nil))))
 (pss_one (ps_ret (pe_lst (pa_cons (pe_gint rfl T.i_NO_SUCH_COLUMN) pa_nil))))
 pss_nil)
 (pss_cons (ps_fld (pv 3) (pe_callO (ok_cells_in_columns T) (hr.mono (by decide)) rfl (pa_cons (pe_fldK (K := K) (pv 3) rfl rfl) (pa_cons (pv 2) pa_nil))) rfl)
 (pss_cons (ps_fld (pv 3) (pe_lc (own := [("row", 5)]) (g := gName 5) (tt := tYes) rfl sc_select_columns.nd (pi_list (pe_fldK (K := K) (pv 3) rfl rfl)) (blkOk_by (own := [("row", 5)]) (N := N_select_columns) (sc := (defScope (top 123))) (by decide +kernel)) (fun _ _ _ _ _ => pg_name (i := 5) sc_select_columns.nd rfl (Or.inl rfl)) (fun _ _ _ _ _ => pts_nil) (fun _ _ _ _ _ => (pe_callO (ok_cells_in_columns T) (hr.mono (by decide)) rfl (pa_cons (pv 5) (pa_cons (pv 2) pa_nil))))) rfl)
 (pss_one (ps_ret (pe_lst (pa_cons pe_int pa_nil))))))))))), ?_⟩
  intro B p xs its ds d its2 hR
  obtain ⟨⟩ := hR
  rename_i s i ks hs hl
  have hl12 := hs.2
  have e : Vanbkh.step ⟨s⟩ (.select i ks) = _ := onT_eq s i (fun _ => selBad ks) (selOut ks) (-4) (-13) (Vanbkh.selectColumns (ks.map Int.toNat))
  unfold stA stS
  rw [e]
  refine sd_seq (sd_if (b := !hasI s.length i) (et_not (et_is (et_B (ed_callS rfl (ea_cons (ed_var rfl) ea_nil) .mk)) vis_has)) (fun h => ?_) (fun h => ?_))
  · rw [itemAt_none (by simpa using h)]
    exact (sd_ret (en_lst1I ed_int).ed ⟨rfl, _, rfl⟩)
  refine sd_next ?_
  obtain ⟨x, e1, e2, e3, e4, e5, e6⟩ := itemAt_some (xs := s) (i := i) (by simpa using h)
  rw [e1]
  refine sd_lenSt (i := 0) rfl fun hxs => ?_
  rw [List.length_map] at hxs
  have hx : xs[i.toNat]? = some xs[i.toNat] := List.getElem?_eq_getElem (by omega)
  have ht : (s.map itC)[i.toNat]? = some (itC x) := by rw [List.getElem?_map, e4]; rfl
  refine sd_seq (sd_asgIx (i := 0) (j := 3) (k := 0) rfl (ed_var rfl) (atI_lt e5 hx) (hlt rfl) ?_ (by decide) ⟨_, rfl, rfl⟩)
  generalize xs[i.toNat] = x0 at *
  refine sd_seq (sd_if (b := !isTab x) (et_not (et_B (ed_isTabA (i := 0) (j := 3) T rfl rfl hx ht))) (fun h => ?_) (fun h => ?_))
  · rw [onT_non (by simpa using h)]
    exact (sd_ret (en_lst1I ed_int).ed ⟨rfl, _, rfl⟩)
  refine sd_next ?_
  obtain ⟨t, rfl⟩ := tab_of (x := x) (by simpa using h)
  have v : VT t := hs.1 _ e3
  have eo : onT s i (some (.table t)) (fun _ => selBad ks) (selOut ks) (-4) (-13) (Vanbkh.selectColumns (ks.map Int.toNat)) = if selBad ks = true then (⟨s⟩, .error (-4)) else if selOut ks t = true then (⟨s⟩, .error (-13)) else ({ items := s.set i.toNat (.table (Vanbkh.selectColumns (ks.map Int.toNat) t)) }, .numbers [0]) := rfl
  rw [eo]
  refine sd_seq (sd_if (b := selBad ks) (et_is (et_not (et_B (ed_call (ea_cons (ed_lenN (ed_var rfl)) (ea_cons ed_int (ea_cons ed_int ea_nil))) (.mk)))) ?_) (fun h => ?_) (fun h => ?_))
  · unfold selBad Vanbkh.maxColumns
    cases ks with
    | nil => rfl
    | cons a r =>
      show (!(decide ((1 : Int) ≤ ((a :: r).length : Nat)) && decide ((((a :: r).length : Nat) : Int) ≤ 8))) = (false || decide (8 < (a :: r).length))
      rw [Bool.eq_iff_iff]
      simp
      omega
  · rw [if_pos h]
    exact (sd_ret (en_lst1I ed_int).ed ⟨rfl, _, rfl⟩)
  refine sd_next ?_
  rw [if_neg (by rw [h]; simp)]
  refine sd_seq (sd_if (b := selOut ks t) (et_is (et_not (et_B (ed_all (ed_is (en_lcL (f := D.int) (l := ks) (g := fun k => D.bl (Vanbkh.isBetween k 0 (Vanbkh.ofNat t.headers.length - 1))) (dw_listL (ed_var rfl)) rfl rfl (fun y hy => (ed_callAl (i := 0) (j := 3) (it := itC (.table t)) rfl rfl hx ht (ea_cons (ed_var rfl) ea_nil) (.mk (x := t)))) (by omega)).ed (e := .lst ((ks.map fun k => Vanbkh.isBetween k 0 (Vanbkh.ofNat t.headers.length - 1)).map D.bl)) (by rw [List.map_map]; rfl))))) ?_) (fun h => ?_) (fun h => ?_))
  · rw [List.all_map]
    exact not_all _ _
  · rw [if_pos h]
    exact (sd_ret (en_lst1I ed_int).ed ⟨rfl, _, rfl⟩)
  refine sd_next ?_
  rw [if_neg (by rw [h]; simp)]
  have hk : ∀ k ∈ ks, 0 ≤ k ∧ k < t.headers.length := fun k hk => by
    unfold selOut at h
    have := List.any_eq_false.mp h k hk
    unfold Vanbkh.isBetween Vanbkh.ofNat at this
    simp at this
    omega
  have hh := v.row (t.headers.map .text) (by simp [mRowsH])
  refine sd_seq (sd_setFld (i := 0) (j := 3) (c := "Table") (fs := tabF (dCs (t.headers.map .text)) (dRows t.rows)) rfl rfl hx ht T.k_Table T.n_Table_headers (ed_call (ea_cons (ed_fldA (i := 0) (j := 3) (it := itC (.table t)) (d := dCs (t.headers.map .text)) rfl rfl hx ht T.k_Table T.n_Table_headers rfl) (ea_cons (ed_var rfl) ea_nil)) (.mk hl (fun k hkk => by have := hk k hkk; rw [hh.1]; exact this))) (by show 3 < 1000; decide) tabF_h ?_)
  have hklt : i.toNat < (s.map itC).length := by rw [List.length_map]; exact e6
  have ht2 : ((s.map itC).set i.toNat (("Table" : Str), tabF (dCs ((ks.map Int.toNat).filterMap fun k => (t.headers.map Vanbkh.Cell.text)[k]?)) (dRows t.rows)))[i.toNat]? = some (("Table" : Str), tabF (dCs ((ks.map Int.toNat).filterMap fun k => (t.headers.map Vanbkh.Cell.text)[k]?)) (dRows t.rows)) := List.getElem?_set_self hklt
  have vrs := v.rs
  refine sd_seq (sd_setFld (i := 0) (j := 3) (c := "Table") (fs := tabF (dCs ((ks.map Int.toNat).filterMap fun k => (t.headers.map Vanbkh.Cell.text)[k]?)) (dRows t.rows)) rfl rfl hx ht2 T.k_Table T.n_Table_rows (en_lcL (f := dCs) (l := t.rows) (g := fun r => dCs ((ks.map Int.toNat).filterMap fun k => r[k]?)) (dw_listL (ed_fldA (i := 0) (j := 3) (it := ("Table", tabF (dCs ((ks.map Int.toNat).filterMap fun k => (t.headers.map Vanbkh.Cell.text)[k]?)) (dRows t.rows))) (d := dRows t.rows) rfl rfl hx ht2 T.k_Table T.n_Table_rows rfl)) rfl rfl (fun y hy => (ed_call (ea_cons (ed_var rfl) (ea_cons (ed_var rfl) ea_nil)) (.mk hl (fun k hkk => by have := hk k hkk; have q := (v.row y (by simp [mRowsH, hy])).1; rw [q]; exact this)))) (by omega)).ed (by show 3 < 1000; decide) tabF_r ?_)
  refine (sd_ret (en_lst1I ed_int).ed ⟨rfl, xs, ?_⟩)
  show some (Sl.st p xs _) = some (Sl.st p xs ((s.set i.toNat (.table (Vanbkh.selectColumns (ks.map Int.toNat) t))).map itC))
  rw [List.map_set, List.set_set]
  have eh : (ks.map Int.toNat).filterMap (fun k => (t.headers.map Vanbkh.Cell.text)[k]?) = ((ks.map Int.toNat).filterMap fun k => t.headers[k]?).map Vanbkh.Cell.text := by
    rw [List.map_filterMap]
    congr 1
    funext k
    rw [List.getElem?_map]
  rw [eh]
  show some (Sl.st p xs ((s.map itC).set i.toNat (("Table" : Str), tabF _ (.lst (t.rows.map fun r => dCs ((ks.map Int.toNat).filterMap fun k => r[k]?)))))) = some (Sl.st p xs ((s.map itC).set i.toNat (("Table" : Str), tabF _ (.lst ((t.rows.map fun r => (ks.map Int.toNat).filterMap fun k => r[k]?).map dCs)))))
  rw [List.map_map]
  rfl
end Rl
namespace Dg
open PySem PySem.Spec PyProof.Rows L2 NdefX LamX Rl
section
variable {K : PySem.W.Frag} {mg : Str → Option Value} {B : Bs} {G G' H H' H4 : Hp} {σ : L2.St} {δ : List Sl} {X : List Addr} {ta : TA} {t u : TS} {d : D} {p : Addr} {xs : List Addr} {its its' : List It0}
/-- told of the base with its tables grown, told of the base -/
theorem RTB.up (S : SA K B G H σ δ X) (O : OkB K B p xs) (e : ExtN H H4) {v : V} (h : RTB K (upB B H4) p xs its' d v H') : RTB K B p xs its' d v H' := by
  obtain ⟨G', xs', P⟩ := h
  have key : ∀ a o, B.H0 a = some o → noTbl o → a ∉ p :: xs → upH B H4 a = some o := fun a o ha no na => by
    have h1 := e a o (S.rel.h a o ha fun w => na ((O.w a).mp w)) no
    by_cases q : tabO o = true
    · exact upH_tab h1 q
    · exact upH_old ha (by simpa using q) fun u hu => by
        rw [h1] at hu
        cases hu
        simpa using q
  refine ⟨G', xs', P.g, fun a o ha no na => P.h a o (key a o ha no na) no na, P.s, fun a o ha no na ga => P.f a o (key a o ha no na) no na ga, P.pg, P.l, P.i, P.n, fun q m => ⟨?_, (P.q q m).2⟩, P.v, P.tb⟩
  by_cases hx : q ∈ xs
  · exact .inl hx
  have hp : q ∉ p :: xs := fun z => by
    rcases List.mem_cons.mp z with z | z
    · exact (List.nodup_cons.mp P.n).1 (z ▸ m)
    · exact hx z
  refine .inr ?_
  cases ho : B.H0 q with
  | none => exact .inl rfl
  | some o =>
    by_cases no : noTbl o
    · exfalso
      have hk := key q o ho no hp
      rcases (P.q q m).1 with z | z | ⟨ps, z⟩
      · exact hx z
      · have z' : upH B H4 q = none := z
        rw [hk] at z'
        cases z'
      · have z' : upH B H4 q = some (.tbl ps) := z
        rw [hk] at z'
        cases z'
        exact no ps rfl
    · refine .inr ?_
      cases o with
      | tbl ps => exact ⟨ps, rfl⟩
      | _ => exact (no fun ps z => by cases z).elim
/-- table.rows = order_rows(..) -/
theorem sdr_order {i j k : Nat} {x : Addr} {tb : Vanbkh.Table} {c e : Int} {E0 : XK} (T : Tx K mg) (O : OkB K B p xs) (hi : δ[i]? = some (.st p xs its)) (hj : δ[j]? = some (.al x)) (hx : xs[k]? = some x) (ht : its[k]? = some (itC (.table tb))) (ha : EA K B δ ta [dRows tb.rows, .int c, .int e]) (hcol : ∀ r ∈ tb.rows, 0 ≤ c ∧ c < r.length)
    (q : ∀ B4, SD K B4 (δ.set i (.st p xs (its.set k (itC (.table { tb with rows := tb.rows.mergeSort (rowLe (decide (e = 1)) c.toNat) }))))) u { n := fun _ => False, r := fun d' δ' => d' = d ∧ ∃ xs', δ'[0]? = some (.st p xs' its') }) :
    SDR K B δ (tSeq (sFld K (tVar j) (tCall (spOrd K) [] E0 ta) "rows") u) (RTB K B p xs its' d) := fun G H σ S E kk => by
  refine ha G H σ [] S _ fun vs G1 H1 x1 x2 S1 a => ?_
  have S2 := S1.dat O.nt
  show spOrd K (vs ++ []) H1 _ E0
  rw [List.append_nil]
  cases a with
  | cons a1 a =>
    cases a with
    | cons a2 a =>
      cases a with
      | cons a3 a =>
        cases a
        rw [a2.int_eq, a3.int_eq]
        refine ⟨noT G1, _, tb.rows, c, e, rfl, S2.rel.s, nt_noT, a1.dat, hcol, S2.tabs O, fun H3 pn ys eN nn T3 hp hys => ?_⟩
        have dom3 : ∀ a, H1 a ≠ none → H3 a ≠ none := fun a h z => h (nn a z)
        have eN4 : ExtN H1 (upd H3 pn (.lst ys)) := fun b o hb no => by
          have := eN b o hb no
          rw [upd_ne (ne_of_none this hp)]
          exact this
        have S3 := S2.up nt_noT eN dom3
        have S4 := (S2.up nt_noT eN dom3).fresh (o := .lst ys) hp
        have f1 := S4.st hi
        obtain ⟨_, f1, f2, f3, f4⟩ := f1
        have np := (List.nodup_cons.mp f3)
        obtain ⟨x', hx', dx, ws, h1, h2⟩ := paired_at f2 ht
        rw [hx] at hx'
        cases hx'
        have xm : x ∈ xs := List.mem_of_getElem? hx
        have pne : p ≠ x := fun z => np.1 (by rw [z]; exact xm)
        have ap : At K (upd (noT G1) pn (.lst ys)) (.ref pn) (dRows (tb.rows.mergeSort (rowLe (decide (e = 1)) c.toNat))) := .lst upd_same (hys.mono (Ex.new (S3.rel.s.none hp)))
        refine ⟨_, S4.al hj, x, _, dx, ws, rfl, h1, T.k_Table, T.n_Table_rows, by rw [h2.length]; exact (by decide : 3 < 1000), ?_⟩
        have S5 := S4.stSet (H2 := upd (upd H3 pn (.lst ys)) x (.ins (He.ga K (itC (.table tb)).1) dx (putF "rows" (.ref pn) ws))) (its' := its.set k (itC (.table { tb with rows := tb.rows.mergeSort (rowLe (decide (e = 1)) c.toNat) }))) hi f3 (fun _ m => m) (by rw [upd_ne pne]; exact f1) (fun a m => upd_ne (fun z => m (by rw [z]; exact List.mem_cons_of_mem _ xm))) upd_dom (paired_setAt f2 np.2 hx (fun a b ne ⟨dx', vs', w1, w2⟩ => ⟨dx', vs', by rw [upd_ne ne]; exact w1, w2⟩) ⟨dx, putF "rows" (.ref pn) ws, upd_same, tabF_r _ _ _ h2 ap⟩)
        have O4 : OkB K (upB B H3) p xs := by
          refine ⟨O.nt, tabsN_keep T3 fun a o h t => upH_tab h t, O.w, fun a m => ?_⟩
          obtain ⟨o, ho, to⟩ := O.k a m
          refine ⟨o, upH_old ho to fun u hu => ?_, to⟩
          have kinds : ∃ o, H1 a = some o ∧ tabO o = false := by
            obtain ⟨_, g1, g2, _⟩ := S2.st hi
            rcases List.mem_cons.mp m with rfl | m
            · exact ⟨_, g1, rfl⟩
            · have all : ∀ {xs : List Addr} {its : List It0}, Paired (ItA K (noT G1) H1) xs its → a ∈ xs → ∃ o, H1 a = some o ∧ tabO o = false := by
                intro xs its b
                induction b with
                | nil => intro m; simp at m
                | cons r t ih =>
                  intro m
                  rcases List.mem_cons.mp m with rfl | m
                  · obtain ⟨dx, vs, h1, _⟩ := r
                    exact ⟨_, h1, rfl⟩
                  · exact ih m
              exact all g2 m
          obtain ⟨o1, h1, t1⟩ := kinds
          have := extN_keep eN h1 t1
          rw [this] at hu
          cases hu
          exact t1
        exact (sdr_of O4 (q _)) _ _ σ S5 E fun v H' R => kk v H' (R.up S2 O eN)
end
end Dg
namespace Dg
open PySem PySem.Spec PyProof.Rows L2 NdefX LamX Rl
/-! ### the outermost def: its base moves -/
def tabOnly (H : Hp) : Hp := fun a => match H a with
  | some o => if tabO o = true then some o else none
  | none => none
def baseT (H : Hp) : Bs := ⟨fun _ => none, tabOnly H, fun _ => False⟩
structure Good (K : PySem.W.Frag) (B : Bs) : Prop where
  g : ∀ a, B.G0 a = none
  w : ∀ a, ¬ B.W a
  t : TabsN (tabs K) B.H0
  o : ∀ a o, B.H0 a = some o → tabO o = true
def SDM (K : PySem.W.Frag) (δ : List Sl) (t : TS) (N : List Sl → Prop) (RT : V → Hp → Prop) : Prop := ∀ B G H σ, Good K B → NT G → SA K B G H σ δ [] → ∀ E : Ends,
  (∀ B' G' H' σ' δ', Good K B' → NT G' → Ex G G' → SA K B' G' H' σ' δ' [] → N δ' → E.nx σ' H') → (∀ v H', RT v H' → E.rt v H') → t E σ H
section
variable {K : PySem.W.Frag} {B : Bs} {G G' H H' : Hp} {σ : L2.St} {δ : List Sl} {ta : TA} {te : TE} {t u tb : TS} {d : D} {N : List Sl → Prop} {RT : V → Hp → Prop}
theorem tabOnly_of {a : Addr} {o : HO} (h : H a = some o) (t : tabO o = true) : tabOnly H a = some o := by
  unfold tabOnly
  rw [h]
  exact if_pos t
theorem of_tabOnly {a : Addr} {o : HO} (h : tabOnly H a = some o) : H a = some o ∧ tabO o = true := by
  unfold tabOnly at h
  cases e : H a with
  | none => rw [e] at h; cases h
  | some u =>
    rw [e] at h
    have h' : (if tabO u = true then some u else none) = some o := h
    by_cases q : tabO u = true
    · rw [if_pos q] at h'
      cases h'
      exact ⟨rfl, q⟩
    · rw [if_neg q] at h'
      cases h'
theorem tabOnly_none {a : Addr} {o : HO} (h : H a = some o) (t : tabO o = false) : tabOnly H a = none := by
  cases e : tabOnly H a with
  | none => rfl
  | some u =>
    obtain ⟨h1, h2⟩ := of_tabOnly e
    rw [h] at h1
    cases h1
    rw [t] at h2
    cases h2
theorem good_base (h : TabsN (tabs K) H) : Good K (baseT H) := ⟨fun _ => rfl, fun _ => not_false, tabsN_keep h fun a o h1 h2 => tabOnly_of h1 h2, fun a o h1 => (of_tabOnly h1).2⟩
theorem Good.nt (g : Good K B) : NT B.G0 := fun b o h => by
  rw [g.g b] at h
  cases h
theorem Good.tabs (g : Good K B) (S : SA K B G H σ δ []) : TabsN (tabs K) H := g.t.ext fun a o h => S.rel.h a o h (g.w a)
theorem sa_base {F : List Addr} (n : NT G) (e : Ex G H) (s : SlsA K (baseT H) G H σ δ F) (nd : F.Nodup) (hF : ∀ p ∈ F, G p = none ∧ H p ≠ none) : SA K (baseT H) G H σ δ [] := by
  refine ⟨⟨fun a o h => absurd (show (none : Option HO) = some o from h) (by simp), fun a o h _ => (of_tabOnly h).1, e, fun a o h _ => ?_, fun a h => ?_⟩, F, s, by simpa using nd, fun p m => hF p (by simpa using m), fun p m => ?_⟩
  · obtain ⟨h1, h2⟩ := of_tabOnly h
    cases q : G a with
    | none => rfl
    | some u =>
      have h3 := e a u q
      rw [h1] at h3
      cases h3
      have h4 := n a o q
      rw [tab_dat h2] at h4
      cases h4
  · have h' : tabOnly H a ≠ none := h
    cases q : tabOnly H a with
    | none => exact absurd q h'
    | some u =>
      rw [(of_tabOnly q).1]
      simp
  · simp at m
theorem sdm_seq (h : SDM K δ t (fun δ' => SDM K δ' u N RT) RT) : SDM K δ (tSeq t u) N RT := fun B G H σ g n S E k1 k2 =>
  h B G H σ g n S { E with nx := u E } (fun B1 G1 H1 σ1 δ1 g1 n1 e1 S1 c => c B1 G1 H1 σ1 g1 n1 S1 E (fun B2 G2 H2 σ2 δ2 g2 n2 e2 S2 c2 => k1 B2 G2 H2 σ2 δ2 g2 n2 (e1.trans e2) S2 c2) k2) k2
theorem sdm_of (h : ∀ B, SD K B δ t { n := N, r := fun _ _ => False }) : SDM K δ t N RT := fun B G H σ g n S E k1 k2 =>
  h B G H σ S E (fun G1 H1 σ1 δ1 e1 S1 c => k1 B _ H1 σ1 δ1 g nt_noT (noT_up n e1) (S1.dat g.nt) c) (fun _ _ _ _ _ _ _ _ _ z => z.elim) (fun _ _ _ _ _ _ z => z.elim) (fun _ _ _ _ _ _ z => z.elim)
theorem sdm_of2 (h : ∀ B, SD K B δ t { n := fun δ' => SDM K δ' u N RT, r := fun _ _ => False }) : SDM K δ (tSeq t u) N RT := sdm_seq (sdm_of h)
/-- the list of one's own given back -/
theorem sdm_ret {i : Nat} {l : List Int} (hi : δ[i]? = some (.own (dI l))) (k : ∀ p H', H' p = some (.lst (l.map V.int)) → RT (.ref p) H') : SDM K δ (tRet (tVar i)) N RT := fun B G H σ g n S E k1 k2 => by
  obtain ⟨p, vs, e1, e2, e3, _, _⟩ := S.own hi
  refine ⟨_, e1, k2 _ _ (k p H ?_)⟩
  rw [e2, e3.ints_eq]
/-- for x in a list -/
theorem sdm_forL {α : Type} {f : α → D} {l : List α} {tl : TE} {j : Nat} (hw : ∀ B, ED K B δ tl (.lst (l.map f))) (I : List α → List Sl → Prop) (h0 : I [] δ)
    (hs : ∀ pre x post δ', l = pre ++ x :: post → I pre δ' → j < δ'.length ∧ SDM K (δ'.set j (.sh (f x))) tb (fun δ2 => I (pre ++ [x]) δ2) RT) (hd : ∀ δ', I l δ' → N δ') : SDM K δ (tFor (iList K tl) (gName j) tb) N RT := fun B G H σ g n S E k1 k2 => by
  refine hw B G H σ [] S _ fun v G1 H1 e1 e2 S1 a => ?_
  obtain ⟨p, vs, rfl, h1, h2⟩ := a.dat.lst_eq
  have S2 := S1.dat g.nt
  have nn := noT_up n e1
  have hlen : vs.length = l.length := by rw [h2.length, List.length_map]
  refine ⟨p, rfl, ⟨vs, .of (S2.rel.s _ _ h1)⟩, ?_⟩
  have wk : L2.Walk (Itl K p) l.length (fun H2 => Ex (noT G1) H2) (Yd K (noT G1) (nth (l.map f))) := by
    rw [← hlen]
    refine ⟨fun i H2 hi e3 => ⟨vs, vs[i], .of (e3 _ _ h1), by simp [hi]⟩, fun H2 e3 => ⟨vs, .of (e3 _ _ h1), Nat.le_refl _⟩, fun i H2 x H3 hi e3 y => .inl ⟨y.1, ?_⟩⟩
    obtain ⟨d, q1, q2⟩ := h2.getV (y.2 vs (.of (e3 _ _ h1)))
    rw [nth_eq q1]
    exact q2
  refine for_it wk (fun i σ' H' => ∃ B' G' δ', Good K B' ∧ NT G' ∧ Ex (noT G1) G' ∧ SA K B' G' H' σ' δ' [] ∧ I (l.take i) δ') ⟨B, _, δ, g, nt_noT, Ex.refl _, S2, by simpa using h0⟩ (fun i σ' H' _ ⟨B', G', δ', _, _, x, y, _⟩ => x.trans y.rel.s) ?_ ?_
  · rintro i x σ' H' H2 hi ⟨B', G', δ', g', n', x1, S', hI⟩ y
    have hx : l[i]? = some l[i] := List.getElem?_eq_getElem hi
    have el : l = l.take i ++ l[i] :: l.drop (i + 1) := by rw [← List.drop_eq_getElem_cons hi, List.take_append_drop]
    have en : nth (l.map f) i = f l[i] := nth_eq (by rw [List.getElem?_map, hx]; rfl)
    have et : l.take (i + 1) = l.take i ++ [l[i]] := by
      rw [List.take_add_one, hx]
      rfl
    obtain ⟨hj, q⟩ := hs _ _ _ _ el hI
    have fin : ∀ G2, NT G2 → Ex G' G2 → SA K B' G2 H2 σ' δ' [] → At K G2 x (f l[i]) → gName j x σ' H2 fun σ2 H3 => tb { E with nx := fun σ' H' => ∃ B' G' δ', Good K B' ∧ NT G' ∧ Ex (noT G1) G' ∧ SA K B' G' H' σ' δ' [] ∧ I (l.take (i + 1)) δ', ct := fun σ' H' => ∃ B' G' δ', Good K B' ∧ NT G' ∧ Ex (noT G1) G' ∧ SA K B' G' H' σ' δ' [] ∧ I (l.take (i + 1)) δ', bk := E.nx } σ2 H3 := fun G2 n2 x2 S2 a2 => by
      refine q B' G2 H2 _ g' n2 (S2.put a2 hj) _ (fun B3 G3 H3 σ3 δ3 g3 n3 x3 S3 c3 => ⟨B3, G3, δ3, g3, n3, (x1.trans x2).trans x3, S3, by rw [et]; exact c3⟩) (fun v H3 r => k2 v H3 r)
    rcases y with ⟨rfl, y⟩ | ⟨T, us, ds, rfl, hT, rfl, y, ef⟩
    · exact fin G' n' (Ex.refl _) S' (by rw [← en]; exact y.mono x1)
    · have hG := S'.rel.s.none hT
      refine fin (upd G' T (.tup us)) (fun b o hb => ?_) (Ex.new hG) (S'.fresh hT) ?_
      · by_cases z : b = T
        · rw [z, upd_same] at hb
          cases hb
          rfl
        · rw [upd_ne z] at hb
          exact n' b o hb
      · rw [← en, ef]
        exact .tup upd_same ((y.mono x1).mono (Ex.new hG))
  · rintro σ' H' ⟨B', G', δ', g', n', x1, S', hI⟩
    rw [List.take_length] at hI
    exact k1 B' G' H' σ' δ' g' n' (nn.trans x1) S' (hd _ hI)
/-- answer = f(items, call), f a def that makes the nested one -/
theorem sdm_call {R : List It0 → List D → D → List It0 → Prop} {E0 : XK} {p : Addr} {xs : List Addr} {its its' : List It0} {a0 c : D} {l : List D} {s4 : Sl} (hR : R its [c] d its') (q : ∀ xs', N [.sh a0, .st p xs' its', .own l, .sh c, .sh d]) :
    SDM K [.sh a0, .st p xs its, .own l, .sh c, s4] (tAsg (tCall (spST K R) [] E0 (tCons (tVar 1) (tCons (tVar 3) tNil))) (gName 4)) N RT := fun B G H σ g n S E k1 k2 => by
  obtain ⟨e1, f1, f2, f3, f4⟩ := S.st (i := 1) rfl
  obtain ⟨v3, e3, a3⟩ := S.sh (i := 3) rfl
  obtain ⟨v0, e0, a0'⟩ := S.sh (i := 0) rfl
  obtain ⟨r, ws, e2, w1, w2, w3, _⟩ := S.own (i := 2) rfl
  have rn : r ∉ p :: xs := by
    obtain ⟨F, s1, s2, _⟩ := S.sl
    match σ, s1 with
    | _, .cons b0 (.cons b1 (.cons b2 (.cons b3 (.cons b4 .nil)))) =>
      cases b0
      cases b1
      cases b2
      cases b3
      cases e2
      intro m
      simp only [List.nil_append, List.append_nil, List.cons_append] at s2
      rcases List.mem_cons.mp m with z | z
      · have := (List.nodup_cons.mp s2).1
        rw [z] at this
        simp at this
      · have := (List.nodup_cons.mp s2).2
        rw [List.nodup_append] at this
        exact this.2.2 r z r (by simp) rfl
  refine ⟨_, e1, _, e3, ?_⟩
  show spST K R (([V.ref p, v3]) ++ []) H _ E0
  rw [List.append_nil]
  refine ⟨G, p, [v3], xs, its, [c], d, its', rfl, S.rel.s, n, g.tabs S, .cons a3 .nil, f1, f2, f3, fun q m => (f4 q m).1, hR, fun v G' H' xs' P => ?_⟩
  have hr : H' r = some (.lst ws) := P.h r _ w1 (fun ps z => by cases z) rn
  have gr : G' r = none := P.f r _ w1 (fun ps z => by cases z) rn w3
  have hl := S.len
  obtain ⟨o4, eσ⟩ : ∃ o4, σ = [some v0, some (.ref p), some (.ref r), some v3, o4] := by
    match σ, hl with
    | [x0, x1, x2, x3, x4], _ =>
      cases e0
      cases e1
      cases e2
      cases e3
      exact ⟨_, rfl⟩
  subst eσ
  have ntab : ∀ {q : Addr} {us : List V}, H' q = some (.lst us) → tabOnly H' q = none := fun h => tabOnly_none h rfl
  have nitem : ∀ q ∈ xs', tabOnly H' q = none := by
    have all : ∀ {xs : List Addr} {its : List It0}, Paired (ItA K G' H') xs its → ∀ q ∈ xs, tabOnly H' q = none := by
      intro xs its b
      induction b with
      | nil => intro q m; simp at m
      | cons r t ih =>
        intro q m
        rcases List.mem_cons.mp m with rfl | m
        · obtain ⟨dx, vs, h1, _⟩ := r
          exact tabOnly_none h1 rfl
        · exact ih q m
    exact all P.i
  have e4 : Ex G (noT G') := noT_up n P.g
  have rxs : r ∉ p :: xs' := fun m => by
    rcases List.mem_cons.mp m with z | z
    · exact rn (by rw [z]; simp)
    · rcases (P.q r z).1 with y | y | ⟨ps, y⟩
      · exact rn (List.mem_cons_of_mem _ y)
      · rw [w1] at y
        cases y
      · rw [w1] at y
        cases y
  refine k1 (baseT H') (noT G') H' _ _ (good_base P.tb) nt_noT e4 (sa_base nt_noT (noT_ex.trans P.s) (F := (p :: xs') ++ [r]) ?_ ?_ ?_) (q xs')
  · refine SlsA.cons (F := []) (.sh (a0'.mono e4)) (SlsA.cons (F := p :: xs') (.st (fun q m => .inl ?_) P.l (Paired.mapP P.i fun q ds ⟨dx, vs, c, d⟩ => ⟨dx, vs, c, d.dat⟩)) (SlsA.cons (F := [r]) (F' := []) (.own (ntab hr) hr (w2.mono e4)) (SlsA.cons (F := []) (F' := []) (.sh (a3.mono e4)) (SlsA.cons (F := []) (F' := []) (.sh P.v.dat) .nil))))
    rcases List.mem_cons.mp m with rfl | m
    · exact ntab P.l
    · exact nitem q m
  · rw [List.nodup_append]
    refine ⟨P.n, by simp, fun a ha b hb z => ?_⟩
    have : b = r := by simpa using hb
    subst this
    exact rxs (z ▸ ha)
  · intro q m
    rcases List.mem_append.mp m with m | m
    · rcases List.mem_cons.mp m with rfl | m
      · exact ⟨noT_none P.pg, by rw [P.l]; simp⟩
      · obtain ⟨_, z1, z2⟩ := P.q q m
        exact ⟨noT_none z1, z2⟩
    · have : q = r := by simpa using m
      subst this
      exact ⟨noT_none gr, by rw [hr]; simp⟩
end
end Dg
namespace Rl
open PySem PySem.Spec PyProof.Rows L2 Dg

inductive Req : List Int → List (Int × List Int × List Int) → Prop
  | nil : Req [] []
  | plain (p c : Int) (is r : List Int) (cs : List (Int × List Int × List Int)) : dCOUNTS.lookup p = some c → (is.length : Int) = c → p ∉ listCalls → Req r cs → Req (p :: (is ++ r)) ((p, is, []) :: cs)
  | list (p c : Int) (is ls r : List Int) (cs : List (Int × List Int × List Int)) : dCOUNTS.lookup p = some c → (is.length : Int) = c → p ∈ listCalls → Req r cs → Req (p :: (is ++ ((ls.length : Int) :: (ls ++ r)))) ((p, is, ls) :: cs)
def dCl (c : Int × List Int × List Int) : D := dCall c.1 c.2.1 c.2.2
theorem mk_call {K : PySem.W.Frag} {G : Hp} {vs : List V} {a b c : D} (h : Ats K G vs [a, b, c]) : Afs K G (fv_Call vs) [("number", a), ("integers", b), ("listed", c)] := by
  cases h with
  | cons h1 h => cases h with
    | cons h2 h => cases h with
      | cons h3 h =>
        cases h
        exact .cons h1 (.cons h2 (.cons h3 .nil))
theorem cut_here {pre is r : List Int} {a b : Int} (ha : a = ((pre.length : Nat) : Int)) (hb : b = a + is.length) : cutD (pre ++ (is ++ r)) (some a) (some b) = is := by
  rw [cutD_mid _ (by omega) (by omega), ha, Int.toNat_natCast, List.drop_left]
  have : b.toNat - pre.length = is.length := by omega
  rw [this, List.take_left]
inductive r_split_into_calls : List D → D → Prop
  | mk {ns : List Int} {cs : List (Int × List Int × List Int)} (h : Req ns cs) (hl : ns.length < 16000000) : r_split_into_calls [.rq ns] (.lst (cs.map dCl))
abbrev N_split_into_calls : List Str := ["numbers", "calls", "place", "number", "start", "integers", "listed"]
theorem sc_split_into_calls : FnScope N_split_into_calls ["numbers"] (defScope (top 128)) := ⟨rfl, rfl, rfl, by decide +kernel, rfl, by decide +kernel, by decide +kernel⟩
theorem ok_split_into_calls {Pr : Program} {w : World} {K : PySem.W.Frag} {mg : Str → Option Value} {base : Heap} (T : Tx K mg) : Ok Pr w K mg base 3 "split_into_calls" ["numbers"] (spR K r_split_into_calls) := by
  obtain ⟨fd, F⟩ := T.d_split_into_calls
  refine ⟨⟨fd, fn_pure (N := N_split_into_calls) F sc_split_into_calls (fun ds d h => by cases h; rfl) ?_, F.bindsN fun _ _ _ _ _ _ us hl => match us, hl with | [_], _ => rfl⟩, F.kp, T.g_split_into_calls⟩
  intro cdv A outer s H E hr
  refine ⟨_, (pss_cons (ps_set (i := 1) sc_split_into_calls.nd rfl (Or.inl rfl) (pe_lst pa_nil))
 (pss_cons (ps_set (i := 2) sc_split_into_calls.nd rfl (Or.inl rfl) pe_int)
 (pss_cons (ps_while PassesOwn.never (pt_cmpR op_lt (pv 2) (pe_callB (r := rLenQ K) call_len_seq (by rfl) T.f_len (by decide +kernel) (pa_cons (pv 0) pa_nil)) (nomark _))
 (pss_cons (ps_set (i := 3) sc_split_into_calls.nd rfl (Or.inl rfl) (pe_ix (r := rIxL K) ix_list (pv 0) (pv 2) (fun _ _ => rfl)))
 (pss_cons (ps_set (i := 4) sc_split_into_calls.nd rfl (Or.inl rfl) (pe_op op_add (pv 2) pe_int))
 (pss_cons (ps_set (i := 2) sc_split_into_calls.nd rfl (Or.inl rfl) (pe_op op_add (pv 4) (pe_ix (ix_I T.cnt) (pe_gref rfl T.g_INTEGER_COUNTS) (pv 3) (fun _ _ => rfl))))
 (pss_cons (ps_set (i := 5) sc_split_into_calls.nd rfl (Or.inl rfl) (pe_slice (r := rSlL K) sl_list (pv 0) (po_some (pv 4)) (po_some (pv 2))))
 (pss_cons (ps_set (i := 6) sc_split_into_calls.nd rfl (Or.inl rfl) (pe_lst pa_nil))
 (pss_cons (ps_if (pt_cmpR op_in_seq (pv 3) (pe_gref rfl T.g_LIST_CALLS) (by rfl))
 (pss_cons (ps_set (i := 4) sc_split_into_calls.nd rfl (Or.inl rfl) (pe_op op_add (pv 2) pe_int))
 (pss_cons (ps_set (i := 2) sc_split_into_calls.nd rfl (Or.inl rfl) (pe_op op_add (pv 4) (pe_ix (r := rIxL K) ix_list (pv 0) (pv 2) (fun _ _ => rfl))))
 (pss_one (ps_set (i := 6) sc_split_into_calls.nd rfl (Or.inl rfl) (pe_slice (r := rSlL K) sl_list (pv 0) (po_some (pv 4)) (po_some (pv 2)))))))
 pss_nil)
 (pss_one (ps_expr (pe_bm PySem.F.plainAttrs_list PySem.F.slot_list_append PySem.F.type_list_append mt_append (pv 1) (pa_cons (pe_makeO (ok_Call T) (hr.mono (by decide)) rfl (pa_cons (pv 3) (pa_cons (pv 5) (pa_cons (pv 6) pa_nil)))) pa_nil)))))))))))
 (pss_one (ps_ret (pv 1)))))), ?_⟩
  intro B ds d hR
  obtain ⟨⟩ := hR
  rename_i ns cs hq hl
  refine sd_seq (sd_asgN (en_lst ea_nil (hle rfl)) (hlt rfl) ?_)
  refine sd_seq (sd_asg ed_int (hlt rfl) ?_)
  refine sd_seq (sd_while (fun m δ => ∃ pre r dn td s3 s4 s5 s6, ns = pre ++ r ∧ m = r.length ∧ Req r td ∧ cs = dn ++ td ∧ dn.length ≤ pre.length ∧ δ = [.sh (.rq ns), .own (dn.map dCl), .sh (.int pre.length), s3, s4, s5, s6]) ns.length ?_ ?_)
  · exact ⟨[], ns, [], cs, .un, .un, .un, .un, rfl, rfl, hq, rfl, by simp, rfl⟩
  rintro m δ ⟨pre, r, dn, td, s3, s4, s5, s6, en, rfl, rq, ec, hd, rfl⟩
  have hlen : ns.length = pre.length + r.length := by rw [en]; simp
  refine ⟨_, (et_test (ed_lt (ed_var rfl) (ed_lenR (ed_var rfl)))), fun h => ?_, fun h => ?_⟩
  · have hpos : (pre.length : Int) < ns.length := of_decide_eq_true h
    cases rq with
    | nil => simp at hlen; omega
    | plain p0 c is r cs' h1 h2 h3 h4 =>
      refine sd_seq (sd_asg (ed_ixR (i := p0) (ed_var rfl) (ed_var rfl) (atI_nat (by rw [en]; simp))) (hlt rfl) ?_)
      refine sd_seq (sd_asg (ed_add (ed_var rfl) ed_int) (hlt rfl) ?_)
      refine sd_seq (sd_asg (ed_add (ed_var rfl) (ed_ixI (ed_var rfl) h1)) (hlt rfl) ?_)
      have e1 : ns = (pre ++ [p0]) ++ (is ++ r) := by rw [en]; simp
      refine sd_seq (sd_asgN (en_is (es := dI is) (en_sliceR (ed_var rfl) (eo_some (ed_var rfl)) (eo_some (ed_var rfl))) (by rw [e1, cut_here (by simp) (by omega)])) (hlt rfl) ?_)
      refine sd_frz 5 rfl ?_
      refine sd_seq (sd_asgN (en_lst0I) (hlt rfl) ?_)
      refine sd_frz 6 rfl ?_
      refine sd_seq (sd_if (b := false) (et_is (et_test (ed_inT (ed_var rfl) T.lcs)) (decide_eq_false h3)) (fun z => absurd z (by decide)) (fun _ => sd_next ?_))
      refine (sd_appendM (f := dCl) (l := dn) (x := (p0, is, [])) rfl (ed_make (fs := [("number", .int p0), ("integers", .lst (dI is)), ("listed", .lst (dI []))]) (ea_cons (ed_var rfl) (ea_cons (ed_var rfl) (ea_cons (ed_var rfl) ea_nil))) rfl (fun G vs hv => mk_call hv)) (by omega) ?_)
      refine ⟨r.length, by simp; omega, pre ++ p0 :: is, r, dn ++ [(p0, is, [])], cs', .sh (.int p0), .sh (.int (pre.length + 1)), .sh (.lst (dI is)), .sh (.lst (dI [])), by rw [en]; simp, rfl, h4, by rw [ec]; simp, by simp; omega, ?_⟩
      have e6 : (pre.length : Int) + 1 + c = ((pre ++ p0 :: is).length : Nat) := by simp; omega
      rw [← e6]
      rfl
    | list p0 c is ls r cs' h1 h2 h3 h4 =>
      refine sd_seq (sd_asg (ed_ixR (i := p0) (ed_var rfl) (ed_var rfl) (atI_nat (by rw [en]; simp))) (hlt rfl) ?_)
      refine sd_seq (sd_asg (ed_add (ed_var rfl) ed_int) (hlt rfl) ?_)
      refine sd_seq (sd_asg (ed_add (ed_var rfl) (ed_ixI (ed_var rfl) h1)) (hlt rfl) ?_)
      have e1 : ns = (pre ++ [p0]) ++ (is ++ ((ls.length : Int) :: (ls ++ r))) := by rw [en]; simp
      have e2 : ns = (pre ++ p0 :: is) ++ ((ls.length : Int) :: (ls ++ r)) := by rw [en]; simp
      have e3 : ns = (pre ++ p0 :: is ++ [(ls.length : Int)]) ++ (ls ++ r) := by rw [en]; simp
      have e5 : (pre.length : Int) + 1 + c = ((pre ++ p0 :: is).length : Nat) := by simp; omega
      refine sd_seq (sd_asgN (en_is (es := dI is) (en_sliceR (ed_var rfl) (eo_some (ed_var rfl)) (eo_some (ed_var rfl))) (by rw [e1, cut_here (by simp) (by omega)])) (hlt rfl) ?_)
      refine sd_frz 5 rfl ?_
      refine sd_seq (sd_asgN (en_lst0I) (hlt rfl) ?_)
      refine sd_frz 6 rfl ?_
      refine sd_cut [.sh (.rq ns), .own (dn.map dCl), .sh (.int ((pre.length : Int) + 1 + c + 1 + ls.length)), .sh (.int p0), .sh (.int ((pre.length : Int) + 1 + c + 1)), .sh (.lst (dI is)), .own (dI ls)] (sd_if (b := true) (et_is (et_test (ed_inT (ed_var rfl) T.lcs)) (decide_eq_true h3)) (fun _ => ?_) (fun z => absurd z (by decide))) ?_
      · refine sd_seq (sd_asg (ed_add (ed_var rfl) ed_int) (hlt rfl) ?_)
        refine sd_seq (sd_asg (ed_add (ed_var rfl) (ed_ixR (i := (ls.length : Int)) (ed_var rfl) (ed_var rfl) ?_)) (hlt rfl) ?_)
        · rw [e5]
          exact atI_nat (by rw [e2]; simp)
        refine (sd_asgN (en_is (es := dI ls) (en_sliceR (ed_var rfl) (eo_some (ed_var rfl)) (eo_some (ed_var rfl))) (by rw [e3, cut_here (by rw [e5]; simp; omega) rfl])) (hlt rfl) rfl)
      refine sd_frz 6 rfl ?_
      refine (sd_appendM (f := dCl) (l := dn) (x := (p0, is, ls)) rfl (ed_make (fs := [("number", .int p0), ("integers", .lst (dI is)), ("listed", .lst (dI ls))]) (ea_cons (ed_var rfl) (ea_cons (ed_var rfl) (ea_cons (ed_var rfl) ea_nil))) rfl (fun G vs hv => mk_call hv)) (by omega) ?_)
      refine ⟨r.length, by simp; omega, pre ++ p0 :: is ++ (ls.length : Int) :: ls, r, dn ++ [(p0, is, ls)], cs', .sh (.int p0), .sh (.int ((pre.length : Int) + 1 + c + 1)), .sh (.lst (dI is)), .sh (.lst (dI ls)), by rw [en]; simp, rfl, h4, by rw [ec]; simp, by simp; omega, ?_⟩
      have e6 : (pre.length : Int) + 1 + c + 1 + ls.length = ((pre ++ p0 :: is ++ (ls.length : Int) :: ls).length : Nat) := by simp; omega
      rw [← e6]
      rfl
  · refine sd_frz 1 rfl (sd_ret (ed_var rfl) ?_)
    have hr : ¬ (pre.length : Int) < ns.length := of_decide_eq_false h
    have : r = [] := List.length_eq_zero_iff.mp (by omega)
    subst this
    cases rq
    rw [ec, List.append_nil]
end Rl
namespace Rl
open PySem PySem.Spec PyProof.Rows L2 Dg

theorem shape_ok {p : Int} {n k : Nat} (h : PyVanbkh.shape p = some (n, k)) : dCOUNTS.lookup p = some (n : Int) ∧ ((k = 0 ∧ p ∉ listCalls) ∨ (k = 1 ∧ p ∈ listCalls)) := by
  unfold PyVanbkh.shape at h
  by_cases q0 : p = 0
  · rw [if_pos q0] at h
    subst q0
    cases h
    decide
  rw [if_neg q0] at h
  by_cases q1 : p = 1
  · rw [if_pos q1] at h
    subst q1
    cases h
    decide
  rw [if_neg q1] at h
  by_cases q2 : p = 2
  · rw [if_pos q2] at h
    subst q2
    cases h
    decide
  rw [if_neg q2] at h
  by_cases q3 : p = 3
  · rw [if_pos q3] at h
    subst q3
    cases h
    decide
  rw [if_neg q3] at h
  by_cases q4 : p = 4
  · rw [if_pos q4] at h
    subst q4
    cases h
    decide
  rw [if_neg q4] at h
  by_cases q5 : p = 5
  · rw [if_pos q5] at h
    subst q5
    cases h
    decide
  rw [if_neg q5] at h
  by_cases q6 : p = 6
  · rw [if_pos q6] at h
    subst q6
    cases h
    decide
  rw [if_neg q6] at h
  by_cases q7 : p = 7
  · rw [if_pos q7] at h
    subst q7
    cases h
    decide
  rw [if_neg q7] at h
  by_cases q8 : p = 8
  · rw [if_pos q8] at h
    subst q8
    cases h
    decide
  rw [if_neg q8] at h
  by_cases q9 : p = 9
  · rw [if_pos q9] at h
    subst q9
    cases h
    decide
  rw [if_neg q9] at h
  by_cases q10 : p = 10
  · rw [if_pos q10] at h
    subst q10
    cases h
    decide
  rw [if_neg q10] at h
  by_cases q11 : p = 11
  · rw [if_pos q11] at h
    subst q11
    cases h
    decide
  rw [if_neg q11] at h
  by_cases q12 : p = 12
  · rw [if_pos q12] at h
    subst q12
    cases h
    decide
  rw [if_neg q12] at h
  by_cases q13 : p = 13
  · rw [if_pos q13] at h
    subst q13
    cases h
    decide
  rw [if_neg q13] at h
  by_cases q14 : p = 14
  · rw [if_pos q14] at h
    subst q14
    cases h
    decide
  rw [if_neg q14] at h
  by_cases q15 : p = 15
  · rw [if_pos q15] at h
    subst q15
    cases h
    decide
  rw [if_neg q15] at h
  by_cases q16 : p = 16
  · rw [if_pos q16] at h
    subst q16
    cases h
    decide
  rw [if_neg q16] at h
  cases h
def cvC (c : List (List Int)) : Int × List Int × List Int := ((c.headD []).headD 0, (c.headD []).drop 1, c.getD 1 [])
theorem req_of : ∀ (f : Nat) (ns : List Int) (raw : List (List (List Int))), PyFlat.calls PyVanbkh.shape f ns = some raw → Req ns (raw.map cvC)
  | _, [], raw, h => by
    have : raw = [] := by
      cases ‹Nat› <;> (cases h; rfl)
    subst this
    exact .nil
  | 0, p :: r, raw, h => by cases h
  | f + 1, p :: r, raw, h => by
    have h' : (match PyFlat.call PyVanbkh.shape (p :: r) with | none => none | some (c, t) => match PyFlat.calls PyVanbkh.shape f t with | none => none | some cs => some (c :: cs)) = some raw := h
    have hc : PyFlat.call PyVanbkh.shape (p :: r) = match PyVanbkh.shape p with | none => none | some (n, k) => if r.length < n then none else match PyFlat.rows k (r.drop n) with | none => none | some (xs, t) => some ((p :: r.take n) :: xs, t) := rfl
    rw [hc] at h'
    cases hs : PyVanbkh.shape p with
    | none => rw [hs] at h'; cases h'
    | some nk =>
      obtain ⟨n, k⟩ := nk
      rw [hs] at h'
      obtain ⟨s1, s2⟩ := shape_ok hs
      by_cases hl : r.length < n
      · have h2 : (match (if r.length < n then none else match PyFlat.rows k (r.drop n) with | none => none | some (xs, t) => some ((p :: r.take n) :: xs, t)) with | none => none | some (c, t) => match PyFlat.calls PyVanbkh.shape f t with | none => none | some cs => some (c :: cs)) = some raw := h'
        rw [if_pos hl] at h2
        cases h2
      · have h2 : (match (if r.length < n then none else match PyFlat.rows k (r.drop n) with | none => none | some (xs, t) => some ((p :: r.take n) :: xs, t)) with | none => none | some (c, t) => match PyFlat.calls PyVanbkh.shape f t with | none => none | some cs => some (c :: cs)) = some raw := h'
        rw [if_neg hl] at h2
        have ht : (r.take n).length = n := by rw [List.length_take]; omega
        rcases s2 with ⟨rfl, s3⟩ | ⟨rfl, s3⟩
        · have h3 : (match PyFlat.calls PyVanbkh.shape f (r.drop n) with | none => none | some cs => some (((p :: r.take n) :: []) :: cs)) = some raw := h2
          cases q : PyFlat.calls PyVanbkh.shape f (r.drop n) with
          | none => rw [q] at h3; cases h3
          | some cs =>
            rw [q] at h3
            cases h3
            have ih := req_of f _ _ q
            have := Req.plain p n (r.take n) (r.drop n) _ s1 (by rw [ht]) s3 ih
            rw [List.take_append_drop] at this
            exact this
        · have hrow : PyFlat.rows 1 (r.drop n) = match PyFlat.row (r.drop n) with | none => none | some (x, s) => some ([x], s) := rfl
          rw [hrow] at h2
          cases hd : r.drop n with
          | nil => rw [hd] at h2; cases h2
          | cons m u =>
            rw [hd] at h2
            by_cases hm : 0 ≤ m ∧ m.toNat ≤ u.length
            · have er : PyFlat.row (m :: u) = some (u.take m.toNat, u.drop m.toNat) := by
                show (if 0 ≤ m ∧ m.toNat ≤ u.length then _ else _) = _
                rw [if_pos hm]
              rw [er] at h2
              have h3 : (match PyFlat.calls PyVanbkh.shape f (u.drop m.toNat) with | none => none | some cs => some (((p :: r.take n) :: [u.take m.toNat]) :: cs)) = some raw := h2
              cases q : PyFlat.calls PyVanbkh.shape f (u.drop m.toNat) with
              | none => rw [q] at h3; cases h3
              | some cs =>
                rw [q] at h3
                cases h3
                have ih := req_of f _ _ q
                have := Req.list p n (r.take n) (u.take m.toNat) (u.drop m.toNat) _ s1 (by rw [ht]) s3 ih
                have em : ((u.take m.toNat).length : Int) = m := by rw [List.length_take]; omega
                rw [List.take_append_drop, em, ← hd, List.take_append_drop] at this
                exact this
            · have er : PyFlat.row (m :: u) = none := by
                show (if 0 ≤ m ∧ m.toNat ≤ u.length then _ else _) = _
                rw [if_neg hm]
              rw [er] at h2
              cases h2
end Rl
namespace Rl
open PySem PySem.Spec PyProof.Rows L2 Dg NdefX LamX

theorem sdr_lenSt {K : PySem.W.Frag} {B : Bs} {δ : List Sl} {t : TS} {RT : V → Hp → Prop} {i : Nat} {p : Addr} {xs : List Addr} {its : List It0} (hi : δ[i]? = some (.st p xs its)) (h : xs.length = its.length → SDR K B δ t RT) : SDR K B δ t RT := fun G H σ S E k => by
  obtain ⟨_, _, g2, _⟩ := S.st hi
  exact h (paired_len g2) G H σ S E k
inductive r_sort_rows : List It0 → List D → D → List It0 → Prop
  | mk {s : List Vanbkh.Item} {i c d : Int} (hs : VS s) : r_sort_rows (s.map itC) [.int i, .int c, .int d] (.lst (dI (stA s (.sort i c d)))) ((stS s (.sort i c d)).map itC)
abbrev N_sort_rows : List Str := ["items", "index", "column", "descending", "table"]
theorem sc_sort_rows : FnScope N_sort_rows ["items", "index", "column", "descending"] (defScope (top 121)) := ⟨rfl, rfl, rfl, by decide +kernel, rfl, by decide +kernel, by decide +kernel⟩
theorem ok_sort_rows {Pr : Program} {w : World} {K : PySem.W.Frag} {mg : Str → Option Value} {base : Heap} (T : Tx K mg) (TB : TabB base mg (He.cT K odP).1 (He.cT K odP).2) : Ok Pr w K mg base 5 "sort_rows" ["items", "index", "column", "descending"] (spST K r_sort_rows) := by
  obtain ⟨fd, F⟩ := T.d_sort_rows
  refine ⟨⟨fd, fn_stateT (N := N_sort_rows) F sc_sort_rows (fun its ds d its2 h => by cases h; rfl) ?_, F.bindsN fun _ _ _ _ _ _ us hl => match us, hl with | [_, _, _, _], _ => rfl⟩, F.kp, T.g_sort_rows⟩
  intro cdv A outer s H E hr
  refine ⟨_, (pss_cons (ps_if (pt_not (pt_val (pe_callO (ok_has_item T) (hr.mono (by decide)) rfl (pa_cons (pv 0) (pa_cons (pv 1) pa_nil)))))
 (pss_one (ps_ret (pe_lst (pa_cons (pe_gint rfl T.i_NO_SUCH_ITEM) pa_nil))))
 pss_nil)
 (pss_cons (ps_set (i := 4) sc_sort_rows.nd rfl (Or.inl rfl) (pe_ix (r := rIxL K) ix_list (pv 0) (pv 1) (fun _ _ => rfl)))
 (pss_cons (ps_if (pt_not (pt_val (pe_callB (r := rIsi K) call_isi (by rfl) T.f_isinstance (by decide +kernel) (pa_cons (pv 4) (pa_cons (pe_gref rfl T.g_Table) pa_nil)))))
 (pss_one (ps_ret (pe_lst (pa_cons (pe_gint rfl T.i_NOT_A_TABLE) pa_nil))))
 pss_nil)
 (pss_cons (ps_if (pt_not (pt_val (pe_callO (ok_has_column T) (hr.mono (by decide)) rfl (pa_cons (pv 4) (pa_cons (pv 2) pa_nil)))))
 (pss_one (ps_ret (pe_lst (pa_cons (pe_gint rfl T.i_NO_SUCH_COLUMN) pa_nil))))
 pss_nil)
 (pss_cons (ps_if (pt_not (pt_val (pe_callO (ok_is_within T) (hr.mono (by decide)) rfl (pa_cons (pv 3) (pa_cons pe_int (pa_cons pe_int pa_nil))))))
 (pss_one (ps_ret (pe_lst (pa_cons (pe_gint rfl T.i_NOT_ZERO_OR_ONE) pa_nil))))
 pss_nil)
 (pss_cons (ps_fld (pv 4) (pe_callO (ok_order_rows T TB) (hr.mono (by decide)) rfl (pa_cons (pe_fldK (K := K) (pv 4) rfl rfl) (pa_cons (pv 2) (pa_cons (pv 3) pa_nil)))) rfl)
 (pss_one (ps_ret (pe_lst (pa_cons pe_int pa_nil)))))))))), ?_⟩
  intro B p xs its ds d its2 OB hR
  obtain ⟨⟩ := hR
  rename_i s i c d hs
  have hl12 := hs.2
  have e : Vanbkh.step ⟨s⟩ (.sort i c d) = _ := onT_eq s i (fun t => !Vanbkh.isBetween c 0 (Vanbkh.ofNat t.headers.length - 1)) (fun _ => !Vanbkh.isBetween d 0 1) (-13) (-10) (fun t => { t with rows := Vanbkh.sortRows (d == 1) c.toNat t.rows })
  unfold stA stS
  rw [e]
  refine sdr_ite (b := !hasI s.length i) (et_not (et_is (et_B (ed_callS rfl (ea_cons (ed_var rfl) ea_nil) .mk)) vis_has)) (fun h => ?_) (fun h => ?_)
  · rw [itemAt_none (by simpa using h)]
    exact sdr_of OB (sd_ret (en_lst1I ed_int).ed ⟨rfl, _, rfl⟩)
  obtain ⟨x, e1, e2, e3, e4, e5, e6⟩ := itemAt_some (xs := s) (i := i) (by simpa using h)
  rw [e1]
  refine sdr_lenSt (i := 0) rfl fun hxs => ?_
  rw [List.length_map] at hxs
  have hx : xs[i.toNat]? = some xs[i.toNat] := List.getElem?_eq_getElem (by omega)
  have ht : (s.map itC)[i.toNat]? = some (itC x) := by rw [List.getElem?_map, e4]; rfl
  refine sdr_seq (sd_asgIx (i := 0) (j := 4) (k := 0) rfl (ed_var rfl) (atI_lt e5 hx) (hlt rfl) ?_ (by decide) ⟨_, rfl, rfl⟩)
  generalize xs[i.toNat] = x0 at *
  refine sdr_ite (b := !isTab x) (et_not (et_B (ed_isTabA (i := 0) (j := 4) T rfl rfl hx ht))) (fun h => ?_) (fun h => ?_)
  · rw [onT_non (by simpa using h)]
    exact sdr_of OB (sd_ret (en_lst1I ed_int).ed ⟨rfl, _, rfl⟩)
  obtain ⟨t, rfl⟩ := tab_of (x := x) (by simpa using h)
  have v : VT t := hs.1 _ e3
  have eo : onT s i (some (.table t)) (fun t => !Vanbkh.isBetween c 0 (Vanbkh.ofNat t.headers.length - 1)) (fun _ => !Vanbkh.isBetween d 0 1) (-13) (-10) (fun t => { t with rows := Vanbkh.sortRows (d == 1) c.toNat t.rows }) = if (!Vanbkh.isBetween c 0 (Vanbkh.ofNat t.headers.length - 1)) = true then (⟨s⟩, .error (-13)) else if (!Vanbkh.isBetween d 0 1) = true then (⟨s⟩, .error (-10)) else ({ items := s.set i.toNat (.table { t with rows := Vanbkh.sortRows (d == 1) c.toNat t.rows }) }, .numbers [0]) := rfl
  rw [eo]
  refine sdr_ite (b := !Vanbkh.isBetween c 0 (Vanbkh.ofNat t.headers.length - 1)) (et_not (et_B (ed_callAl (i := 0) (j := 4) (it := itC (.table t)) rfl rfl hx ht (ea_cons (ed_var rfl) ea_nil) (.mk (x := t))))) (fun h => ?_) (fun h => ?_)
  · rw [if_pos h]
    exact sdr_of OB (sd_ret (en_lst1I ed_int).ed ⟨rfl, _, rfl⟩)
  rw [if_neg (by rw [h]; simp)]
  have hc : 0 ≤ c ∧ c < t.headers.length := by
    unfold Vanbkh.isBetween Vanbkh.ofNat at h
    simp at h
    omega
  refine sdr_ite (b := !Vanbkh.isBetween d 0 1) (et_not (et_B (ed_call (ea_cons (ed_var rfl) (ea_cons ed_int (ea_cons ed_int ea_nil))) (.mk)))) (fun h => ?_) (fun h => ?_)
  · rw [if_pos h]
    exact sdr_of OB (sd_ret (en_lst1I ed_int).ed ⟨rfl, _, rfl⟩)
  rw [if_neg (by rw [h]; simp)]
  have hcol : ∀ r ∈ t.rows, 0 ≤ c ∧ c < r.length := fun r hr => by
    have := (v.row r (by simp [mRowsH, hr])).1
    rw [this]
    exact hc
  refine sdr_order (i := 0) (j := 4) (tb := t) (c := c) (e := d) T OB rfl rfl hx ht (ea_cons (ed_fldA (i := 0) (j := 4) (it := itC (.table t)) (d := dRows t.rows) rfl rfl hx ht T.k_Table T.n_Table_rows rfl) (ea_cons (ed_var rfl) (ea_cons (ed_var rfl) ea_nil))) hcol fun B4 => ?_
  refine sd_ret (en_lst1I ed_int).ed ⟨rfl, xs, ?_⟩
  have es : Vanbkh.sortRows (d == 1) c.toNat t.rows = t.rows.mergeSort (rowLe (decide (d = 1)) c.toNat) := by
    rw [sortRows_eq _ _ _ fun r hr => by have := hcol r hr; omega]
    rfl
  show some (Sl.st p xs _) = some (Sl.st p xs ((s.set i.toNat (.table { t with rows := Vanbkh.sortRows (d == 1) c.toNat t.rows })).map itC))
  rw [es, List.map_set]
end Rl
namespace Rl
open PySem PySem.Spec PyProof.Rows L2 Dg NdefX LamX

inductive Chg : Int → List Int → List Int → Vanbkh.Call → Prop
  | rem (i : Int) (l : List Int) : Chg 6 [i] l (.remove i)
  | mov (i j : Int) (l : List Int) : Chg 7 [i, j] l (.move i j)
  | srt (i c d : Int) (l : List Int) : Chg 8 [i, c, d] l (.sort i c d)
  | sel (i : Int) (l : List Int) : Chg 9 [i] l (.select i l)
inductive r_perform_changing : List It0 → List D → D → List It0 → Prop
  | mk {s : List Vanbkh.Item} {n : Int} {is ls : List Int} {c : Vanbkh.Call} (hs : VS s) (ha : Chg n is ls c) (h : ls.length ≤ 1000) : r_perform_changing (s.map itC) [dCall n is ls] (.lst (dI (stA s c))) ((stS s c).map itC)
abbrev N_perform_changing : List Str := ["items", "call", "integers"]
theorem sc_perform_changing : FnScope N_perform_changing ["items", "call"] (defScope (top 167)) := ⟨rfl, rfl, rfl, by decide +kernel, rfl, by decide +kernel, by decide +kernel⟩
theorem ok_perform_changing {Pr : Program} {w : World} {K : PySem.W.Frag} {mg : Str → Option Value} {base : Heap} (T : Tx K mg) (TB : TabB base mg (He.cT K odP).1 (He.cT K odP).2) : Ok Pr w K mg base 6 "perform_changing" ["items", "call"] (spST K r_perform_changing) := by
  obtain ⟨fd, F⟩ := T.d_perform_changing
  refine ⟨⟨fd, fn_stateT (N := N_perform_changing) F sc_perform_changing (fun its ds d its2 h => by cases h; rfl) ?_, F.bindsN fun _ _ _ _ _ _ us hl => match us, hl with | [_, _], _ => rfl⟩, F.kp, T.g_perform_changing⟩
  intro cdv A outer s H E hr
  refine ⟨_, (pss_cons (ps_set (i := 2) sc_perform_changing.nd rfl (Or.inl rfl) (pe_fldK (K := K) (pv 1) rfl rfl))
 (pss_cons (ps_if (pt_cmpR op_eq (pe_fldK (K := K) (pv 1) rfl rfl) pe_int (nomark _))
 (pss_one (ps_ret (pe_callO (ok_remove_item T) (hr.mono (by decide)) rfl (pa_cons (pv 0) (pa_cons (pe_ix (r := rIxL K) ix_list (pv 2) pe_int (fun _ _ => rfl)) pa_nil)))))
 pss_nil)
 (pss_cons (ps_if (pt_cmpR op_eq (pe_fldK (K := K) (pv 1) rfl rfl) pe_int (nomark _))
 (pss_one (ps_ret (pe_callO (ok_move_item T) (hr.mono (by decide)) rfl (pa_cons (pv 0) (pa_cons (pe_ix (r := rIxL K) ix_list (pv 2) pe_int (fun _ _ => rfl)) (pa_cons (pe_ix (r := rIxL K) ix_list (pv 2) pe_int (fun _ _ => rfl)) pa_nil))))))
 pss_nil)
 (pss_cons (ps_if (pt_cmpR op_eq (pe_fldK (K := K) (pv 1) rfl rfl) pe_int (nomark _))
 (pss_one (ps_ret (pe_callO (ok_sort_rows T TB) (hr.mono (by decide)) rfl (pa_cons (pv 0) (pa_cons (pe_ix (r := rIxL K) ix_list (pv 2) pe_int (fun _ _ => rfl)) (pa_cons (pe_ix (r := rIxL K) ix_list (pv 2) pe_int (fun _ _ => rfl)) (pa_cons (pe_ix (r := rIxL K) ix_list (pv 2) pe_int (fun _ _ => rfl)) pa_nil)))))))
 pss_nil)
 (pss_one (ps_ret (pe_callO (ok_select_columns T) (hr.mono (by decide)) rfl (pa_cons (pv 0) (pa_cons (pe_ix (r := rIxL K) ix_list (pv 2) pe_int (fun _ _ => rfl)) (pa_cons (pe_fldK (K := K) (pv 1) rfl rfl) pa_nil)))))))))), ?_⟩
  intro B p xs its ds d its2 OB hR
  obtain ⟨⟩ := hR
  rename_i s n is ls c hs ha h
  have h12 := hs.2
  refine sdr_seq (sd_asg (ed_fld (d := .lst (dI is)) (ed_var rfl) T.k_Call T.n_Call_integers rfl) (hlt rfl) ?_)
  cases ha with
  | rem i l =>
    refine sdr_ite (b := true) (et_is (et_test (ed_eq (i := 6) (ed_fld (ed_var rfl) T.k_Call T.n_Call_number rfl) ed_int)) rfl) (fun _ => ?_) (fun z => absurd z (by decide))
    exact sdr_of OB (sd_retS (i := 0) rfl (ea_cons (ed_ixN (x := i) (ed_var rfl) ed_int (atI_nat (j := 0) rfl)) ea_nil) (.mk h12) (fun xs' => ⟨rfl, xs', rfl⟩))
  | mov i j l =>
    refine sdr_ite (b := false) (et_is (et_test (ed_eq (i := 7) (ed_fld (ed_var rfl) T.k_Call T.n_Call_number rfl) ed_int)) rfl) (fun z => absurd z (by decide)) (fun _ => ?_)
    refine sdr_ite (b := true) (et_is (et_test (ed_eq (i := 7) (ed_fld (ed_var rfl) T.k_Call T.n_Call_number rfl) ed_int)) rfl) (fun _ => ?_) (fun z => absurd z (by decide))
    exact sdr_of OB (sd_retS (i := 0) rfl (ea_cons (ed_ixN (x := i) (ed_var rfl) ed_int (atI_nat (j := 0) rfl)) (ea_cons (ed_ixN (x := j) (ed_var rfl) ed_int (atI_nat (j := 1) rfl)) ea_nil)) (.mk h12) (fun xs' => ⟨rfl, xs', rfl⟩))
  | srt i c d l =>
    refine sdr_ite (b := false) (et_is (et_test (ed_eq (i := 8) (ed_fld (ed_var rfl) T.k_Call T.n_Call_number rfl) ed_int)) rfl) (fun z => absurd z (by decide)) (fun _ => ?_)
    refine sdr_ite (b := false) (et_is (et_test (ed_eq (i := 8) (ed_fld (ed_var rfl) T.k_Call T.n_Call_number rfl) ed_int)) rfl) (fun z => absurd z (by decide)) (fun _ => ?_)
    refine sdr_ite (b := true) (et_is (et_test (ed_eq (i := 8) (ed_fld (ed_var rfl) T.k_Call T.n_Call_number rfl) ed_int)) rfl) (fun _ => ?_) (fun z => absurd z (by decide))
    exact sdr_tail (i := 0) OB rfl (ea_cons (ed_ixN (x := i) (ed_var rfl) ed_int (atI_nat (j := 0) rfl)) (ea_cons (ed_ixN (x := c) (ed_var rfl) ed_int (atI_nat (j := 1) rfl)) (ea_cons (ed_ixN (x := d) (ed_var rfl) ed_int (atI_nat (j := 2) rfl)) ea_nil))) (.mk hs)
  | sel i l =>
    refine sdr_ite (b := false) (et_is (et_test (ed_eq (i := 9) (ed_fld (ed_var rfl) T.k_Call T.n_Call_number rfl) ed_int)) rfl) (fun z => absurd z (by decide)) (fun _ => ?_)
    refine sdr_ite (b := false) (et_is (et_test (ed_eq (i := 9) (ed_fld (ed_var rfl) T.k_Call T.n_Call_number rfl) ed_int)) rfl) (fun z => absurd z (by decide)) (fun _ => ?_)
    refine sdr_ite (b := false) (et_is (et_test (ed_eq (i := 9) (ed_fld (ed_var rfl) T.k_Call T.n_Call_number rfl) ed_int)) rfl) (fun z => absurd z (by decide)) (fun _ => ?_)
    exact sdr_of OB (sd_retS (i := 0) rfl (ea_cons (ed_ixN (x := i) (ed_var rfl) ed_int (atI_nat (j := 0) rfl)) (ea_cons (ed_fld (d := .lst (dI ls)) (ed_var rfl) T.k_Call T.n_Call_listed rfl) ea_nil)) (.mk hs h) (fun xs' => ⟨rfl, xs', rfl⟩))
inductive CallR : Int → List Int → List Int → Vanbkh.Call → Prop
  | add {n : Int} {is ls : List Int} {c : Vanbkh.Call} : Adds n is ls c → ls.length ≤ 99999 → (∀ x ∈ ls, Vanbkh.isValidNumber x = true) → CallR n is ls c
  | chg {n : Int} {is ls : List Int} {c : Vanbkh.Call} : Chg n is ls c → ls.length ≤ 1000 → CallR n is ls c
  | sho {n : Int} {is ls : List Int} {c : Vanbkh.Call} : Shows n is c → CallR n is ls c
theorem adds_n {n : Int} {is ls : List Int} {c : Vanbkh.Call} (h : Adds n is ls c) : (decide (n ≤ 5) || decide (n = 14)) = true := by cases h <;> rfl
theorem chg_n {n : Int} {is ls : List Int} {c : Vanbkh.Call} (h : Chg n is ls c) : (decide (n ≤ 5) || decide (n = 14)) = false ∧ decide (n ≤ 9) = true := by cases h <;> exact ⟨rfl, rfl⟩
theorem sho_n {n : Int} {is : List Int} {c : Vanbkh.Call} (h : Shows n is c) : (decide (n ≤ 5) || decide (n = 14)) = false ∧ decide (n ≤ 9) = false := by cases h <;> exact ⟨rfl, rfl⟩
theorem sho_q {n : Int} {is : List Int} {c : Vanbkh.Call} (h : Shows n is c) (s : List Vanbkh.Item) : stA s c = qA s c ∧ stS s c = s := by cases h <;> exact ⟨rfl, rfl⟩
theorem sho_ne {n : Int} {is : List Int} {c : Vanbkh.Call} (h : Shows n is c) (s : List Vanbkh.Item) : qA s c ≠ [] := by
  cases h with
  | item i w =>
    show VanbkhNeutral.encode (match Vanbkh.itemAt ⟨s⟩ i with | none => .error (-11) | some x => if Vanbkh.isInvalidWidth w = true then .error (-14) else .numbers (Vanbkh.encodeLines (Vanbkh.itemLines w.toNat x))) ≠ []
    cases Vanbkh.itemAt ⟨s⟩ i with
    | none => simp [VanbkhNeutral.encode]
    | some x => by_cases hw : Vanbkh.isInvalidWidth w = true <;> simp [hw, VanbkhNeutral.encode, Vanbkh.encodeLines]
  | doc w =>
    show VanbkhNeutral.encode (if Vanbkh.isInvalidWidth w = true then .error (-14) else .numbers (Vanbkh.encodeLines (Vanbkh.documentLines w.toNat s))) ≠ []
    by_cases hw : Vanbkh.isInvalidWidth w = true <;> simp [hw, VanbkhNeutral.encode, Vanbkh.encodeLines]
  | pages w h =>
    show VanbkhNeutral.encode (if Vanbkh.isInvalidWidth w = true then .error (-14) else if (!Vanbkh.isBetween h 5 60) = true then .error (-15) else .numbers (Vanbkh.ofNat (Vanbkh.pages w.toNat h.toNat s).length :: (Vanbkh.pages w.toNat h.toNat s).flatMap Vanbkh.encodeLines)) ≠ []
    by_cases hw : Vanbkh.isInvalidWidth w = true
    · simp [hw, VanbkhNeutral.encode]
    · rw [if_neg hw]
      by_cases hh : (!Vanbkh.isBetween h 5 60) = true
      · rw [if_pos hh]
        simp [VanbkhNeutral.encode]
      · rw [if_neg hh]
        simp [VanbkhNeutral.encode]
  | widths i w =>
    show VanbkhNeutral.encode (match Vanbkh.itemAt ⟨s⟩ i with | none => .error (-11) | some x => if Vanbkh.isInvalidWidth w = true then .error (-14) else (match x with | .table t => .numbers (Vanbkh.ofNat (Vanbkh.columnWidths w.toNat t).length :: (Vanbkh.columnWidths w.toNat t).map Vanbkh.ofNat) | _ => .error (-12))) ≠ []
    cases Vanbkh.itemAt ⟨s⟩ i with
    | none => simp [VanbkhNeutral.encode]
    | some x =>
      by_cases hw : Vanbkh.isInvalidWidth w = true
      · simp [hw, VanbkhNeutral.encode]
      · simp only [hw]
        cases x <;> simp [VanbkhNeutral.encode]
  | kinds => simp [qA, Vanbkh.query, VanbkhNeutral.encode]
  | cells i =>
    show VanbkhNeutral.encode (match Vanbkh.itemAt ⟨s⟩ i with | none => .error (-11) | some (.table t) => .numbers (Vanbkh.encodeTable t) | some _ => .error (-12)) ≠ []
    cases Vanbkh.itemAt ⟨s⟩ i with
    | none => simp [VanbkhNeutral.encode]
    | some x => cases x <;> simp [VanbkhNeutral.encode, Vanbkh.encodeTable]
inductive r_perform_call : List It0 → List D → D → List It0 → Prop
  | mk {s : List Vanbkh.Item} {n : Int} {is ls : List Int} {c : Vanbkh.Call} (hs : VS s) (hc : CallR n is ls c) : r_perform_call (s.map itC) [dCall n is ls] (.lst (dI (stA s c))) ((stS s c).map itC)
abbrev N_perform_call : List Str := ["items", "call"]
theorem sc_perform_call : FnScope N_perform_call ["items", "call"] (defScope (top 169)) := ⟨rfl, rfl, rfl, by decide +kernel, rfl, by decide +kernel, by decide +kernel⟩
theorem ok_perform_call {Pr : Program} {w : World} {K : PySem.W.Frag} {mg : Str → Option Value} {base : Heap} (T : Tx K mg) (TB : TabB base mg (He.cT K odP).1 (He.cT K odP).2) : Ok Pr w K mg base 13 "perform_call" ["items", "call"] (spST K r_perform_call) := by
  obtain ⟨fd, F⟩ := T.d_perform_call
  refine ⟨⟨fd, fn_stateT (N := N_perform_call) F sc_perform_call (fun its ds d its2 h => by cases h; rfl) ?_, F.bindsN fun _ _ _ _ _ _ us hl => match us, hl with | [_, _], _ => rfl⟩, F.kp, T.g_perform_call⟩
  intro cdv A outer s H E hr
  refine ⟨_, (pss_cons (ps_if (PW.pt (pw_or (pt_cmpR op_le (pe_fldK (K := K) (pv 1) rfl rfl) pe_int (nomark _)) (pw_or1 (pt_cmpR op_eq (pe_fldK (K := K) (pv 1) rfl rfl) pe_int (nomark _)))))
 (pss_one (ps_ret (pe_callO (ok_perform_adding T) (hr.mono (by decide)) rfl (pa_cons (pv 0) (pa_cons (pv 1) pa_nil)))))
 pss_nil)
 (pss_cons (ps_if (pt_cmpR op_le (pe_fldK (K := K) (pv 1) rfl rfl) pe_int (nomark _))
 (pss_one (ps_ret (pe_callO (ok_perform_changing T TB) (hr.mono (by decide)) rfl (pa_cons (pv 0) (pa_cons (pv 1) pa_nil)))))
 pss_nil)
 (pss_one (ps_ret (pe_callO (ok_perform_showing T) (hr.mono (by decide)) rfl (pa_cons (pv 0) (pa_cons (pv 1) pa_nil))))))), ?_⟩
  intro B p xs its ds d its2 OB hR
  obtain ⟨⟩ := hR
  rename_i s n is ls c hs hc
  cases hc with
  | add ha h hv =>
    refine sdr_ite (b := true) (et_is (et_or (et_test (ed_le (ed_fld (ed_var rfl) T.k_Call T.n_Call_number rfl) ed_int)) (fun _ => et_test (ed_eq (ed_fld (ed_var rfl) T.k_Call T.n_Call_number rfl) ed_int))) (adds_n ha)) (fun _ => ?_) (fun z => absurd z (by decide))
    exact sdr_of OB (sd_retS (i := 0) rfl (ea_cons (ed_var rfl) ea_nil) (.mk ha h hv (readFull_eq ls)) (fun xs' => ⟨rfl, xs', rfl⟩))
  | chg ha h =>
    refine sdr_ite (b := false) (et_is (et_or (et_test (ed_le (ed_fld (ed_var rfl) T.k_Call T.n_Call_number rfl) ed_int)) (fun _ => et_test (ed_eq (ed_fld (ed_var rfl) T.k_Call T.n_Call_number rfl) ed_int))) (chg_n ha).1) (fun z => absurd z (by decide)) (fun _ => ?_)
    refine sdr_ite (b := true) (et_is (et_test (ed_le (ed_fld (ed_var rfl) T.k_Call T.n_Call_number rfl) ed_int)) (chg_n ha).2) (fun _ => ?_) (fun z => absurd z (by decide))
    exact sdr_tail (i := 0) OB rfl (ea_cons (ed_var rfl) ea_nil) (.mk hs ha h)
  | sho hq =>
    refine sdr_ite (b := false) (et_is (et_or (et_test (ed_le (ed_fld (ed_var rfl) T.k_Call T.n_Call_number rfl) ed_int)) (fun _ => et_test (ed_eq (ed_fld (ed_var rfl) T.k_Call T.n_Call_number rfl) ed_int))) (sho_n hq).1) (fun z => absurd z (by decide)) (fun _ => ?_)
    refine sdr_ite (b := false) (et_is (et_test (ed_le (ed_fld (ed_var rfl) T.k_Call T.n_Call_number rfl) ed_int)) (sho_n hq).2) (fun z => absurd z (by decide)) (fun _ => ?_)
    obtain ⟨e1, e2⟩ := sho_q hq s
    rw [e1, e2]
    have er : (D.lst ((s.map itC).map obD)) = dIts s := by
      rw [List.map_map]
      rfl
    exact sdr_of OB (sd_retSh (i := 0) (l := qA s c) rfl (ea_cons (ed_var rfl) ea_nil) (by rw [er]; exact .mk hs hq) (sho_ne hq s) ⟨rfl, xs, rfl⟩)
end Rl
namespace Rl
open PySem PySem.Spec PyProof.Rows L2 Dg NdefX LamX
inductive Plays : List Vanbkh.Item → List (Int × List Int × List Int) → List Int → Prop
  | nil {s : List Vanbkh.Item} : Plays s [] []
  | cons {s : List Vanbkh.Item} {n : Int} {is ls : List Int} {c : Vanbkh.Call} {cs : List (Int × List Int × List Int)} {l : List Int} : CallR n is ls c → Plays (stS s c) cs l → Plays s ((n, is, ls) :: cs) (((stA s c).length : Int) :: (stA s c ++ l))
theorem callR_keep {n : Int} {is ls : List Int} {c : Vanbkh.Call} (h : CallR n is ls c) {s : List Vanbkh.Item} (hs : VS s) : VS (stS s c) := by
  refine keep_all hs c fun l hl => ?_
  cases h with
  | add ha _ hv =>
    rcases hl with ⟨m, rfl⟩ | rfl
    · cases ha
      exact hv
    · cases ha
      exact hv
  | chg ha _ =>
    rcases hl with ⟨m, rfl⟩ | rfl
    · cases ha
    · cases ha
  | sho ha =>
    rcases hl with ⟨m, rfl⟩ | rfl
    · cases ha
    · cases ha
def spAns (K : PySem.W.Frag) : Sp := fun vs H Q _ => ∃ a ns cs l, vs = [.ref a] ∧ SqL K H a (ns.map V.int) ∧ TabsN (tabs K) H ∧ Req ns cs ∧ ns.length < 16000000 ∧ Plays [] cs l ∧ l.length ≤ 10000000 ∧ ∀ p H', H' p = some (.lst (l.map V.int)) → Q (.ref p) H'
theorem sqL_noT {K : PySem.W.Frag} {H : Hp} {a : Addr} {xs : List V} (h : SqL K H a xs) : SqL K (noT H) a xs := by
  rcases h with (h | ⟨o, h⟩) | h
  · exact .inl (.inl (noT_of h rfl))
  · exact .inl (.inr ⟨o, noT_of h rfl⟩)
  · exact .inr h
abbrev N_answers : List Str := ["calls", "items", "answered", "call", "answer"]
theorem sc_answers : FnScope N_answers ["calls"] (defScope (top 170)) := ⟨rfl, rfl, rfl, by decide +kernel, rfl, by decide +kernel, by decide +kernel⟩
theorem fn_answers {Pr : Program} {w : World} {K : PySem.W.Frag} {mg : Str → Option Value} {base : Heap} {fd : FuncData} (T : Tx K mg) (TB : TabB base mg (He.cT K odP).1 (He.cT K odP).2) (F : FunD K "answers" "answers" (defArgs (top 170)) (defBody (top 170)) (defScope (top 170)) [] [] (He.ga K "answers") fd) : FnOk Pr w K mg base CX0 14 (He.ga K "answers") fd ["calls"] (spAns K) := by
  refine F.ok sc_answers (fun vs H Q E h => ?_) (fun cdv A outer s H vs Q E hr h => ⟨_, PSs.nox (pss_cons (ps_set (i := 1) sc_answers.nd rfl (Or.inl rfl) (pe_lst pa_nil))
 (pss_cons (ps_set (i := 2) sc_answers.nd rfl (Or.inl rfl) (pe_lst pa_nil))
 (pss_cons (ps_for PassesOwn.never rfl (pi_list (pe_callO (ok_split_into_calls T) (hr.mono (by decide)) rfl (pa_cons (pv 0) pa_nil))) (pg_name (i := 3) sc_answers.nd rfl (Or.inl rfl))
 (pss_cons (ps_set (i := 4) sc_answers.nd rfl (Or.inl rfl) (pe_callO (ok_perform_call T TB) (hr.mono (by decide)) rfl (pa_cons (pv 1) (pa_cons (pv 3) pa_nil))))
 (pss_cons (ps_expr (pe_bm PySem.F.plainAttrs_list PySem.F.slot_list_append PySem.F.type_list_append mt_append (pv 2) (pa_cons (pe_callB (r := rLenQ K) call_len_seq (by rfl) T.f_len (by decide +kernel) (pa_cons (pv 4) pa_nil)) pa_nil)))
 (pss_one (ps_expr (pe_bm PySem.F.plainAttrs_list PySem.F.slot_list_extend PySem.F.type_list_extend mt_extend (pv 2) (pa_cons (pv 4) pa_nil)))))))
 (pss_one (ps_ret (pv 2)))))), ?_⟩)
  · obtain ⟨a, ns, cs, l, rfl, _⟩ := h
    rfl
  · obtain ⟨a, ns, cs, tot, rfl, hq, ht, hreq, hns, hpl, hsz, k⟩ := h
    have S0 : SA K (baseT H) (noT H) H (L2.start N_answers [.ref a]) [.sh (.rq ns), .un, .un, .un, .un] [] := by
      refine sa_base nt_noT noT_ex (F := []) ?_ (by simp) (fun p m => by simp at m)
      exact slsA_entry (vs := [.ref a]) (ds := [.rq ns]) (m := 4) (.cons (.rq (sqL_noT hq)) .nil)
    refine (sdm_of2 (N := fun _ => False) (RT := fun v H' => ∃ p, v = .ref p ∧ H' p = some (.lst (tot.map V.int))) fun B1 => sd_asgN (en_lst ea_nil (hle rfl)) (hlt rfl) ?_) _ _ _ _ (good_base ht) nt_noT S0 _ (fun _ _ _ _ _ _ _ _ _ z => z.elim) (fun v H' ⟨p, e1, e2⟩ => by rw [e1]; exact k p H' e2)
    refine sdm_of2 fun B2 => sd_toSt 1 rfl fun p => sd_asgN (en_lst ea_nil (hle rfl)) (hlt rfl) ?_
    refine sdm_seq (sdm_forL (f := dCl) (l := cs) (j := 3) (fun B3 => ed_call (ea_cons (ed_var rfl) ea_nil) (.mk hreq hns)) (fun pre δ => ∃ xs s m n s3 s4, VS s ∧ Plays s (cs.drop pre.length) n ∧ tot = m ++ n ∧ δ = [.sh (.rq ns), .st p xs (s.map itC), .own (dI m), s3, s4]) ?_ ?_ ?_)
    · exact ⟨[], [], [], tot, .un, .un, ⟨fun x h => by simp at h, by simp⟩, hpl, rfl, rfl⟩
    · rintro pre x post δ e ⟨xs, s, m, n, s3, s4, hs, hp, et, rfl⟩
      refine ⟨hlt rfl, ?_⟩
      rw [e, List.drop_left] at hp
      have ed : cs.drop (pre ++ [x]).length = post := by
        rw [e, show pre ++ x :: post = (pre ++ [x]) ++ post by simp, List.drop_left]
      cases hp with
      | cons hc hrest =>
        rename_i q is ls c l2
        have hz : tot.length = m.length + ((stA s c).length + l2.length + 1) := by rw [et]; simp
        refine sdm_seq (sdm_call (.mk hs hc) fun xs' => ?_)
        refine sdm_of2 fun B4 => sd_appendI (i := 2) (l := m) rfl (ed_lenN (ed_var rfl)) (by omega) ?_
        refine sdm_of fun B5 => sd_extendI (i := 2) (l := m ++ [((stA s c).length : Int)]) (m := stA s c) rfl (ed_var rfl) (by simp; omega) ?_
        refine ⟨xs', stS s c, _, l2, _, _, callR_keep hc hs, by rw [ed]; exact hrest, ?_, rfl⟩
        rw [et]
        simp
    · rintro δ ⟨xs, s, m, n, s3, s4, hs, hp, et, rfl⟩
      rw [List.drop_length] at hp
      cases hp
      rw [List.append_nil] at et
      subst et
      exact sdm_ret (i := 2) rfl fun q H' h => ⟨q, rfl, h⟩
end Rl
namespace Rl
open PySem PySem.Spec PyProof.Rows L2 Dg
theorem whole_id (c : List (List Int)) : PyVanbkh.whole c = c := by
  unfold PyVanbkh.whole
  split <;> rfl
theorem valid_of60 {l : List Int} (h : l.all (fun (z : Int) => VanbkhNeutral.whole60 z) = true) : ∀ x ∈ l, Vanbkh.isValidNumber x = true := fun x hx => by
  have := List.all_eq_true.mp h x hx
  unfold VanbkhNeutral.whole60 at this
  unfold Vanbkh.isValidNumber
  simp at this ⊢
  omega
theorem callR_of {c : List (List Int)} (h : VanbkhNeutral.asked1 c = true) (hb : PyInside.call PyVanbkh.bound c = true) : ∃ k, VanbkhNeutral.callOf c = some k ∧ CallR (cvC c).1 (cvC c).2.1 (cvC c).2.2 k := by
  unfold VanbkhNeutral.asked1 at h
  split at h
  · rename_i k t
    simp only [Bool.and_eq_true, decide_eq_true_eq] at h
    exact ⟨_, rfl, .add (.heading k t) (by show t.length ≤ _; omega) (valid_of60 h.2.1)⟩
  · rename_i t
    simp only [Bool.and_eq_true, decide_eq_true_eq] at h
    exact ⟨_, rfl, .add (.para t) (by show t.length ≤ _; omega) (valid_of60 h.1)⟩
  · rename_i k t
    simp only [Bool.and_eq_true, decide_eq_true_eq] at h
    exact ⟨_, rfl, .add (.table k t) (by show t.length ≤ _; omega) (valid_of60 h.2.1)⟩
  · rename_i k t
    simp only [Bool.and_eq_true, decide_eq_true_eq] at h
    exact ⟨_, rfl, .add (.plot k t) (by show t.length ≤ _; omega) (valid_of60 h.2.1)⟩
  · rename_i k t
    simp only [Bool.and_eq_true, decide_eq_true_eq] at h
    exact ⟨_, rfl, .add (.check k t) (by show t.length ≤ _; omega) (valid_of60 h.2.1)⟩
  · rename_i t
    simp only [Bool.and_eq_true, decide_eq_true_eq] at h
    exact ⟨_, rfl, .add (.bars t) (by show t.length ≤ _; omega) (valid_of60 h.1)⟩
  · exact ⟨_, rfl, .chg (.rem _ _) (by show 0 ≤ _; omega)⟩
  · exact ⟨_, rfl, .chg (.mov _ _ _) (by show 0 ≤ _; omega)⟩
  · exact ⟨_, rfl, .chg (.srt _ _ _ _) (by show 0 ≤ _; omega)⟩
  · rename_i k t
    simp only [Bool.and_eq_true, decide_eq_true_eq] at h
    exact ⟨_, rfl, .chg (.sel k t) (by show t.length ≤ _; omega)⟩
  · exact ⟨_, rfl, .sho (.item _ _)⟩
  · exact ⟨_, rfl, .sho (.doc _)⟩
  · exact ⟨_, rfl, .sho (.pages _ _)⟩
  · exact ⟨_, rfl, .sho (.widths _ _)⟩
  · rename_i t
    simp only [Bool.and_eq_true, decide_eq_true_eq] at h
    have h2 : (PyInside.each [] [] && (decide (0 ≤ t.length) && decide (t.length ≤ 16998) && t.all (PyInside.within (-1000000000000000000) 1000000000000000000) && PyInside.lists [] [])) = true := hb
    simp only [Bool.and_eq_true, decide_eq_true_eq] at h2
    exact ⟨_, rfl, .add (.read t) (by show t.length ≤ _; omega) (valid_of60 h.1)⟩
  · exact ⟨_, rfl, .sho .kinds⟩
  · exact ⟨_, rfl, .sho (.cells _)⟩
  · cases h
theorem plays_of : ∀ (raw : List (List (List Int))) (s : List Vanbkh.Item), (∀ c ∈ raw, VanbkhNeutral.asked1 c = true ∧ PyInside.call PyVanbkh.bound c = true) → Plays s (raw.map cvC) (PyFlat.told (PyFlat.played VanbkhNeutral.step ⟨s⟩ raw))
  | [], s, _ => .nil
  | c :: r, s, h => by
    obtain ⟨h1, h2⟩ := h c (by simp)
    obtain ⟨k, e1, e2⟩ := callR_of h1 h2
    have es : VanbkhNeutral.step ⟨s⟩ c = ((Vanbkh.step ⟨s⟩ k).1, VanbkhNeutral.encode (Vanbkh.step ⟨s⟩ k).2) := by
      unfold VanbkhNeutral.step
      rw [e1]
    have ih := plays_of r (stS s k) fun d hd => h d (List.mem_cons_of_mem _ hd)
    have ep : PyFlat.told (PyFlat.played VanbkhNeutral.step ⟨s⟩ (c :: r)) = ((stA s k).length : Int) :: (stA s k ++ PyFlat.told (PyFlat.played VanbkhNeutral.step ⟨stS s k⟩ r)) := by
      show PyFlat.told ((VanbkhNeutral.step ⟨s⟩ c).2 :: PyFlat.played VanbkhNeutral.step (VanbkhNeutral.step ⟨s⟩ c).1 r) = _
      rw [es]
      rfl
    rw [ep]
    exact .cons e2 ih
theorem plays_asked {ns : List Int} (h : PyVanbkh.answers_asked ns = true) : ∃ cs, Req ns cs ∧ Plays [] cs (PyVanbkh.answers ns) ∧ (PyVanbkh.answers ns).length ≤ 10000000 := by
  unfold PyVanbkh.answers_asked at h
  cases e : PyFlat.calls PyVanbkh.shape ns.length ns with
  | none => rw [e] at h; cases h
  | some raw =>
    rw [e] at h
    have h' : (!raw.isEmpty && PyFlat.atMost 20 raw && PyInside.calls PyVanbkh.bound raw && VanbkhNeutral.asked (raw.map PyVanbkh.whole) && PyFlat.short 10000000 (PyVanbkh.answers ns)) = true := h
    simp only [Bool.and_eq_true] at h'
    obtain ⟨⟨⟨⟨h1, h2⟩, h3⟩, h4⟩, h5⟩ := h'
    have ew : raw.map PyVanbkh.whole = raw := by
      rw [show PyVanbkh.whole = id from funext whole_id, List.map_id]
    rw [ew] at h4
    have ea : PyVanbkh.answers ns = PyFlat.told (PyFlat.played VanbkhNeutral.step VanbkhNeutral.start raw) := by
      unfold PyVanbkh.answers PyVanbkh.calls
      rw [e]
      show PyFlat.told (PyFlat.played VanbkhNeutral.step VanbkhNeutral.start (raw.map PyVanbkh.whole)) = _
      rw [ew]
    refine ⟨raw.map cvC, req_of _ _ _ e, ?_, of_decide_eq_true h5⟩
    rw [ea]
    have h6 : (raw.all VanbkhNeutral.asked1 && (decide (1 ≤ raw.length) && decide (raw.length ≤ 20))) = true := h4
    simp only [Bool.and_eq_true] at h6
    exact plays_of raw [] fun c hc => ⟨List.all_eq_true.mp h6.1 c hc, List.all_eq_true.mp h3 c hc⟩
end Rl
namespace Rl
open PySem PySem.Spec PyProof.Rows L2 Dg LamX
open PySem.W (WData Codec OpenSpec Well WellAll ReadsW ReadsAllW)
theorem sqL_up {K : PySem.W.Frag} {H H' : Hp} (e : Ex H H') {a : Addr} {xs : List V} (q : SqL K H a xs) : SqL K H' a xs := by
  rcases q with (h | ⟨o, h⟩) | h
  · exact .inl (.inl (e _ _ h))
  · exact .inl (.inr ⟨o, e _ _ h⟩)
  · exact .inr h
theorem sqT_up {K : PySem.W.Frag} {H H' : Hp} (e : Ex H H') {a : Addr} {xs : List V} (q : SqT K H a xs) : SqT K H' a xs := by
  rcases q with (h | ⟨o, h⟩) | h
  · exact .inl (.inl (e _ _ h))
  · exact .inl (.inr ⟨o, e _ _ h⟩)
  · exact .inr h
mutual
theorem dw_up {K : PySem.W.Frag} {H H' : Hp} (e : Ex H H') : ∀ {v : V} {d : WData}, Dw K H v d → Dw K H' v d
  | _, _, .non => .non
  | _, _, .bl b => .bl b
  | _, _, .int i => .int i
  | _, _, .str x => .str x
  | _, _, .byt b => .byt b
  | _, _, .lst h t => .lst (sqL_up e h) (dwAll_up e t)
  | _, _, .tup h t => .tup (sqT_up e h) (dwAll_up e t)
theorem dwAll_up {K : PySem.W.Frag} {H H' : Hp} (e : Ex H H') : ∀ {vs : List V} {ds : List WData}, DwAll K H vs ds → DwAll K H' vs ds
  | _, _, .nil => .nil
  | _, _, .cons h t => .cons (dw_up e h) (dwAll_up e t)
end
/-- the arguments, and the one table that may grow -/
def tbH (T : Addr) (H : Hp) : Hp := fun b => if b = T then some (.tbl #[]) else H b
def OnlyT (T : Addr) (H : Hp) : Prop := ∀ b, H b = none ∨ b = T ∨ ∃ o u, H b = some (.frz o u)
theorem spec_tab {P : Program} {w : World} {K : PySem.W.Frag} {mg mb : Str → Option Value} {CX : CXT} {k : Nat} {fa c T : Addr} {fd : FuncData} {ps : List Str} {sp : Sp} {s₁ : Shared} {vals : List Value} {ds : List WData} {R : PySem.W.WRecords} {cl : Str → Option Addr} {d0 : WData}
    (KX : K.In s₁.heap) (hns : s₁.heap.Ns mainGlobals mg) (hb : s₁.heap.Ns builtinsNs mb) (hbb : ∀ x : Str, x ≠ "__name__" → mb x = bootBuiltins x) (hlim : s₁.heap.NoLimit) (hg : s₁.gens = #[])
    (hT : s₁.heap.get? T = some { cls := .none, data := .fields #[] }) (nT : K.lookup T = none) (C : PySem.W.CodeHd s₁.heap c T)
    (hbm : ∃ (bm : Addr) (ob : Obj), mg "__builtins__" = some (.ref bm) ∧ bm ≠ builtinsNs ∧ s₁.heap.get? bm = some ob ∧ ob.cls = .type "module" ∧ ob.dict = some builtinsNs ∧ ob.data = .plain)
    (hwl : WellAll w.params s₁.heap vals ds) (hpl : plWs ds = true) (hwt : ∀ d ∈ ds, d.weight ≤ 1048576) (hr : Room k callerA)
    (F : ∀ base : Heap, K.In base → base.Ns mainGlobals mg → TabB base mg c T → FnOk P w K mg base CX k fa fd ps sp) (hbind : Binds K fd ps []) (hlen : ds.length = ps.length)
    (hsp : ∀ (H : Hp) (xs : List V), H T = some (.tbl #[]) → OnlyT T H → DwAll K H xs ds → sp xs H (fun v H' => Dw K H' v d0) fun _ _ _ => False)
    (hCX : ∀ H e s', CX [] H s₁ (fun _ _ _ => False) e s' → False) :
    codeAny (model P w) callerA (.call (.ref fa) ⟨vals, []⟩) (fun r s' => ∃ u as, r = .ok (.ret u) ∧ ReadsW R cl s'.heap u d0 as ∧ OldK s₁.heap s'.heap ∧ s'.os = s₁.os ∧ AllBare s'.gens) s₁ := by
  obtain ⟨A, ho, ar⟩ := area_all ds vals hwl hpl hwt
  have notT : argH K s₁.heap A T = none := by
    cases q : argH K s₁.heap A T with
    | none => rfl
    | some u =>
      obtain ⟨_, vs, _, _, ⟨e2, _⟩ | ⟨e2, _⟩⟩ := argH_is ar q
      · rw [hT] at e2
        cases e2
      · rw [hT] at e2
        cases e2
  have up : Ex (argH K s₁.heap A) (tbH T (argH K s₁.heap A)) := fun b o h => by
    unfold tbH
    by_cases z : b = T
    · rw [z, notT] at h
      cases h
    · rw [if_neg z]
      exact h
  have hO : OnlyT T (tbH T (argH K s₁.heap A)) := fun b => by
    by_cases z : b = T
    · exact .inr (.inl z)
    · unfold tbH
      rw [if_neg z]
      rcases argH_only (K := K) ar b with q | q
      · exact .inl q
      · exact .inr (.inr q)
  have hTt : tbH T (argH K s₁.heap A) T = some (.tbl #[]) := if_pos rfl
  have hok : HOk P w (tbH T (argH K s₁.heap A)) s₁.heap := fun b u q => by
    by_cases z : b = T
    · subst z
      rw [hTt] at q
      cases q
      exact hT
    · have q' : argH K s₁.heap A b = some u := by
        unfold tbH at q
        rw [if_neg z] at q
        exact q
      have q2 := argH_ok (P := P) (w := w) ar b u q'
      obtain ⟨_, vs, _, _, ⟨_, rfl⟩ | ⟨_, rfl⟩⟩ := argH_is ar q'
      · exact q2
      · exact q2
  have hS := dwAll_up up (dw_all KX ar ds vals hwl hpl ho)
  have hV := vals_toV ho
  have hK : ∀ b u, tbH T (argH K s₁.heap A) b = some u → K.lookup b = none := fun b u q => by
    by_cases z : b = T
    · rw [z]
      exact nT
    · unfold tbH at q
      rw [if_neg z] at q
      exact (argH_is ar q).1
  have noA : ∀ {b : Addr} {o : Obj}, s₁.heap.get? b = some o → (∀ vs n, o.data ≠ .seq vs n) → o.data ≠ .fields #[] → tbH T (argH K s₁.heap A) b = none := fun {b o} e h1 h2 => by
    cases q : tbH T (argH K s₁.heap A) b with
    | none => rfl
    | some u =>
      by_cases z : b = T
      · rw [z, hT] at e
        cases e
        exact (h2 rfl).elim
      · unfold tbH at q
        rw [if_neg z] at q
        obtain ⟨_, vs, _, _, ⟨e2, _⟩ | ⟨e2, _⟩⟩ := argH_is ar q
        · rw [e2] at e
          cases e
          exact (h1 _ _ rfl).elim
        · rw [e2] at e
          cases e
          exact (h1 _ _ rfl).elim
  generalize tbH T (argH K s₁.heap A) = H at hO hok hS hK noA hTt
  have base_of : ∀ {b : Addr} {o : Obj}, s₁.heap.get? b = some o → H b = none → (hidT s₁.heap H).get? b = some o := fun e n => hidT_get e n
  have noD : ∀ {b : Addr} {o : Obj} {es : Array DictEntry} {ep : Nat}, s₁.heap.get? b = some o → o.data = .dict es ep → H b = none := fun {b o es ep} e d => noA e (fun vs n z => by rw [d] at z; cases z) (fun z => by rw [d] at z; cases z)
  have nsK : ∀ {b : Addr} {m : Str → Option Value}, s₁.heap.Ns b m → (hidT s₁.heap H).Ns b m := fun {b m} ⟨o, es, ep, e, d, r⟩ => ⟨o, es, ep, base_of e (noD e d), d, r⟩
  have nK : ∀ b o, K.lookup b = some o → H b = none := fun b o e => by
    cases q : H b with
    | none => rfl
    | some u =>
      rw [hK b u q] at e
      cases e
  have hKb : K.In (hidT s₁.heap H) := fun b o e => base_of (KX b o e) (nK b o e)
  have hM : Mod K mg (hidT s₁.heap H) := ⟨hKb, nsK hns, ⟨mb, nsK hb, hbb⟩, let ⟨mc, h1, h2⟩ := hlim; ⟨mc, nsK h1, h2⟩⟩
  have TB : TabB (hidT s₁.heap H) mg c T := by
    refine ⟨?_, ?_, fun z => ?_⟩
    · obtain ⟨o, us, file, tf, flags, tg, inF, text, tt, e1, r1, r2, r3, r4, r5, r6, r7, r8, hne⟩ := C
      refine ⟨o, us, file, tf, flags, tg, inF, text, tt, base_of e1 (noA e1 (fun vs n z => ?_) fun z => ?_), r1, r2, r3, r4, r5, r6, r7, r8, hne⟩
      · rw [r2] at z
        cases z
      · rw [r2] at z
        cases z
        simp at r3
    · obtain ⟨bm, ob, b1, b2, b3, b4, b5, b6⟩ := hbm
      have nG : bm ≠ mainGlobals := fun q => by
        obtain ⟨o, es, ep, e, hd, _⟩ := hns
        rw [q, e] at b3
        cases b3
        rw [hd] at b6
        cases b6
      have nP : bm ≠ T := fun q => by
        rw [q, hT] at b3
        cases b3
        cases b6
      refine ⟨bm, ob, b1, b2, nG, nP, base_of b3 (noA b3 (fun vs n z => ?_) fun z => ?_), b4, b5, b6⟩
      · rw [b6] at z
        cases z
      · rw [b6] at z
        cases z
    · obtain ⟨o, es, ep, e, hd, _⟩ := hns
      rw [z, hT] at e
      cases e
      cases hd
  have e0 : Env0 P w K mg (hidT s₁.heap H) callerA [] s₁ H := ⟨rfl, hM, fun b o e => of_hidT e, Nat.le_of_eq (hidT_size _ _), trivial, fun b hb => absurd (show b ∈ ([] : List Addr) from hb) (by simp), hok, .of_eq hg⟩
  have hl : vals.length = ps.length := by rw [wellAll_len hwl]; exact hlen
  have hbd : BindsTo s₁ fd ⟨vals, []⟩ (ps.zip vals) := by
    have z := hbind s₁ vals KX (by rw [List.append_nil]; exact hl)
    rw [List.append_nil] at z
    exact z
  refine codeAny_mono ((F _ hKb (nsK hns) TB).run callerA [] s₁ H ⟨vals, []⟩ vals (vals.map toV) _ _ hr e0 hbd hV (hsp H _ hTt hO hS)) fun r s' x => ?_
  cases r with
  | error e => exact (hCX H e s' x).elim
  | ok fl =>
    cases fl with
    | next => exact False.elim x
    | brk => exact False.elim x
    | cont => exact False.elim x
    | ret u =>
      obtain ⟨v, H', os, bare, un, hok', r', q⟩ := x
      have kept : ∀ b o, b ≠ T → s₁.heap.get? b = some o → s'.heap.get? b = some o := fun b o nb e => by
        cases q2 : H b with
        | none => exact un.keep b o e q2 (by intro z; exact absurd (show b ∈ ([] : List Addr) from z) (by simp)) (by simp)
        | some u2 =>
          rcases hO b with z | z | ⟨ob, u3, z⟩
          · rw [q2] at z
            cases z
          · exact absurd z nb
          · have z2 := un.frzs b ob _ z
            obtain ⟨e1, _⟩ := hok b _ z
            obtain ⟨e2, _⟩ := hok' b _ z2
            rw [e] at e1
            cases e1
            exact e2
      have KX' : K.In s'.heap := fun b o e => kept b o (fun z => by rw [z, nT] at e; cases e) (KX b o e)
      obtain ⟨as, hrd⟩ := Dw.reads (R := R) (cl := cl) hok' KX' d0 v u q r'
      obtain ⟨more, zt⟩ := un.tbls T #[] hTt
      rw [Array.empty_append] at zt
      have hm : s'.heap.get? T = some { cls := .none, data := .fields more } := hok' T _ zt
      refine ⟨u, as, rfl, hrd, ⟨fun b o e => ?_, fun b o e => ?_⟩, os, bare⟩
      · by_cases hb : b = T
        · subst hb
          rw [hT] at e
          cases e
          exact .inr (.inl ⟨(C.tab hT).isCodeTable, rfl, #[], more, rfl, by rw [Array.empty_append]; exact hm⟩)
        · exact .inl (kept b o hb e)
      · by_cases hb : b = T
        · subst hb
          exact ⟨_, hm⟩
        · exact ⟨o, kept b o hb e⟩
end Rl
namespace Rl
open PySem PySem.Spec PyProof.Rows L2 Dg LamX
open PySem.W (WData Codec OpenSpec Well WellAll ReadsW ReadsAllW)
theorem dw_req {K : PySem.W.Frag} {H : Hp} {ns : List Int} {xs : List V} (h : DwAll K H xs [.list (ns.map WData.int)]) : ∃ a, xs = [.ref a] ∧ SqL K H a (ns.map V.int) := by
  cases h with
  | cons h1 h2 =>
    cases h2
    cases h1 with
    | lst q r =>
      rw [ints_dw _ _ r] at q
      exact ⟨_, rfl, q⟩
theorem theWalk : PySem.W.WalkOS qv loose (PySem.W.XL qv []) hk.says R dRec [] (fun f vs => PySem.call f vs) := by
  intro w s₀ s₁ mg mb G Y fa o pm cd doc dV kV ho hd hcd hD hmg hg args vals as hpre hlay hrd hwl hlo
  obtain ⟨a, e1, e2⟩ := PySem.W.os_pre_some hpre
  obtain ⟨e3, hwi⟩ := Codec.encAll_of_decAll R.args args a e1
  subst e3
  obtain ⟨K, KX, sx⟩ := Y
  obtain ⟨ns, u⟩ := a
  cases u
  have hlen : ns.length ≤ 17000 := by
    have z : ((decide (0 ≤ ns.length) && decide (ns.length ≤ 17000) && ns.all fun z => Codec.within (.int (Int.negSucc 999999999999999999) (Int.ofNat 1000000000000000000)) z) && true) = true := hwi
    simp only [Bool.and_eq_true, decide_eq_true_eq] at z
    exact z.1.1.2
  have hask : PyVanbkh.answers_asked ns = true := e2
  obtain ⟨cs, q1, q2, q3⟩ := plays_asked hask
  have T : Tx K mg := ⟨sx.t.d, sx.more, ⟨_, KX, G.T.g⟩⟩
  obtain ⟨fd, F⟩ := T.d_answers
  have en := tx_name
  have efa : fa = He.ga K "answers" := by
    have z1 : mg ("answers" : Str) = some (.ref fa) := by
      rw [← en]
      exact hmg
    have z2 := T.g_answers
    rw [z1] at z2
    cases z2
    rfl
  have bnd : Binds K fd ["calls"] [] := F.bindsN fun _ _ _ _ _ _ us hl => match us, hl with | [_], _ => rfl
  have hT := sx.empty odP (by decide)
  have nT := sx.out odP (by decide)
  have C := PySem.W.codeHd_of_K KX (sx.hd odP (by decide))
  refine PySem.W.enter_call (codeAny_mono (spec_tab (K := K) (mb := mb) (c := (He.cT K odP).1) (T := (He.cT K odP).2) (sp := spAns K) (CX := CX0) (k := 14) (ps := ["calls"]) (fd := fd) (R := []) (cl := classAt s₀.heap) (d0 := .list ((PyVanbkh.answers ns).map WData.int)) KX G.T.g G.T.b G.T.builtins G.T.nolimit hg hT nT C G.T.bmain hwl (pl_encAll _ _) (layable_weight hlay) ⟨rfl, by decide, by decide⟩ (fun base _ _ TB => ?_) bnd rfl (fun H xs h1 h2 h3 => ?_) fun H e s' z => z) fun r' s' hq => ?_)
  · rw [efa]
    exact fn_answers T TB F
  · obtain ⟨b, rfl, hs⟩ := dw_req (ns := ns) h3
    refine ⟨b, ns, cs, _, rfl, hs, fun p hp => ?_, q1, by omega, q2, q3, fun p H' hp => .lst (.inl (.inl hp)) (dw_ints _)⟩
    rw [List.mem_singleton.mp hp]
    exact NdefX.TabN.nil h1
  · obtain ⟨u, as', rfl, h1, h2, h3, h4⟩ := hq
    exact ⟨.inl ⟨u, _, as', rfl, fun _ => rfl, h1, (OpenSpec.post_iff tx_well hwi _ _).mpr rfl, fun z => Bool.noConfusion (show false = true from z)⟩, h2, h3, h4⟩
end Rl
open PySem PySem.W PySem.Calls PyProof.Rows
theorem PySem.Challenge.cw_reportlayout_s01_answers_holds : PySem.Challenge.rw_reportlayout_s01_answers.Holds :=
  HeadRun.head_spec (r := Rl.R) (q := Rl.qv) (H := Rl.hk) (ob := Rl.ob) (M := 6000) (loose := Rl.loose) (d := Rl.dRec) (kwd := []) Rl.ob_eq Rl.tx_open Rl.tx_fence Rl.run Rl.tx_def Rl.tx_the Rl.tx_kw os_shapes Rl.tx_well Rl.tx_ok Rl.tx_bare Rl.tx_wit Rl.theWalk
