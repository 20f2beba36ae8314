import PyProof.Rows.All
import Wide.All
import OpenK.AllK
import Wide.FinOn
import HandS.ForMost
import HandS.Walk
import HandS.AnyAll
import HandS.Flow
import HandS.TupAny
import HandS.Deep
import HandS.Wide
import HandS.Style
import HandS.EndTab
import HandS.EndBits
import HandS.HeadWalk
import HandS.Strs
import HandS.More
import HandS.Nested
import HandS.GenOver
import PyProof.TupleOfGen
import PyProof.GenRules
import HandS.GenList
import HandS.TupMul
import PyProof.Rows.SortStr
import PyProof.Rows.StrMeet
import PyProof.ReprRoads
import HandS.RaiseMore
import HandS.Small
import KE.KEqSeq
import KE.KEqDeep
import KE.KStateDown
import HandS.HeadEnd
import HandS.Head0
import HandS.Head1
import HandS.Head2
import HandS.Head3
import HandS.HeadHook1
import HandS.HeadHook2
import HandS.HeadHook3
import HandS.HeadHook4
import PySem.Challenge.RW_effectonce_k22_answers_and_air
set_option Elab.async false
set_option linter.all false
set_option maxRecDepth 100000
set_option maxHeartbeats 1000000
/-! data, runs over data, and how data stands in a heap -/
namespace DL
open PySem PySem.Spec PyProof.Rows L2

/-- data -/
inductive D where
  | non
  | bl (b : Bool)
  | int (i : Int)
  | str (s : Str)
  | tup (xs : List D)
  | lst (xs : List D)
  | dic (kvs : List (Key × D))
  | src
  deriving Inhabited
/-- a datum in hand or in a slot: ow: an object of one's own, that nothing else knows -/
inductive DV where
  | sh (d : D)
  | ow (d : D)
def DV.d : DV → D
  | .sh d => d
  | .ow d => d
abbrev Env := List (Option DV)
/-- the source of numbers -/
structure Src where
  left : Int
  mixed : Int
  turn : Int
  cells : List Int
inductive Out (α : Type) where
  | ok (a : α) (ρ : Env) (S : Src)
  | ex (e : D) (ρ : Env) (S : Src)
def M (α : Type) := Env → Src → Option (Out α)
def M.pure {α : Type} (a : α) : M α := fun ρ S => some (.ok a ρ S)
def M.bind {α β : Type} (m : M α) (f : α → M β) : M β := fun ρ S => match m ρ S with
  | some (.ok a ρ' S') => f a ρ' S'
  | some (.ex e ρ' S') => some (.ex e ρ' S')
  | none => none
instance : Monad M where
  pure := M.pure
  bind := M.bind
/-- what does not come: a run without an answer -/
def M.stuck {α : Type} : M α := fun _ _ => none
def M.raise {α : Type} (e : D) : M α := fun ρ S => some (.ex e ρ S)
/-- an answer, or none -/
def M.of {α : Type} : Option α → M α
  | some a => M.pure a
  | none => M.stuck
abbrev Po (α : Type) := α → Env → Src → Prop
def wp {α : Type} (m : M α) (ρ : Env) (S : Src) (Q : Po α) (E : Po D) : Prop := match m ρ S with
  | some (.ok a ρ' S') => Q a ρ' S'
  | some (.ex e ρ' S') => E e ρ' S'
  | none => False
section
variable {α β : Type} {m : M α} {f : α → M β} {ρ : Env} {S : Src} {E E' : Po D}
theorem wp_bind {Q : Po β} : wp (m >>= f) ρ S Q E = wp m ρ S (fun a ρ' S' => wp (f a) ρ' S' Q E) E := by
  show wp (M.bind m f) ρ S Q E = _
  unfold wp M.bind
  cases m ρ S with
  | none => rfl
  | some o => cases o <;> rfl
theorem wp_pure {a : α} {Q : Po α} : wp (pure a) ρ S Q E = Q a ρ S := rfl
theorem wp_of {o : Option α} {Q : Po α} : wp (M.of o) ρ S Q E ↔ ∃ a, o = some a ∧ Q a ρ S := by
  cases o with
  | none => exact ⟨fun h => h.elim, fun ⟨a, h, _⟩ => by cases h⟩
  | some a => exact ⟨fun h => ⟨a, rfl, h⟩, fun ⟨b, h, q⟩ => by cases h; exact q⟩
theorem wp_mono {Q Q' : Po α} (h : wp m ρ S Q E) (hq : ∀ a ρ' S', Q a ρ' S' → Q' a ρ' S') (he : ∀ e ρ' S', E e ρ' S' → E' e ρ' S') : wp m ρ S Q' E' := by
  unfold wp at h ⊢
  revert h
  cases m ρ S with
  | none => exact id
  | some o => cases o with
    | ok a r t => exact fun h => hq _ _ _ h
    | ex e r t => exact fun h => he _ _ _ h
end

/-! ### data in a heap -/
/-- a text that can stand -/
def SOk (s : Str) : Prop := s.length ≤ sizeLine ∧ PyData.strOk s = true
instance (s : Str) : Decidable (SOk s) := inferInstanceAs (Decidable (_ ∧ _))
mutual
/-- v is the datum d; sd: the source's own dict; Fz: the objects that are never changed again -/
inductive At (K : PySem.W.Frag) (sd : Addr) (H : Hp) (Fz : Addr → Prop) : V → D → Prop
  | non : At K sd H Fz .non .non
  | bl (b : Bool) : At K sd H Fz (.bl b) (.bl b)
  | int (i : Int) : At K sd H Fz (.int i) (.int i)
  | str (s : Str) (h : SOk s) : At K sd H Fz (.str s) (.str s)
  | tup {a : Addr} {xs : List V} {ds : List D} : H a = some (.tup xs) → AtL K sd H Fz xs ds → At K sd H Fz (.ref a) (.tup ds)
  | tupK {a : Addr} {xs : List V} {ds : List D} : (∀ H', SqT K H' a xs) → AtL K sd H Fz xs ds → At K sd H Fz (.ref a) (.tup ds)
  | lst {a : Addr} {xs : List V} {ds : List D} : H a = some (.lst xs) → Fz a → AtL K sd H Fz xs ds → At K sd H Fz (.ref a) (.lst ds)
  | dic {a : Addr} {kvs : List (Key × V)} {ds : List (Key × D)} : H a = some (.dK kvs) → Fz a → AtK K sd H Fz kvs ds → At K sd H Fz (.ref a) (.dic ds)
  | src : At K sd H Fz (.ref sd) .src
inductive AtL (K : PySem.W.Frag) (sd : Addr) (H : Hp) (Fz : Addr → Prop) : List V → List D → Prop
  | nil : AtL K sd H Fz [] []
  | cons {v : V} {vs : List V} {d : D} {ds : List D} : At K sd H Fz v d → AtL K sd H Fz vs ds → AtL K sd H Fz (v :: vs) (d :: ds)
inductive AtK (K : PySem.W.Frag) (sd : Addr) (H : Hp) (Fz : Addr → Prop) : List (Key × V) → List (Key × D) → Prop
  | nil : AtK K sd H Fz [] []
  | cons {k : Key} {v : V} {vs : List (Key × V)} {d : D} {ds : List (Key × D)} : At K sd H Fz v d → AtK K sd H Fz vs ds → AtK K sd H Fz ((k, v) :: vs) ((k, d) :: ds)
end
/-- what is frozen stays, and so do tuples -/
structure KF (H : Hp) (Fz : Addr → Prop) (H' : Hp) (Fz' : Addr → Prop) : Prop where
  sub : ∀ a, Fz a → Fz' a
  fz : ∀ a o, Fz a → H a = some o → H' a = some o
  tup : ∀ a xs, H a = some (.tup xs) → H' a = some (.tup xs)
  new : ∀ a, H' a = none → H a = none
theorem KF.refl {H : Hp} {Fz : Addr → Prop} : KF H Fz H Fz := ⟨fun _ h => h, fun _ _ _ h => h, fun _ _ h => h, fun _ h => h⟩
theorem KF.trans {H H1 H2 : Hp} {Fz Fz1 Fz2 : Addr → Prop} (a : KF H Fz H1 Fz1) (b : KF H1 Fz1 H2 Fz2) : KF H Fz H2 Fz2 :=
  ⟨fun x h => b.sub x (a.sub x h), fun x o f h => b.fz x o (a.sub x f) (a.fz x o f h), fun x xs h => b.tup x xs (a.tup x xs h), fun x h => a.new x (b.new x h)⟩
section
variable {K : PySem.W.Frag} {sd : Addr} {H H' : Hp} {Fz Fz' : Addr → Prop}
mutual
theorem At.kf (k : KF H Fz H' Fz') : ∀ {v : V} {d : D}, At K sd H Fz v d → At K sd H' Fz' v d
  | _, _, .non => .non
  | _, _, .bl b => .bl b
  | _, _, .int b => .int b
  | _, _, .str b h => .str b h
  | _, _, .tup h l => .tup (k.tup _ _ h) (AtL.kf k l)
  | _, _, .tupK h l => .tupK h (AtL.kf k l)
  | _, _, .lst h f l => .lst (k.fz _ _ f h) (k.sub _ f) (AtL.kf k l)
  | _, _, .dic h f l => .dic (k.fz _ _ f h) (k.sub _ f) (AtK.kf k l)
  | _, _, .src => .src
theorem AtL.kf (k : KF H Fz H' Fz') : ∀ {v : List V} {d : List D}, AtL K sd H Fz v d → AtL K sd H' Fz' v d
  | _, _, .nil => .nil
  | _, _, .cons a l => .cons (At.kf k a) (AtL.kf k l)
theorem AtK.kf (k : KF H Fz H' Fz') : ∀ {v : List (Key × V)} {d : List (Key × D)}, AtK K sd H Fz v d → AtK K sd H' Fz' v d
  | _, _, .nil => .nil
  | _, _, .cons a l => .cons (At.kf k a) (AtK.kf k l)
end
theorem AtL.length : ∀ {v : List V} {d : List D}, AtL K sd H Fz v d → v.length = d.length
  | _, _, .nil => rfl
  | _, _, .cons _ l => by rw [List.length_cons, List.length_cons, AtL.length l]
theorem AtL.app : ∀ {v : List V} {d : List D} {w : List V} {e : List D}, AtL K sd H Fz v d → AtL K sd H Fz w e → AtL K sd H Fz (v ++ w) (d ++ e)
  | _, _, _, _, .nil, h => h
  | _, _, _, _, .cons a l, h => .cons a (AtL.app l h)
theorem AtL.get : ∀ {v : List V} {d : List D} {i : Nat} {x : D}, AtL K sd H Fz v d → d[i]? = some x → ∃ y, v[i]? = some y ∧ At K sd H Fz y x
  | _, _, _, _, .nil, h => by simp at h
  | _, _, 0, _, .cons a _, h => by simp at h; subst h; exact ⟨_, rfl, a⟩
  | _, _, i + 1, _, .cons _ l, h => by
    obtain ⟨y, h1, h2⟩ := AtL.get (i := i) l (by simpa using h)
    exact ⟨y, by simpa using h1, h2⟩
theorem AtL.getV : ∀ {v : List V} {d : List D} {i : Nat} {y : V}, AtL K sd H Fz v d → v[i]? = some y → ∃ x, d[i]? = some x ∧ At K sd H Fz y x
  | _, _, _, _, .nil, h => by simp at h
  | _, _, 0, _, .cons a _, h => by simp at h; subst h; exact ⟨_, rfl, a⟩
  | _, _, i + 1, _, .cons _ l, h => by
    obtain ⟨y, h1, h2⟩ := AtL.getV (i := i) l (by simpa using h)
    exact ⟨y, by simpa using h1, h2⟩
theorem AtL.take : ∀ (n : Nat) {v : List V} {d : List D}, AtL K sd H Fz v d → AtL K sd H Fz (v.take n) (d.take n)
  | 0, _, _, _ => .nil
  | _ + 1, _, _, .nil => .nil
  | n + 1, _, _, .cons a l => .cons a (AtL.take n l)
theorem AtL.drop : ∀ (n : Nat) {v : List V} {d : List D}, AtL K sd H Fz v d → AtL K sd H Fz (v.drop n) (d.drop n)
  | 0, _, _, h => h
  | _ + 1, _, _, .nil => .nil
  | n + 1, _, _, .cons _ l => AtL.drop n l
theorem AtL.rev : ∀ {v : List V} {d : List D}, AtL K sd H Fz v d → AtL K sd H Fz v.reverse d.reverse
  | _, _, .nil => .nil
  | _, _, .cons a l => by rw [List.reverse_cons, List.reverse_cons]; exact AtL.app (AtL.rev l) (.cons a .nil)
theorem AtL.dropLast {v : List V} {d : List D} (h : AtL K sd H Fz v d) : AtL K sd H Fz v.dropLast d.dropLast := by
  rw [List.dropLast_eq_take, List.dropLast_eq_take, h.length]; exact h.take _
theorem AtL.set : ∀ {v : List V} {d : List D} (i : Nat) {y : V} {x : D}, AtL K sd H Fz v d → At K sd H Fz y x → AtL K sd H Fz (v.set i y) (d.set i x)
  | _, _, _, _, _, .nil, _ => .nil
  | _, _, 0, _, _, .cons _ l, h => .cons h l
  | _, _, i + 1, _, _, .cons a l, h => .cons a (AtL.set i l h)
theorem AtL.erase : ∀ {v : List V} {d : List D} (i : Nat), AtL K sd H Fz v d → AtL K sd H Fz (v.eraseIdx i) (d.eraseIdx i)
  | _, _, _, .nil => .nil
  | _, _, 0, .cons _ l => l
  | _, _, i + 1, .cons a l => .cons a (AtL.erase i l)
theorem AtK.length : ∀ {v : List (Key × V)} {d : List (Key × D)}, AtK K sd H Fz v d → v.length = d.length
  | _, _, .nil => rfl
  | _, _, .cons _ l => by rw [List.length_cons, List.length_cons, AtK.length l]
end
/-- the content of an object of one's own -/
inductive OwnC (K : PySem.W.Frag) (sd : Addr) (H : Hp) (Fz : Addr → Prop) : Addr → D → Prop
  | lst {a : Addr} {xs : List V} {ds : List D} : H a = some (.lst xs) → AtL K sd H Fz xs ds → OwnC K sd H Fz a (.lst ds)
  | dic {a : Addr} {kvs : List (Key × V)} {ds : List (Key × D)} : H a = some (.dK kvs) → AtK K sd H Fz kvs ds → OwnC K sd H Fz a (.dic ds)
theorem OwnC.at {K : PySem.W.Frag} {sd : Addr} {H : Hp} {Fz : Addr → Prop} {a : Addr} {d : D} (h : OwnC K sd H Fz a d) (f : Fz a) : At K sd H Fz (.ref a) d := by
  cases h with
  | lst h l => exact .lst h f l
  | dic h l => exact .dic h f l
theorem OwnC.kf {K : PySem.W.Frag} {sd : Addr} {H H' : Hp} {Fz Fz' : Addr → Prop} {a : Addr} {d : D} (h : OwnC K sd H Fz a d) (k : KF H Fz H' Fz') (e : ∀ o, H a = some o → H' a = some o) : OwnC K sd H' Fz' a d := by
  cases h with
  | lst h l => exact .lst (e _ h) (l.kf k)
  | dic h l => exact .dic (e _ h) (l.kf k)
theorem OwnC.trk {K : PySem.W.Frag} {sd : Addr} {H : Hp} {Fz : Addr → Prop} {a : Addr} {d : D} (h : OwnC K sd H Fz a d) : H a ≠ none := by
  cases h with
  | lst h l => rw [h]; exact fun z => by cases z
  | dic h l => rw [h]; exact fun z => by cases z
theorem OwnC.nt {K : PySem.W.Frag} {sd : Addr} {H : Hp} {Fz : Addr → Prop} {a : Addr} {d : D} (h : OwnC K sd H Fz a d) {xs : List V} : H a ≠ some (.tup xs) := by
  cases h with
  | lst h l => rw [h]; exact fun z => by cases z
  | dic h l => rw [h]; exact fun z => by cases z

/-! ### the source -/
def srcK (cl : Addr) (S : Src) : List (Key × V) := [(.inr "cells", .ref cl), (.inr "left", .int S.left), (.inr "mixed", .int S.mixed), (.inr "turn", .int S.turn)]
structure SrcAt (H : Hp) (sd cl : Addr) (S : Src) : Prop where
  hd : H sd = some (.dK (srcK cl S))
  hc : H cl = some (.lst (S.cells.map V.int))
  l0 : 0 ≤ S.left
  m0 : 0 ≤ S.mixed
  t0 : 0 ≤ S.turn
  c0 : ∀ x ∈ S.cells, 0 ≤ x
  len : S.cells.length ≤ 63

/-! ### the state of a body -/
/-- what is fixed through a body: the heap at its entry, what was frozen there; ex: what may change besides (the source, tables of code objects); W: what is wanted of an exception -/
structure G where
  K : PySem.W.Frag
  sd : Addr
  cl : Addr
  T : List Addr
  H0 : Hp
  Fz0 : Addr → Prop
  W : D → Hp → (Addr → Prop) → Prop
  rz : Bool
def G.ex (g : G) (a : Addr) : Prop := a = g.sd ∨ a = g.cl ∨ a ∈ g.T
/-- own objects in slots -/
def OwnA (ρ : Env) (σ : L2.St) (a : Addr) : Prop := ∃ (i : Nat) (d : D), ρ[i]? = some (some (DV.ow d)) ∧ σ[i]? = some (some (V.ref a))
structure SI (g : G) (ρ : Env) (S : Src) (σ : L2.St) (H : Hp) (Fz : Addr → Prop) : Prop where
  len : ρ.length = σ.length
  sh : ∀ (i : Nat) (d : D), ρ[i]? = some (some (DV.sh d)) → ∃ v, σ[i]? = some (some v) ∧ At g.K g.sd H Fz v d
  ow : ∀ (i : Nat) (d : D), ρ[i]? = some (some (DV.ow d)) → ∃ a, σ[i]? = some (some (V.ref a)) ∧ OwnC g.K g.sd H Fz a d ∧ ¬ Fz a ∧ ¬ g.ex a ∧ g.H0 a = none
  dis : ∀ (i j : Nat) (d e : D) (a : Addr), ρ[i]? = some (some (DV.ow d)) → ρ[j]? = some (some (DV.ow e)) → σ[i]? = some (some (V.ref a)) → σ[j]? = some (some (V.ref a)) → i = j
  src : SrcAt H g.sd g.cl S
  fzx : ∀ a, Fz a → ¬ g.ex a
  fzt : ∀ a, Fz a → H a ≠ none
  ext : ∀ a o, g.H0 a = some o → ¬ g.ex a → H a = some o
  fz0 : ∀ a, g.Fz0 a → Fz a
  fzn : ∀ a o, g.H0 a = some o → Fz a → g.Fz0 a
  tab : ∀ t ∈ g.T, GxR.TabG H t
end DL
set_option Elab.async false
set_option linter.all false
set_option maxRecDepth 100000
set_option maxHeartbeats 1000000
namespace DL
open PySem PySem.Spec PyProof.Rows L2
/-- only new things -/
def New (H H' : Hp) : Prop := ∀ a o, H a = some o → H' a = some o
theorem New.refl {H : Hp} : New H H := fun _ _ h => h
theorem New.trans {H H1 H2 : Hp} (a : New H H1) (b : New H1 H2) : New H H2 := fun x o h => b x o (a x o h)
theorem New.upd {H H' : Hp} {p : Addr} {o : HO} (a : New H H') (h : H p = none) : New H (upd H' p o) := fun x u e => by
  rw [upd_ne (ne_of_none e h)]; exact a x u e
theorem New.upd1 {H : Hp} {p : Addr} {o : HO} (h : H p = none) : New H (L2.upd H p o) := New.refl.upd h
theorem New.none {H H' : Hp} (a : New H H') {p : Addr} (h : H' p = none) : H p = none := by
  cases e : H p with
  | none => rfl
  | some o => rw [a p o e] at h; cases h
theorem New.kf {H H' : Hp} (a : New H H') {Fz : Addr → Prop} : KF H Fz H' Fz := ⟨fun _ h => h, fun x o _ h => a x o h, fun x xs h => a x _ h, fun x h => a.none h⟩
/-- what an expression may change -/
structure Kx (g : G) (ρ ρ' : Env) (σ : L2.St) (H : Hp) (Fz : Addr → Prop) (H' : Hp) (Fz' : Addr → Prop) : Prop where
  keep : ∀ a o, H a = some o → ¬ OwnA ρ σ a → ¬ g.ex a → H' a = some o
  new : ∀ a, H' a = none → H a = none
  sub : ∀ a, Fz a → Fz' a
  fz : ∀ a o, H a = some o → Fz' a → Fz a ∨ OwnA ρ σ a
  own : ∀ a, OwnA ρ' σ a → OwnA ρ σ a
section
variable {g : G} {ρ ρ1 ρ2 : Env} {S S' : Src} {σ : L2.St} {H H1 H2 : Hp} {Fz Fz1 Fz2 : Addr → Prop}
theorem Kx.refl : Kx g ρ ρ σ H Fz H Fz := ⟨fun _ _ h _ _ => h, fun _ h => h, fun _ h => h, fun _ _ _ h => .inl h, fun _ h => h⟩
theorem Kx.trans (a : Kx g ρ ρ1 σ H Fz H1 Fz1) (b : Kx g ρ1 ρ2 σ H1 Fz1 H2 Fz2) : Kx g ρ ρ2 σ H Fz H2 Fz2 := by
  refine ⟨fun x o h n e => b.keep x o (a.keep x o h n e) (fun z => n (a.own x z)) e, fun x h => a.new x (b.new x h), fun x h => b.sub x (a.sub x h), fun x o h f => ?_, fun x h => a.own x (b.own x h)⟩
  cases e : H1 x with
  | none => rw [a.new x e] at h; cases h
  | some u =>
    rcases b.fz x u e f with z | z
    · exact a.fz x o h z
    · exact .inr (a.own x z)
theorem Kx.ofNew (h : New H H1) : Kx g ρ ρ σ H Fz H1 Fz := ⟨fun x o e _ _ => h x o e, fun x e => h.none e, fun _ h => h, fun _ _ _ h => .inl h, fun _ h => h⟩
theorem SI.nown (I : SI g ρ S σ H Fz) {a : Addr} (f : Fz a) : ¬ OwnA ρ σ a := fun ⟨i, d, h1, h2⟩ => by
  obtain ⟨b, e, _, nf, _⟩ := I.ow i d h1
  rw [h2] at e
  cases e
  exact nf f
theorem SI.town (I : SI g ρ S σ H Fz) {a : Addr} {xs : List V} (f : H a = some (.tup xs)) : ¬ OwnA ρ σ a := fun ⟨i, d, h1, h2⟩ => by
  obtain ⟨b, e, c, _⟩ := I.ow i d h1
  rw [h2] at e
  cases e
  exact c.nt f
theorem SI.exk (I : SI g ρ S σ H Fz) {a : Addr} (h : g.ex a) : (∃ k, H a = some (.dK k)) ∨ (∃ k, H a = some (.lst k)) ∨ ∃ k, H a = some (.tbl k) := by
  rcases h with rfl | rfl | h
  · exact .inl ⟨_, I.src.hd⟩
  · exact .inr (.inl ⟨_, I.src.hc⟩)
  · obtain ⟨ps, e, _⟩ := I.tab a h
    exact .inr (.inr ⟨_, e⟩)
theorem SI.tex (I : SI g ρ S σ H Fz) {a : Addr} {xs : List V} (f : H a = some (.tup xs)) : ¬ g.ex a := fun h => by
  rcases I.exk h with ⟨k, e⟩ | ⟨k, e⟩ | ⟨k, e⟩ <;> (rw [f] at e; cases e)
theorem SI.nex (I : SI g ρ S σ H Fz) {a : Addr} (f : H a = none) : ¬ g.ex a := fun h => by
  rcases I.exk h with ⟨k, e⟩ | ⟨k, e⟩ | ⟨k, e⟩ <;> (rw [f] at e; cases e)
theorem SI.nO (I : SI g ρ S σ H Fz) {a : Addr} (f : H a = none) : ¬ OwnA ρ σ a := fun ⟨i, d, h1, h2⟩ => by
  obtain ⟨b, e, c, _⟩ := I.ow i d h1
  rw [h2] at e
  cases e
  exact c.trk f
theorem SI.nF (I : SI g ρ S σ H Fz) {a : Addr} (f : H a = none) : ¬ Fz a := fun h => I.fzt a h f
theorem SI.n0 (I : SI g ρ S σ H Fz) {a : Addr} (f : H a = none) : g.H0 a = none := by
  cases e : g.H0 a with
  | none => rfl
  | some o => rw [I.ext a o e (I.nex f)] at f; cases f
theorem Kx.kf (k : Kx g ρ ρ1 σ H Fz H1 Fz1) (I : SI g ρ S σ H Fz) : KF H Fz H1 Fz1 :=
  ⟨k.sub, fun a o f h => k.keep a o h (I.nown f) (I.fzx a f), fun a xs h => k.keep a _ h (I.town h) (I.tex h), k.new⟩
/-- the heap grows -/
theorem SI.grow (I : SI g ρ S σ H Fz) (n : New H H1) : SI g ρ S σ H1 Fz where
  len := I.len
  sh := fun i d h => let ⟨v, e, a⟩ := I.sh i d h; ⟨v, e, a.kf n.kf⟩
  ow := fun i d h => let ⟨a, e, c, r⟩ := I.ow i d h; ⟨a, e, c.kf n.kf (n a), r⟩
  dis := I.dis
  src := ⟨n _ _ I.src.hd, n _ _ I.src.hc, I.src.l0, I.src.m0, I.src.t0, I.src.c0, I.src.len⟩
  fzx := I.fzx
  fzt := fun a h z => I.fzt a h (n.none z)
  ext := fun a o h e => n a o (I.ext a o h e)
  fz0 := I.fz0
  fzn := I.fzn
  tab := fun t h => let ⟨ps, e, r⟩ := I.tab t h; ⟨ps, n t _ e, r⟩
/-- fz and one more -/
def Fzp (Fz : Addr → Prop) (p : Addr) : Addr → Prop := fun a => Fz a ∨ a = p
theorem kf_fzp {p : Addr} : KF H Fz H (Fzp Fz p) := ⟨fun _ h => .inl h, fun _ _ _ h => h, fun _ _ h => h, fun _ h => h⟩
/-- an object that is nobody's own is frozen -/
theorem SI.freeze (I : SI g ρ S σ H Fz) {p : Addr} (t : H p ≠ none) (o : ¬ OwnA ρ σ p) (e : ¬ g.ex p) (n : g.H0 p = none) : SI g ρ S σ H (Fzp Fz p) where
  len := I.len
  sh := fun i d h => let ⟨v, e, a⟩ := I.sh i d h; ⟨v, e, a.kf kf_fzp⟩
  ow := fun i d h => let ⟨a, e, c, nf, r⟩ := I.ow i d h; ⟨a, e, c.kf kf_fzp (fun _ h => h), fun z => z.elim nf (fun z => o ⟨i, d, h, by rw [← z]; exact e⟩), r⟩
  dis := I.dis
  src := I.src
  fzx := fun a h => h.elim (I.fzx a) (fun z => by rw [z]; exact e)
  fzt := fun a h => h.elim (I.fzt a) (fun z => by rw [z]; exact t)
  ext := I.ext
  fz0 := fun a h => .inl (I.fz0 a h)
  fzn := fun a o h f => f.elim (I.fzn a o h) (fun z => by rw [z, n] at h; cases h)
  tab := I.tab
/-- a slot's own object is given away -/
theorem get_set {α : Type} {l : List α} {i j : Nat} {x y : α} (h : (l.set i x)[j]? = some y) : (i = j ∧ x = y ∧ i < l.length) ∨ (i ≠ j ∧ l[j]? = some y) := by
  rw [List.getElem?_set] at h
  by_cases e : i = j
  · rw [if_pos e] at h
    by_cases l1 : i < l.length
    · rw [if_pos l1] at h; exact .inl ⟨e, Option.some.inj h, l1⟩
    · rw [if_neg l1] at h; cases h
  · rw [if_neg e] at h; exact .inr ⟨e, h⟩
theorem set_same {α : Type} {l : List α} {i : Nat} {x : α} (h : i < l.length) : (l.set i x)[i]? = some x := by
  rw [List.getElem?_set, if_pos rfl, if_pos h]
theorem set_diff {α : Type} {l : List α} {i j : Nat} {x : α} (h : i ≠ j) : (l.set i x)[j]? = l[j]? := by
  rw [List.getElem?_set, if_neg h]
theorem lt_of_get {α : Type} {l : List α} {i : Nat} {x : α} (h : l[i]? = some x) : i < l.length := (List.getElem?_eq_some_iff.mp h).1
theorem SI.give (I : SI g ρ S σ H Fz) {i : Nat} {d : D} {p : Addr} (h : ρ[i]? = some (some (DV.ow d))) (hs : σ[i]? = some (some (V.ref p))) : SI g (ρ.set i (some (.sh d))) S σ H (Fzp Fz p) := by
  obtain ⟨a, ea, ca, nfa, nxa, n0a⟩ := I.ow i d h
  rw [hs] at ea
  cases ea
  have lt : i < ρ.length := lt_of_get h
  refine ⟨by rw [List.length_set]; exact I.len, fun j e hj => ?_, fun j e hj => ?_, fun j k d1 e1 a hj hk => ?_, I.src, fun a z => z.elim (I.fzx a) (fun z => by rw [z]; exact nxa), fun a z => z.elim (I.fzt a) (fun z => by rw [z]; exact ca.trk), I.ext, fun a z => .inl (I.fz0 a z),
    fun a o hh f => f.elim (I.fzn a o hh) (fun z => by rw [z, n0a] at hh; cases hh), I.tab⟩
  · rcases get_set hj with ⟨rfl, e1, _⟩ | ⟨_, e1⟩
    · cases e1
      exact ⟨_, hs, (ca.kf kf_fzp (fun _ h => h)).at (.inr rfl)⟩
    · obtain ⟨v, ev, av⟩ := I.sh j e e1
      exact ⟨v, ev, av.kf kf_fzp⟩
  · rcases get_set hj with ⟨rfl, e1, _⟩ | ⟨ne, e1⟩
    · cases e1
    · obtain ⟨b, eb, cb, nf, r⟩ := I.ow j e e1
      exact ⟨b, eb, cb.kf kf_fzp (fun _ h => h), fun z => z.elim nf (fun z => ne (I.dis i j d e p h e1 hs (by rw [← z]; exact eb))), r⟩
  · rcases get_set hj with ⟨_, q1, _⟩ | ⟨_, q1⟩
    · cases q1
    · rcases get_set hk with ⟨_, q2, _⟩ | ⟨_, q2⟩
      · cases q2
      · exact I.dis j k d1 e1 a q1 q2
theorem Kx.give (I : SI g ρ S σ H Fz) {i : Nat} {d : D} {p : Addr} (h : ρ[i]? = some (some (DV.ow d))) (hs : σ[i]? = some (some (V.ref p))) : Kx g ρ (ρ.set i (some (.sh d))) σ H Fz H (Fzp Fz p) := by
  refine ⟨fun _ _ h _ _ => h, fun _ h => h, fun _ h => .inl h, fun a o _ f => f.elim .inl (fun z => .inr ⟨i, d, h, by rw [z]; exact hs⟩), fun a ⟨j, e, hj, hr⟩ => ?_⟩
  rcases get_set hj with ⟨_, e1, _⟩ | ⟨_, e1⟩
  · cases e1
  · exact ⟨j, e, e1, hr⟩
end
/-! ### what comes -/
/-- a value in hand: a datum, or a new object of one's own (new since Hs) -/
def VAt (g : G) (ρ : Env) (σ : L2.St) (Hs H : Hp) (Fz : Addr → Prop) (v : V) : DV → Prop
  | .sh d => At g.K g.sd H Fz v d
  | .ow d => ∃ p, v = .ref p ∧ OwnC g.K g.sd H Fz p d ∧ ¬ Fz p ∧ ¬ OwnA ρ σ p ∧ ¬ g.ex p ∧ Hs p = none
/-- an operand: a datum, or what stands in a slot when it is used -/
inductive Opd where
  | val (d : D)
  | slot (i : Nat)
def VO (g : G) (σ : L2.St) (H : Hp) (Fz : Addr → Prop) (v : V) : Opd → Prop
  | .val d => At g.K g.sd H Fz v d
  | .slot i => σ[i]? = some (some v)
/-- what is wanted of an exception -/
def XE (g : G) (H : Hp) (Fz : Addr → Prop) : Po D := fun e ρ' S' => g.rz = true ∧ ∀ σ' H' Fz', SI g ρ' S' σ' H' Fz' → KF H Fz H' Fz' → g.W e H' Fz'
theorem XE.mono {g : G} {H H1 : Hp} {Fz Fz1 : Addr → Prop} (k : KF H Fz H1 Fz1) {e : D} {ρ : Env} {S : Src} (h : XE g H Fz e ρ S) : XE g H1 Fz1 e ρ S := ⟨h.1, fun σ' H' Fz' I k' => h.2 σ' H' Fz' I (k.trans k')⟩
/-- the reading that a run over data gives -/
def tOf (g : G) (m : M DV) : TE := fun σ H Q => ∃ ρ S Fz, SI g ρ S σ H Fz ∧ wp m ρ S (fun r ρ' S' => ∀ v H' Fz', SI g ρ' S' σ H' Fz' → Kx g ρ ρ' σ H Fz H' Fz' → VAt g ρ' σ H H' Fz' v r → Q v H') (XE g H Fz)
def tOfO (g : G) (m : M Opd) : TE := fun σ H Q => ∃ ρ S Fz, SI g ρ S σ H Fz ∧ wp m ρ S (fun r ρ' S' => ∀ v H' Fz', SI g ρ' S' σ H' Fz' → Kx g ρ ρ' σ H Fz H' Fz' → VO g σ H' Fz' v r → Q v H') (XE g H Fz)
def tOfT (g : G) (m : M Bool) : TT := fun σ H Q => ∃ ρ S Fz, SI g ρ S σ H Fz ∧ wp m ρ S (fun r ρ' S' => ∀ H' Fz', SI g ρ' S' σ H' Fz' → Kx g ρ ρ' σ H Fz H' Fz' → Q r H') (XE g H Fz)
inductive VOs (g : G) (σ : L2.St) (H : Hp) (Fz : Addr → Prop) : List V → List Opd → Prop
  | nil : VOs g σ H Fz [] []
  | cons {v : V} {vs : List V} {o : Opd} {os : List Opd} : VO g σ H Fz v o → VOs g σ H Fz vs os → VOs g σ H Fz (v :: vs) (o :: os)
def tOfA (g : G) (m : M (List Opd)) : TA := fun σ H Q => ∃ ρ S Fz, SI g ρ S σ H Fz ∧ wp m ρ S (fun r ρ' S' => ∀ vs H' Fz', SI g ρ' S' σ H' Fz' → Kx g ρ ρ' σ H Fz H' Fz' → VOs g σ H' Fz' vs r → Q vs H') (XE g H Fz)
inductive Fl where
  | nx | bk | ct
  | ret (r : DV)
def SK (g : G) (D : Ends) (H : Hp) (Fz : Addr → Prop) : Po Fl := fun f ρ' S' => match f with
  | .nx => ∀ σ' H' Fz', SI g ρ' S' σ' H' Fz' → KF H Fz H' Fz' → D.nx σ' H'
  | .bk => ∀ σ' H' Fz', SI g ρ' S' σ' H' Fz' → KF H Fz H' Fz' → D.bk σ' H'
  | .ct => ∀ σ' H' Fz', SI g ρ' S' σ' H' Fz' → KF H Fz H' Fz' → D.ct σ' H'
  | .ret r => ∀ v σ' H' Fz', SI g ρ' S' σ' H' Fz' → KF H Fz H' Fz' → VAt g ρ' σ' g.H0 H' Fz' v r → D.rt v H'
def tOfS (g : G) (m : M Fl) : TS := fun D σ H => ∃ ρ S Fz, SI g ρ S σ H Fz ∧ wp m ρ S (SK g D H Fz) (XE g H Fz)
/-- the judgements -/
def DE (X : Cx) (g : G) (e : Expr) (m : M DV) : Prop := PE X e (tOf g m)
def DO (X : Cx) (g : G) (e : Expr) (m : M Opd) : Prop := PE X e (tOfO g m)
def DT (X : Cx) (g : G) (e : Expr) (m : M Bool) : Prop := PT X e (tOfT g m)
def DA (X : Cx) (g : G) (es : List Expr) (m : M (List Opd)) : Prop := PA X es (tOfA g m)
def DS (X : Cx) (g : G) (s : Stmt) (m : M Fl) : Prop := PS X s (tOfS g m)
def DSs (X : Cx) (g : G) (s : List Stmt) (m : M Fl) : Prop := PSs X s (tOfS g m)
/-! weaker readings -/
theorem PE.imp {X : Cx} {e : Expr} {t t' : TE} (h : PE X e t) (i : ∀ σ H Q, t' σ H Q → t σ H Q) : PE X e t' := ⟨fun pins s σ H Q I q => h.run pins s σ H Q I (i _ _ _ q)⟩
theorem PT.imp {X : Cx} {e : Expr} {t t' : TT} (h : PT X e t) (i : ∀ σ H Q, t' σ H Q → t σ H Q) : PT X e t' := ⟨fun pins s σ H Q I q => h.run pins s σ H Q I (i _ _ _ q)⟩
theorem PA.imp {X : Cx} {e : List Expr} {t t' : TA} (h : PA X e t) (i : ∀ σ H Q, t' σ H Q → t σ H Q) : PA X e t' := ⟨fun pos pins s σ H Q I q => h.run pos pins s σ H Q I (i _ _ _ q)⟩
theorem PS.imp {X : Cx} {e : Stmt} {t t' : TS} (h : PS X e t) (i : ∀ D σ H, t' D σ H → t D σ H) : PS X e t' := ⟨fun pins s σ H D I q => h.run pins s σ H D I (i _ _ _ q)⟩
theorem PSs.imp {X : Cx} {e : List Stmt} {t t' : TS} (h : PSs X e t) (i : ∀ D σ H, t' D σ H → t D σ H) : PSs X e t' := ⟨fun pins s σ H D I q => h.run pins s σ H D I (i _ _ _ q)⟩
theorem VO.kx {g : G} {ρ ρ' : Env} {S : Src} {σ : L2.St} {H H' : Hp} {Fz Fz' : Addr → Prop} (I : SI g ρ S σ H Fz) (k : Kx g ρ ρ' σ H Fz H' Fz') {v : V} : ∀ {o : Opd}, VO g σ H Fz v o → VO g σ H' Fz' v o
  | .val _, h => At.kf (k.kf I) h
  | .slot _, h => h
theorem VOs.kx {g : G} {ρ ρ' : Env} {S : Src} {σ : L2.St} {H H' : Hp} {Fz Fz' : Addr → Prop} (I : SI g ρ S σ H Fz) (k : Kx g ρ ρ' σ H Fz H' Fz') : ∀ {vs : List V} {os : List Opd}, VOs g σ H Fz vs os → VOs g σ H' Fz' vs os
  | _, _, .nil => .nil
  | _, _, .cons a l => .cons (a.kx I k) (VOs.kx I k l)
/-- what an operand is worth when it is used -/
def res (o : Opd) : M D := fun ρ S => match o with
  | .val d => some (.ok d ρ S)
  | .slot i => match ρ[i]? with
    | some (some dv) => some (.ok dv.d ρ S)
    | _ => none
/-- .. to be read -/
def Cont (g : G) (H : Hp) (Fz : Addr → Prop) (v : V) (d : D) : Prop := At g.K g.sd H Fz v d ∨ ∃ p, v = .ref p ∧ OwnC g.K g.sd H Fz p d
theorem wp_res {g : G} {ρ : Env} {S : Src} {σ : L2.St} {H : Hp} {Fz : Addr → Prop} (I : SI g ρ S σ H Fz) {o : Opd} {v : V} (h : VO g σ H Fz v o) {Q : Po D} {E : Po D} (q : wp (res o) ρ S Q E) : ∃ d, Cont g H Fz v d ∧ Q d ρ S := by
  cases o with
  | val d => exact ⟨d, .inl h, q⟩
  | slot i =>
    cases e : ρ[i]? with
    | none => simp only [wp, res, e] at q
    | some x =>
      cases x with
      | none => simp only [wp, res, e] at q
      | some dv =>
        simp only [wp, res, e] at q
        cases dv with
        | sh d =>
          obtain ⟨w, ew, aw⟩ := I.sh i d e
          have : w = v := by
            have := ew.symm.trans h
            cases this; rfl
          subst this
          exact ⟨d, .inl aw, q⟩
        | ow d =>
          obtain ⟨w, ew, aw, _⟩ := I.ow i d e
          have : V.ref w = v := by
            have := ew.symm.trans h
            cases this; rfl
          subst this
          exact ⟨d, .inr ⟨w, rfl, aw⟩, q⟩
end DL
set_option Elab.async false
set_option linter.all false
set_option maxRecDepth 100000
set_option maxHeartbeats 1000000
namespace DL
open PySem PySem.Spec PyProof.Rows L2
/-- what an operation gives: a datum, or a new object -/
def RV (g : G) (H H' : Hp) (Fz : Addr → Prop) (v : V) : DV → Prop
  | .sh d => At g.K g.sd H' Fz v d
  | .ow d => ∃ p, v = .ref p ∧ OwnC g.K g.sd H' Fz p d ∧ H p = none
section
variable {X : Cx} {g : G} {ρ ρ1 ρ2 : Env} {S S1 S2 : Src} {σ : L2.St} {H H1 H2 H' : Hp} {Fz Fz1 Fz2 : Addr → Prop} {Q : VK}
/-- a run's end, behind an operation that makes new things alone -/
theorem fin_new {r : DV} {v : V} (I2 : SI g ρ2 S2 σ H2 Fz2) (k : Kx g ρ ρ2 σ H Fz H2 Fz2) (post : ∀ v H' Fz', SI g ρ2 S2 σ H' Fz' → Kx g ρ ρ2 σ H Fz H' Fz' → VAt g ρ2 σ H H' Fz' v r → Q v H') (n : New H2 H') (rv : RV g H2 H' Fz2 v r) : Q v H' := by
  refine post v H' Fz2 (I2.grow n) (k.trans (Kx.ofNew n)) ?_
  cases r with
  | sh d => exact rv
  | ow d =>
    obtain ⟨p, e, c, hn⟩ := rv
    exact ⟨p, e, c, I2.nF hn, I2.nO hn, I2.nex hn, k.new p hn⟩
/-- a value in hand is shared -/
theorem share {r : DV} {v : V} (I : SI g ρ S σ H Fz) {Hs : Hp} {Fs : Addr → Prop} {ρs : Env} (k : Kx g ρs ρ σ Hs Fs H Fz) (a : VAt g ρ σ Hs H Fz v r) (n0 : ∀ p, Hs p = none → g.H0 p = none) : ∃ Fz', SI g ρ S σ H Fz' ∧ Kx g ρs ρ σ Hs Fs H Fz' ∧ At g.K g.sd H Fz' v r.d := by
  cases r with
  | sh d => exact ⟨Fz, I, k, a⟩
  | ow d =>
    obtain ⟨p, rfl, c, nf, no, nx, hn⟩ := a
    refine ⟨Fzp Fz p, I.freeze c.trk no nx (n0 p hn), ?_, (c.kf kf_fzp (fun _ h => h)).at (.inr rfl)⟩
    exact ⟨k.keep, k.new, fun a h => .inl (k.sub a h), fun a o h f => f.elim (k.fz a o h) (fun z => by rw [z, hn] at h; cases h), k.own⟩
/-- an expression's value as an operand -/
def opd (m : M DV) : M Opd := m >>= fun r => pure (.val r.d)
theorem do_of {e : Expr} {m : M DV} (h : DE X g e m) : DO X g e (opd m) := PE.imp h fun σ H Q ⟨ρ, S, Fz, I, hw⟩ => by
  unfold opd at hw
  rw [wp_bind] at hw
  refine ⟨ρ, S, Fz, I, wp_mono hw (fun r ρ1 S1 q v H1 Fz1 I1 k1 a1 => ?_) fun _ _ _ z => z⟩
  obtain ⟨F2, I2, k2, a2⟩ := share I1 k1 a1 (fun p z => I.n0 z)
  exact q v H1 F2 I2 k2 a2
/-! ### names and constants -/
def mVar (i : Nat) : M DV := fun ρ S => match ρ[i]? with
  | some (some (.sh d)) => some (.ok (.sh d) ρ S)
  | some (some (.ow d)) => some (.ok (.sh d) (ρ.set i (some (.sh d))) S)
  | _ => none
def mSlot (i : Nat) : M Opd := fun ρ S => match ρ[i]? with
  | some (some _) => some (.ok (.slot i) ρ S)
  | _ => none
theorem de_name (i : Nat) {x : Str} {pos : Pos} (hN : X.N[i]? = some x := by rfl) (hv : Vis X.env.scope x := by first | exact Or.inl rfl | exact Or.inr (Or.inl rfl) | exact Or.inr (Or.inr rfl)) (hd : (x == ("__debug__" : Str)) = false := by decide)
    (hcd : (x == ("__classdict__" : Str)) = false := by decide) : DE X g (.Name x pos) (mVar i) := PE.imp (pe_var hN hv hd hcd) fun σ H Q ⟨ρ, S, Fz, I, hw⟩ => by
  cases e : ρ[i]? with
  | none => simp only [wp, mVar, e] at hw
  | some y =>
    cases y with
    | none => simp only [wp, mVar, e] at hw
    | some dv =>
      cases dv with
      | sh d =>
        simp only [wp, mVar, e] at hw
        obtain ⟨v, ev, av⟩ := I.sh i d e
        exact ⟨v, ev, hw v H Fz I Kx.refl av⟩
      | ow d =>
        simp only [wp, mVar, e] at hw
        obtain ⟨a, ea, ca, _⟩ := I.ow i d e
        exact ⟨.ref a, ea, hw _ H _ (I.give e ea) (Kx.give I e ea) ((ca.kf kf_fzp (fun _ h => h)).at (.inr rfl))⟩
theorem do_name (i : Nat) {x : Str} {pos : Pos} (hN : X.N[i]? = some x := by rfl) (hv : Vis X.env.scope x := by first | exact Or.inl rfl | exact Or.inr (Or.inl rfl) | exact Or.inr (Or.inr rfl)) (hd : (x == ("__debug__" : Str)) = false := by decide)
    (hcd : (x == ("__classdict__" : Str)) = false := by decide) : DO X g (.Name x pos) (mSlot i) := PE.imp (pe_var hN hv hd hcd) fun σ H Q ⟨ρ, S, Fz, I, hw⟩ => by
  cases e : ρ[i]? with
  | none => simp only [wp, mSlot, e] at hw
  | some y =>
    cases y with
    | none => simp only [wp, mSlot, e] at hw
    | some dv =>
      simp only [wp, mSlot, e] at hw
      cases dv with
      | sh d =>
        obtain ⟨v, ev, av⟩ := I.sh i d e
        exact ⟨v, ev, hw v H Fz I Kx.refl ev⟩
      | ow d =>
        obtain ⟨a, ea, ca, _⟩ := I.ow i d e
        exact ⟨.ref a, ea, hw _ H _ I Kx.refl ea⟩
def mC (d : D) : M DV := pure (.sh d)
theorem de_const {e : Expr} {v : V} {d : D} (h : PE X e (tC v)) (a : ∀ H Fz, At g.K g.sd H Fz v d) : DE X g e (mC d) := PE.imp h fun σ H Q ⟨ρ, S, Fz, I, hw⟩ => hw v H Fz I Kx.refl (a H Fz)
theorem de_int {i : Int} {j pos} : DE X g (.Constant (.int i) j pos) (mC (.int i)) := de_const pe_int fun _ _ => .int i
theorem de_bl {b : Bool} {j pos} : DE X g (.Constant (.bool b) j pos) (mC (.bl b)) := de_const pe_bl fun _ _ => .bl b
theorem de_non {j pos} : DE X g (.Constant .none j pos) (mC .non) := de_const pe_non fun _ _ => .non
theorem de_str {x : Str} {j pos} (h : SOk x := by decide +kernel) : DE X g (.Constant (.str x) j pos) (mC (.str x)) := de_const pe_str fun _ _ => .str x h
/-- a constant of the module -/
theorem de_glob {x : Str} {v : V} {u : Value} {d : D} {pos : Pos} (hg : Gl X x) (hm : X.mg x = some u) (r : RelV v u) (a : ∀ H Fz, At g.K g.sd H Fz v d) (hd : (x == ("__debug__" : Str)) = false := by decide) : DE X g (.Name x pos) (mC d) := de_const (pe_glob hg hm r hd) a
/-! ### argument lists -/
def aNil : M (List Opd) := pure []
def aCons (m : M Opd) (ms : M (List Opd)) : M (List Opd) := m >>= fun o => ms >>= fun os => pure (o :: os)
theorem da_nil : DA X g [] aNil := PA.imp pa_nil fun σ H Q ⟨ρ, S, Fz, I, hw⟩ => hw [] H Fz I Kx.refl .nil
theorem da_cons {e : Expr} {es : List Expr} {m : M Opd} {ms : M (List Opd)} (h : DO X g e m) (hs : DA X g es ms) (hq : starEach (e :: es) X.env = (false, eval e X.env) :: starEach es X.env := by rfl) : DA X g (e :: es) (aCons m ms) :=
  PA.imp (pa_cons h hs hq) fun σ H Q ⟨ρ, S, Fz, I, hw⟩ => by
    unfold aCons at hw
    rw [wp_bind] at hw
    refine ⟨ρ, S, Fz, I, wp_mono hw (fun o ρ1 S1 h1 v1 H1 Fz1 I1 k1 a1 => ?_) fun _ _ _ z => z⟩
    rw [wp_bind] at h1
    refine ⟨ρ1, S1, Fz1, I1, wp_mono h1 (fun os ρ2 S2 h2 vs H2 Fz2 I2 k2 a2 => ?_) fun _ _ _ z => z.mono (k1.kf I)⟩
    exact h2 (v1 :: vs) H2 Fz2 I2 (k1.trans k2) (.cons (a1.kx I1 k2) a2)
/-! ### operations -/
/-- an operation by its operator's rule: op tells what it gives -/
def Op2 (X : Cx) (g : G) (r : R2) (op : D → D → Option DV) : Prop := ∀ (H : Hp) (Fz : Addr → Prop) (x y : V) (dx dy : D) (dv : DV) (Q : VK), Cont g H Fz x dx → Cont g H Fz y dy → op dx dy = some dv → (∀ v H', New H H' → RV g H H' Fz v dv → Q v H') → r x y H Q
def mOp (op : D → D → Option DV) (ma mb : M Opd) : M DV := ma >>= fun a => mb >>= fun b => res a >>= fun x => res b >>= fun y => M.of (op x y)
theorem op_run {op : D → D → Option DV} {ma mb : M Opd} {r : R2} (ho : Op2 X g r op) : tOf g (mOp op ma mb) σ H Q → tOp r (tOfO g ma) (tOfO g mb) σ H Q := fun ⟨ρ, S, Fz, I, hw⟩ => by
  unfold mOp at hw
  rw [wp_bind] at hw
  refine ⟨ρ, S, Fz, I, wp_mono hw (fun o1 ρ1 S1 h1 v1 H1 Fz1 I1 k1 a1 => ?_) fun _ _ _ z => z⟩
  rw [wp_bind] at h1
  refine ⟨ρ1, S1, Fz1, I1, wp_mono h1 (fun o2 ρ2 S2 h2 v2 H2 Fz2 I2 k2 a2 => ?_) fun _ _ _ z => z.mono (k1.kf I)⟩
  rw [wp_bind] at h2
  obtain ⟨dx, cx, h2⟩ := wp_res I2 (a1.kx I1 k2) h2
  rw [wp_bind] at h2
  obtain ⟨dy, cy, h2⟩ := wp_res I2 a2 h2
  obtain ⟨dv, e, h2⟩ := wp_of.mp h2
  exact ho H2 Fz2 v1 v2 dx dy dv Q cx cy e fun v H' n rv => fin_new I2 (k1.trans k2) h2 n rv
theorem de_op {a b : Expr} {pos : Pos} {o : Operator} {op : D → D → Option DV} {ma mb : M Opd} {r : R2} (hr : OpR X (binaryOp o) r) (ho : Op2 X g r op) (ha : DO X g a ma) (hb : DO X g b mb) : DE X g (.BinOp a o b pos) (mOp op ma mb) :=
  PE.imp (pe_op hr ha hb) fun σ H Q h => op_run ho h
theorem de_cmp {a b : Expr} {pos : Pos} {o : CmpOp} {op : D → D → Option DV} {ma mb : M Opd} {r : R2} (hr : OpR X (compareOp o) r) (ho : Op2 X g r op) (ha : DO X g a ma) (hb : DO X g b mb) (hm : behindInMarks o b = false := by first | exact nomark _ | rfl) : DE X g (.Compare a [o] [b] pos) (mOp op ma mb) :=
  PE.imp (pe_cmpR hr ha hb hm) fun σ H Q h => op_run ho h
/-- a bool -/
def asB : DV → Option Bool
  | .sh (.bl b) => some b
  | _ => none
def mB (m : M DV) : M Bool := m >>= fun r => M.of (asB r)
theorem at_bl {K : PySem.W.Frag} {sd : Addr} {H : Hp} {Fz : Addr → Prop} {v : V} {b : Bool} (h : At K sd H Fz v (.bl b)) : v = .bl b := by cases h; rfl
theorem b_run {m : M DV} {QB : Bool → Hp → Prop} : tOfT g (mB m) σ H QB → tOf g m σ H (fun x H' => ∃ k, x = .bl k ∧ QB k H') := fun ⟨ρ, S, Fz, I, hw⟩ => by
  unfold mB at hw
  rw [wp_bind] at hw
  refine ⟨ρ, S, Fz, I, wp_mono hw (fun r ρ1 S1 h1 v1 H1 Fz1 I1 k1 a1 => ?_) fun _ _ _ z => z⟩
  obtain ⟨b, e, q⟩ := wp_of.mp h1
  cases r with
  | ow d => cases e
  | sh d =>
    cases d <;> cases e
    exact ⟨b, at_bl a1, q H1 Fz1 I1 k1⟩
theorem dt_cmp {a b : Expr} {pos : Pos} {o : CmpOp} {op : D → D → Option DV} {ma mb : M Opd} {r : R2} (hr : OpR X (compareOp o) r) (ho : Op2 X g r op) (ha : DO X g a ma) (hb : DO X g b mb) (hm : behindInMarks o b = false := by first | exact nomark _ | rfl) : DT X g (.Compare a [o] [b] pos) (mB (mOp op ma mb)) :=
  PT.imp (pt_cmpR hr ha hb hm) fun σ H Q h => op_run ho (b_run h)
/-! ### truth -/
def truD : D → Option Bool
  | .non => some false
  | .bl b => some b
  | .int i => some (i != 0)
  | .str s => some ((s.length : Int) != 0)
  | .tup xs => some (!xs.isEmpty)
  | .lst xs => some (!xs.isEmpty)
  | .dic xs => some (!xs.isEmpty)
  | .src => none
def mTru (m : M Opd) : M Bool := m >>= fun o => res o >>= fun d => M.of (truD d)
theorem atL_empty {K : PySem.W.Frag} {sd : Addr} {vs : List V} {ds : List D} (h : AtL K sd H Fz vs ds) : (!vs.isEmpty) = !ds.isEmpty := by cases h <;> rfl
theorem atK_empty {K : PySem.W.Frag} {sd : Addr} {vs : List (Key × V)} {ds : List (Key × D)} (h : AtK K sd H Fz vs ds) : (!vs.isEmpty) = !ds.isEmpty := by cases h <;> rfl
theorem tru_of {v : V} {d : D} {k : Bool} (c : Cont g H Fz v d) (h : truD d = some k) : TruV g.K v H k := by
  rcases c with a | ⟨p, rfl, o⟩
  · cases a with
    | non => exact (Option.some.inj h).symm
    | bl b => exact (Option.some.inj h).symm
    | int b => exact (Option.some.inj h).symm
    | str b hb => exact ⟨hb.1, (Option.some.inj h).symm⟩
    | tup e l => exact .inr (.inl ⟨_, SqT.of e, by rw [atL_empty l]; exact (Option.some.inj h).symm⟩)
    | tupK e l => exact .inr (.inl ⟨_, e H, by rw [atL_empty l]; exact (Option.some.inj h).symm⟩)
    | lst e _ l => exact .inl ⟨_, SqL.of e, by rw [atL_empty l]; exact (Option.some.inj h).symm⟩
    | dic e _ l => exact .inr (.inr ⟨_, e, by rw [atK_empty l]; exact (Option.some.inj h).symm⟩)
    | src => cases h
  · cases o with
    | lst e l => exact .inl ⟨_, SqL.of e, by rw [atL_empty l]; exact (Option.some.inj h).symm⟩
    | dic e l => exact .inr (.inr ⟨_, e, by rw [atK_empty l]; exact (Option.some.inj h).symm⟩)
theorem tru_run {m : M Opd} {QB : Bool → Hp → Prop} (hK : X.K = g.K) : tOfT g (mTru m) σ H QB → tOfO g m σ H (fun x H' => ∃ k, TruV X.K x H' k ∧ QB k H') := fun ⟨ρ, S, Fz, I, hw⟩ => by
  unfold mTru at hw
  rw [wp_bind] at hw
  refine ⟨ρ, S, Fz, I, wp_mono hw (fun r ρ1 S1 h1 v1 H1 Fz1 I1 k1 a1 => ?_) fun _ _ _ z => z⟩
  rw [wp_bind] at h1
  obtain ⟨d, c, h1⟩ := wp_res I1 a1 h1
  obtain ⟨b, e, q⟩ := wp_of.mp h1
  rw [hK]
  exact ⟨b, tru_of c e, q H1 Fz1 I1 k1⟩
theorem dt_val {a : Expr} {m : M Opd} (hK : X.K = g.K) (h : DO X g a m) (he : ∀ whole, isTrue a X.env whole = (do let v ← whole; standAt a.pos; holding [v] (truthy v)) := by intro _; rfl) : DT X g a (mTru m) :=
  PT.imp (pt_truth h he) fun σ H Q h => tru_run hK h
/-! ### and, or, not, if -/
def DW (X : Cx) (g : G) (e : Expr) (m : M Bool) : Prop := PW X e (tOfT g m)
theorem PW.imp {X : Cx} {e : Expr} {t t' : TT} (h : PW X e t) (i : ∀ σ H Q, t' σ H Q → t σ H Q) : PW X e t' := ⟨fun whole pins s σ H Q I q => h.run whole pins s σ H Q I (i _ _ _ q)⟩
def mAnd (a b : M Bool) : M Bool := a >>= fun k => if k = true then b else pure false
def mOr (a b : M Bool) : M Bool := a >>= fun k => if k = true then pure true else b
def mNot (a : M Bool) : M Bool := a >>= fun k => pure (!k)
theorem dw_and1 {a : Expr} {pos : Pos} {m : M Bool} (h : DT X g a m) : DW X g (.BoolOp .And [a] pos) m := pw_and1 h
theorem dw_or1 {a : Expr} {pos : Pos} {m : M Bool} (h : DT X g a m) : DW X g (.BoolOp .Or [a] pos) m := pw_or1 h
theorem dw_and {a b : Expr} {rest : List Expr} {pos : Pos} {ma mb : M Bool} (ha : DT X g a ma) (hb : DW X g (.BoolOp .And (b :: rest) pos) mb) : DW X g (.BoolOp .And (a :: b :: rest) pos) (mAnd ma mb) :=
  PW.imp (pw_and ha hb) fun σ H Q ⟨ρ, S, Fz, I, hw⟩ => by
    unfold mAnd at hw
    rw [wp_bind] at hw
    refine ⟨ρ, S, Fz, I, wp_mono hw (fun k ρ1 S1 h1 H1 Fz1 I1 k1 => ?_) fun _ _ _ z => z⟩
    cases k with
    | true => exact iteT ⟨ρ1, S1, Fz1, I1, wp_mono h1 (fun b ρ2 S2 h2 H2 Fz2 I2 k2 => h2 H2 Fz2 I2 (k1.trans k2)) fun _ _ _ z => z.mono (k1.kf I)⟩
    | false => exact iteF (h1 H1 Fz1 I1 k1)
theorem dw_or {a b : Expr} {rest : List Expr} {pos : Pos} {ma mb : M Bool} (ha : DT X g a ma) (hb : DW X g (.BoolOp .Or (b :: rest) pos) mb) : DW X g (.BoolOp .Or (a :: b :: rest) pos) (mOr ma mb) :=
  PW.imp (pw_or ha hb) fun σ H Q ⟨ρ, S, Fz, I, hw⟩ => by
    unfold mOr at hw
    rw [wp_bind] at hw
    refine ⟨ρ, S, Fz, I, wp_mono hw (fun k ρ1 S1 h1 H1 Fz1 I1 k1 => ?_) fun _ _ _ z => z⟩
    cases k with
    | false => exact iteF ⟨ρ1, S1, Fz1, I1, wp_mono h1 (fun b ρ2 S2 h2 H2 Fz2 I2 k2 => h2 H2 Fz2 I2 (k1.trans k2)) fun _ _ _ z => z.mono (k1.kf I)⟩
    | true => exact iteT (h1 H1 Fz1 I1 k1)
theorem dt_bool {e : Expr} {m : M Bool} (h : DW X g e m) : DT X g e m := PW.pt h
theorem dt_not {a : Expr} {pos : Pos} {m : M Bool} (h : DT X g a m) : DT X g (.UnaryOp .Not a pos) (mNot m) := PT.imp (pt_not h) fun σ H Q ⟨ρ, S, Fz, I, hw⟩ => by
  unfold mNot at hw
  rw [wp_bind] at hw
  exact ⟨ρ, S, Fz, I, hw⟩
def mIf {α : Type} (c : M Bool) (a b : M α) : M α := c >>= fun k => if k = true then a else b
theorem wp_mIf {α : Type} {c : M Bool} {a b : M α} {Q : Po α} {E : Po D} : wp (mIf c a b) ρ S Q E = wp c ρ S (fun k ρ' S' => wp (if k = true then a else b) ρ' S' Q E) E := wp_bind
theorem de_if {c a b : Expr} {pos : Pos} {mc : M Bool} {ma mb : M DV} (hc : DT X g c mc) (ha : DE X g a ma) (hb : DE X g b mb) : DE X g (.IfExp c a b pos) (mIf mc ma mb) :=
  PE.imp (pe_ifExp hc ha hb) fun σ H Q ⟨ρ, S, Fz, I, hw⟩ => by
    rw [wp_mIf] at hw
    refine ⟨ρ, S, Fz, I, wp_mono hw (fun k ρ1 S1 h1 H1 Fz1 I1 k1 => ?_) fun _ _ _ z => z⟩
    have go : ∀ (m : M DV), wp m ρ1 S1 (fun r ρ' S' => ∀ v H' Fz', SI g ρ' S' σ H' Fz' → Kx g ρ ρ' σ H Fz H' Fz' → VAt g ρ' σ H H' Fz' v r → Q v H') (XE g H Fz) → tOf g m σ H1 Q := fun m h => by
      refine ⟨ρ1, S1, Fz1, I1, wp_mono h (fun r ρ2 S2 h2 v H2 Fz2 I2 k2 a2 => h2 v H2 Fz2 I2 (k1.trans k2) ?_) fun _ _ _ z => z.mono (k1.kf I)⟩
      cases r with
      | sh d => exact a2
      | ow d =>
        obtain ⟨p, e, c, n1, n2, n3, n4⟩ := a2
        exact ⟨p, e, c, n1, n2, n3, k1.new p n4⟩
    cases k with
    | true => exact iteT (go ma h1)
    | false => exact iteF (go mb h1)
/-- not x, x and y, x or y as values -/
def mNotV (m : M Opd) : M DV := m >>= fun o => res o >>= fun d => M.of (truD d) >>= fun k => pure (.sh (.bl (!k)))
theorem de_not {a : Expr} {pos : Pos} {m : M Opd} (hK : X.K = g.K) (h : DO X g a m) : DE X g (.UnaryOp .Not a pos) (mNotV m) := PE.imp (pe_notT h) fun σ H Q ⟨ρ, S, Fz, I, hw⟩ => by
  unfold mNotV at hw
  rw [wp_bind] at hw
  refine ⟨ρ, S, Fz, I, wp_mono hw (fun r ρ1 S1 h1 v1 H1 Fz1 I1 k1 a1 => ?_) fun _ _ _ z => z⟩
  rw [wp_bind] at h1
  obtain ⟨d, c, h1⟩ := wp_res I1 a1 h1
  rw [wp_bind] at h1
  obtain ⟨b, e, q⟩ := wp_of.mp h1
  rw [hK]
  exact ⟨b, tru_of c e, q _ H1 Fz1 I1 k1 (.bl _)⟩
/-- x or y, x and y: the value itself, shared -/
def mOrV (ma mb : M DV) : M DV := ma >>= fun r => M.of (truD r.d) >>= fun k => if k = true then pure (.sh r.d) else mb
def mAndV (ma mb : M DV) : M DV := ma >>= fun r => M.of (truD r.d) >>= fun k => if k = true then mb else pure (.sh r.d)
theorem de_one {o : BoolOp} {a : Expr} {pos : Pos} {m : M DV} (h : DE X g a m) : DE X g (.BoolOp o [a] pos) m := pe_one h
theorem bool_run {ma mb : M DV} {x : Bool} (hK : X.K = g.K) (f : Bool → DV → M DV) (hf : ∀ r, (f x r = pure (.sh r.d)) ∧ f (!x) r = mb) :
    tOf g (ma >>= fun r => M.of (truD r.d) >>= fun k => f k r) σ H Q → tOf g ma σ H (fun v H1 => ∃ k, TruV X.K v H1 k ∧ if k = x then Q v H1 else tOf g mb σ H1 Q) := fun ⟨ρ, S, Fz, I, hw⟩ => by
  rw [wp_bind] at hw
  refine ⟨ρ, S, Fz, I, wp_mono hw (fun r ρ1 S1 h1 v1 H1 Fz1 I1 k1 a1 => ?_) fun _ _ _ z => z⟩
  rw [wp_bind] at h1
  obtain ⟨b, e, q⟩ := wp_of.mp h1
  obtain ⟨F2, I2, k2, a2⟩ := share I1 k1 a1 (fun p z => I.n0 z)
  rw [hK]
  refine ⟨b, tru_of (.inl a2) e, ?_⟩
  by_cases hb : b = x
  · rw [if_pos hb]
    rw [hb, (hf r).1] at q
    exact q v1 H1 F2 I2 k2 a2
  · rw [if_neg hb]
    have : b = !x := by cases b <;> cases x <;> simp_all
    rw [this, (hf r).2] at q
    refine ⟨ρ1, S1, F2, I2, wp_mono q (fun r3 ρ3 S3 h3 v H3 Fz3 I3 k3 a3 => h3 v H3 Fz3 I3 (k2.trans k3) ?_) fun _ _ _ z => z.mono (k2.kf I)⟩
    cases r3 with
    | sh d => exact a3
    | ow d =>
      obtain ⟨p, e, c, n1, n2, n3, n4⟩ := a3
      exact ⟨p, e, c, n1, n2, n3, k1.new p n4⟩
theorem de_or {a b : Expr} {rest : List Expr} {pos : Pos} {ma mb : M DV} (hK : X.K = g.K) (ha : DE X g a ma) (hb : DE X g (.BoolOp .Or (b :: rest) pos) mb) : DE X g (.BoolOp .Or (a :: b :: rest) pos) (mOrV ma mb) :=
  PE.imp (pe_orT ha hb) fun σ H Q h => bool_run (x := true) hK (fun k r => if k = true then pure (.sh r.d) else mb) (fun r => ⟨rfl, rfl⟩) h
theorem de_and {a b : Expr} {rest : List Expr} {pos : Pos} {ma mb : M DV} (hK : X.K = g.K) (ha : DE X g a ma) (hb : DE X g (.BoolOp .And (b :: rest) pos) mb) : DE X g (.BoolOp .And (a :: b :: rest) pos) (mAndV ma mb) := by
  refine PE.imp (pe_andT ha hb) fun σ H Q h => ?_
  obtain ⟨ρ, S, Fz, I, hw⟩ := bool_run (x := false) (mb := mb) hK (fun k r => if k = true then mb else pure (.sh r.d)) (fun r => ⟨rfl, rfl⟩) h
  refine ⟨ρ, S, Fz, I, wp_mono hw (fun r ρ1 S1 h1 v H1 Fz1 I1 k1 a1 => ?_) fun _ _ _ z => z⟩
  obtain ⟨k, t, q⟩ := h1 v H1 Fz1 I1 k1 a1
  refine ⟨k, t, ?_⟩
  cases k with
  | true => rw [if_neg (by decide)] at q; exact iteT q
  | false => rw [if_pos rfl] at q; exact iteF q
end
end DL
set_option Elab.async false
set_option linter.all false
set_option maxRecDepth 100000
set_option maxHeartbeats 1000000
namespace DL
open PySem PySem.Spec PyProof.Rows L2
section
variable {X : Cx} {g : G} {ρ ρ1 ρ2 : Env} {S S1 S2 : Src} {σ : L2.St} {H H1 H2 H' : Hp} {Fz Fz1 Fz2 : Addr → Prop} {Q : VK}
/-- a slot is written -/
theorem SI.put (I : SI g ρ S σ H Fz) {i : Nat} {v : V} {r : DV} {Hs : Hp} (a : VAt g ρ σ Hs H Fz v r) (n0 : ∀ p, Hs p = none → g.H0 p = none) : SI g (ρ.set i (some r)) S (σ.set i (some v)) H Fz := by
  refine ⟨by rw [List.length_set, List.length_set]; exact I.len, fun j e hj => ?_, fun j e hj => ?_, fun j k d1 e1 b hj hk hj2 hk2 => ?_, I.src, I.fzx, I.fzt, I.ext, I.fz0, I.fzn, I.tab⟩
  · rcases get_set hj with ⟨rfl, e1, l⟩ | ⟨ne, e1⟩
    · cases e1
      exact ⟨v, set_same (by rw [← I.len]; exact l), a⟩
    · obtain ⟨w, ew, aw⟩ := I.sh j e e1
      exact ⟨w, by rw [set_diff ne]; exact ew, aw⟩
  · rcases get_set hj with ⟨rfl, e1, l⟩ | ⟨ne, e1⟩
    · cases e1
      obtain ⟨p, rfl, c, nf, _, nx, hn⟩ := a
      exact ⟨p, set_same (by rw [← I.len]; exact l), c, nf, nx, n0 p hn⟩
    · obtain ⟨w, ew, aw⟩ := I.ow j e e1
      exact ⟨w, by rw [set_diff ne]; exact ew, aw⟩
  · rcases get_set hj with ⟨rfl, q1, l1⟩ | ⟨ne1, q1⟩
    · rcases get_set hk with ⟨q, _, _⟩ | ⟨ne2, q2⟩
      · exact q
      · cases q1
        obtain ⟨p, rfl, c, nf, no, nx, hn⟩ := a
        rw [set_same (by rw [← I.len]; exact l1)] at hj2
        cases hj2
        rw [set_diff ne2] at hk2
        exact (no ⟨k, e1, q2, hk2⟩).elim
    · rcases get_set hk with ⟨rfl, q2, l2⟩ | ⟨ne2, q2⟩
      · cases q2
        obtain ⟨p, rfl, c, nf, no, nx, hn⟩ := a
        rw [set_same (by rw [← I.len]; exact l2)] at hk2
        cases hk2
        rw [set_diff ne1] at hj2
        exact (no ⟨j, d1, q1, hj2⟩).elim
      · rw [set_diff ne1] at hj2
        rw [set_diff ne2] at hk2
        exact I.dis j k d1 e1 b q1 q2 hj2 hk2
theorem VAt.start {v : V} {r : DV} {Hs Hs' : Hp} (h : ∀ p, Hs p = none → Hs' p = none) (a : VAt g ρ σ Hs H Fz v r) : VAt g ρ σ Hs' H Fz v r := by
  cases r with
  | sh d => exact a
  | ow d =>
    obtain ⟨p, e, c, nf, no, nx, hn⟩ := a
    exact ⟨p, e, c, nf, no, nx, h p hn⟩
theorem SK.mono {D : Ends} (k : KF H Fz H1 Fz1) {f : Fl} (h : SK g D H Fz f ρ S) : SK g D H1 Fz1 f ρ S := by
  cases f with
  | nx => exact fun σ' H' Fz' I k' => h σ' H' Fz' I (k.trans k')
  | bk => exact fun σ' H' Fz' I k' => h σ' H' Fz' I (k.trans k')
  | ct => exact fun σ' H' Fz' I k' => h σ' H' Fz' I (k.trans k')
  | ret r => exact fun v σ' H' Fz' I k' => h v σ' H' Fz' I (k.trans k')
def mNx : M Fl := pure .nx
theorem ds_nx {st : Stmt} (h : PS X st tNext) : DS X g st mNx := PS.imp h fun D σ H ⟨ρ, S, Fz, I, hw⟩ => hw σ H Fz I KF.refl
theorem ds_pass {pos} : DS X g (.Pass pos) mNx := ds_nx ps_pass
theorem ds_doc {x : Str} {j pos pos'} : DS X g (.Expr (.Constant (.str x) j pos) pos') mNx := ds_nx ps_doc
theorem ds_break {pos} : DS X g (.Break pos) (pure .bk) := PS.imp ps_break fun D σ H ⟨ρ, S, Fz, I, hw⟩ => hw σ H Fz I KF.refl
theorem ds_cont {pos} : DS X g (.Continue pos) (pure .ct) := PS.imp ps_continue fun D σ H ⟨ρ, S, Fz, I, hw⟩ => hw σ H Fz I KF.refl
def mDrop (m : M DV) : M Fl := m >>= fun _ => pure .nx
theorem ds_expr {e : Expr} {pos : Pos} {m : M DV} (h : DE X g e m) (hs : swapsWith e none pos.line X.env = pure false := by rfl) : DS X g (.Expr e pos) (mDrop m) := PS.imp (ps_expr h hs) fun D σ H ⟨ρ, S, Fz, I, hw⟩ => by
  unfold mDrop at hw
  rw [wp_bind] at hw
  exact ⟨ρ, S, Fz, I, wp_mono hw (fun r ρ1 S1 h1 v H1 Fz1 I1 k1 _ => h1 σ H1 Fz1 I1 (k1.kf I)) fun _ _ _ z => z⟩
def mRet (m : M DV) : M Fl := m >>= fun r => pure (.ret r)
theorem ds_ret {e : Expr} {pos : Pos} {m : M DV} (h : DE X g e m) : DS X g (.Return (some e) pos) (mRet m) := PS.imp (ps_ret h) fun D σ H ⟨ρ, S, Fz, I, hw⟩ => by
  unfold mRet at hw
  rw [wp_bind] at hw
  exact ⟨ρ, S, Fz, I, wp_mono hw (fun r ρ1 S1 h1 v H1 Fz1 I1 k1 a1 => h1 v σ H1 Fz1 I1 (k1.kf I) (a1.start fun p z => I.n0 z)) fun _ _ _ z => z⟩
theorem ds_retN {pos : Pos} : DS X g (.Return none pos) (mRet (mC .non)) := PS.imp ps_retN fun D σ H ⟨ρ, S, Fz, I, hw⟩ => hw .non σ H Fz I KF.refl .non
/-! ### stores -/
def mSet (i : Nat) (r : DV) : M Unit := fun ρ S => some (.ok () (ρ.set i (some r)) S)
def mAsg (m : M DV) (i : Nat) : M Fl := m >>= fun r => mSet i r >>= fun _ => pure .nx
theorem asg_run {m : M DV} {i : Nat} {D : Ends} : tOfS g (mAsg m i) D σ H → tAsg (tOf g m) (gName i) D σ H := fun ⟨ρ, S, Fz, I, hw⟩ => by
  unfold mAsg at hw
  rw [wp_bind] at hw
  refine ⟨ρ, S, Fz, I, wp_mono hw (fun r ρ1 S1 h1 v H1 Fz1 I1 k1 a1 => ?_) fun _ _ _ z => z⟩
  exact h1 _ H1 Fz1 (I1.put a1 fun p z => I.n0 z) (k1.kf I)
theorem ds_set {i : Nat} {x : Str} {e : Expr} {pos pos' : Pos} {m : M DV} (hN : X.N.Nodup) (hi : X.N[i]? = some x) (hx : Loc X.env.scope x) (h : DE X g e m) (hs : swapsWith e (some (.Name x pos')) pos.line X.env = pure false := by rfl)
    (hf : X.fn x = true ∨ X.env.scope.names.lookup x = some .local := by first | exact .inl rfl | exact .inr rfl | assumption) : DS X g (.Assign [.Name x pos'] e pos) (mAsg m i) := PS.imp (ps_set hN hi hx h hs hf) fun D σ H q => asg_run q
/-- slots sl apart nothing is stored; no object becomes one's own -/
structure Off (sl : List Nat) (ρ ρ' : Env) (σ σ' : L2.St) : Prop where
  len : σ'.length = σ.length
  out : ∀ j, j ∉ sl → σ'[j]? = σ[j]?
  own : ∀ a, OwnA ρ' σ' a → OwnA ρ σ a
theorem Off.refl {sl : List Nat} : Off sl ρ ρ σ σ := ⟨rfl, fun _ _ => rfl, fun _ h => h⟩
theorem Off.trans {sl sl' : List Nat} {σ1 σ2 : L2.St} (a : Off sl ρ ρ1 σ σ1) (b : Off sl' ρ1 ρ2 σ1 σ2) : Off (sl ++ sl') ρ ρ2 σ σ2 :=
  ⟨b.len.trans a.len, fun j h => (b.out j fun z => h (List.mem_append_right _ z)).trans (a.out j fun z => h (List.mem_append_left _ z)), fun x h => a.own x (b.own x h)⟩
theorem Off.name {i : Nat} {v : V} {d : D} : Off [i] ρ (ρ.set i (some (.sh d))) σ (σ.set i (some v)) := by
  refine ⟨List.length_set, fun j h => set_diff fun z => h (by rw [z]; exact List.mem_singleton.mpr rfl), fun a ⟨j, e, h1, h2⟩ => ?_⟩
  rcases get_set h1 with ⟨_, z, _⟩ | ⟨ne, h1⟩
  · cases z
  · rw [set_diff ne] at h2
    exact ⟨j, e, h1, h2⟩
/-- targets: what is stored, without a change of the heap -/
def tOfG (g : G) (sl : List Nat) (t : D → M Unit) : TG := fun v σ H Q => ∃ ρ S Fz d, SI g ρ S σ H Fz ∧ At g.K g.sd H Fz v d ∧ wp (t d) ρ S (fun _ ρ' S' => ∀ σ', SI g ρ' S' σ' H Fz → Off sl ρ ρ' σ σ' → Q σ' H) (fun _ _ _ => False)
def tOfGs (g : G) (sl : List Nat) (t : List D → M Unit) : TGs := fun vs σ H Q => ∃ ρ S Fz ds, SI g ρ S σ H Fz ∧ AtL g.K g.sd H Fz vs ds ∧ wp (t ds) ρ S (fun _ ρ' S' => ∀ σ', SI g ρ' S' σ' H Fz → Off sl ρ ρ' σ σ' → Q σ' H) (fun _ _ _ => False)
def DG (X : Cx) (g : G) (e : Expr) (sl : List Nat) (t : D → M Unit) : Prop := PG X e (tOfG g sl t)
def DGs (X : Cx) (g : G) (es : List Expr) (sl : List Nat) (t : List D → M Unit) : Prop := PGs X es (tOfGs g sl t)
theorem PG.imp {e : Expr} {t t' : TG} (h : PG X e t) (i : ∀ v σ H Q, t' v σ H Q → t v σ H Q) : PG X e t' := ⟨fun pins s σ H v u Q I r q => h.run pins s σ H v u Q I r (i _ _ _ _ q)⟩
theorem PGs.imp {e : List Expr} {t t' : TGs} (h : PGs X e t) (i : ∀ v σ H Q, t' v σ H Q → t v σ H Q) : PGs X e t' := ⟨fun pins s σ H v u Q I r q => h.run pins s σ H v u Q I r (i _ _ _ _ q)⟩
def gN (i : Nat) : D → M Unit := fun d => mSet i (.sh d)
theorem dg_name {i : Nat} {x : Str} {pos : Pos} (hN : X.N.Nodup) (hi : X.N[i]? = some x) (hx : Loc X.env.scope x) (hf : X.fn x = true ∨ X.env.scope.names.lookup x = some .local := by first | exact .inl rfl | exact .inr rfl | assumption) : DG X g (.Name x pos) [i] (gN i) :=
  PG.imp (pg_name hN hi hx hf) fun v σ H Q ⟨ρ, S, Fz, d, I, a, hw⟩ => hw _ (I.put (r := .sh d) (Hs := g.H0) a fun _ z => z) Off.name
def gNl : List D → M Unit
  | [] => pure ()
  | _ => M.stuck
def gCn (t : D → M Unit) (u : List D → M Unit) : List D → M Unit
  | d :: ds => t d >>= fun _ => u ds
  | _ => M.stuck
theorem dgs_nil : DGs X g [] [] gNl := PGs.imp pgs_nil fun v σ H Q ⟨ρ, S, Fz, ds, I, a, hw⟩ => by
  cases a with
  | nil => exact ⟨rfl, hw σ I Off.refl⟩
  | cons _ _ => exact hw.elim
theorem dgs_cons {e : Expr} {es : List Expr} {t : D → M Unit} {u : List D → M Unit} {sl sl' : List Nat} (h : DG X g e sl t) (hs : DGs X g es sl' u) (hq : (assignEach (e :: es) X.env).map (·.2) = assign e X.env :: (assignEach es X.env).map (·.2) := by rfl) : DGs X g (e :: es) (sl ++ sl') (gCn t u) :=
  PGs.imp (pgs_cons h hs hq) fun v σ H Q ⟨ρ, S, Fz, ds, I, a, hw⟩ => by
    cases a with
    | nil => exact hw.elim
    | cons a l =>
      unfold gCn at hw
      rw [wp_bind] at hw
      refine ⟨_, _, rfl, ρ, S, Fz, _, I, a, wp_mono hw (fun _ ρ1 S1 h1 σ1 I1 o1 => ?_) fun _ _ _ z => z⟩
      exact ⟨ρ1, S1, Fz, _, I1, l, wp_mono h1 (fun _ ρ2 S2 h2 σ2 I2 o2 => h2 σ2 I2 (o1.trans o2)) fun _ _ _ z => z⟩
def gTp (n : Nat) (u : List D → M Unit) : D → M Unit
  | .tup ds => if ds.length = n then u ds else M.stuck
  | _ => M.stuck
theorem tup_of {v : V} {ds : List D} (h : At g.K g.sd H Fz v (.tup ds)) : ∃ a xs, v = .ref a ∧ SqT g.K H a xs ∧ AtL g.K g.sd H Fz xs ds := by
  cases h with
  | tup e l => exact ⟨_, _, rfl, SqT.of e, l⟩
  | tupK e l => exact ⟨_, _, rfl, e H, l⟩
theorem dg_tup {es : List Expr} {k : Nat} {pos : Pos} {u : List D → M Unit} {n : Nat} {sl : List Nat} (hK : X.K = g.K) (hc : X.calm = true) (h : DGs X g es sl u) (hn : (assignEach es X.env).length = n := by rfl) (hst : (assignEach es X.env).findIdx? (·.1) = none := by rfl) : DG X g (.Tuple es k pos) sl (gTp n u) :=
  PG.imp (pg_tup hc h hn hst) fun v σ H Q ⟨ρ, S, Fz, d, I, a, hw⟩ => by
    cases d with
    | tup ds =>
      unfold gTp at hw
      obtain ⟨b, xs, rfl, q, l⟩ := tup_of a
      by_cases e : ds.length = n
      · simp only [if_pos e] at hw
        exact ⟨b, xs, rfl, by rw [hK]; exact q, by rw [l.length]; exact e, ρ, S, Fz, ds, I, l, hw⟩
      · simp only [if_neg e] at hw
        exact hw.elim
    | _ => exact hw.elim
def NoX (t : D → M Unit) : Prop := ∀ d ρ S Q E, wp (t d) ρ S Q E → wp (t d) ρ S Q (fun _ _ _ => False)
theorem nox_name (i : Nat) : NoX (gN i) := fun _ _ _ _ _ h => h
theorem nox_cn {t : D → M Unit} {u : List D → M Unit} (h : NoX t) (hu : ∀ ds ρ S Q E, wp (u ds) ρ S Q E → wp (u ds) ρ S Q (fun _ _ _ => False)) : ∀ ds ρ S Q E, wp (gCn t u ds) ρ S Q E → wp (gCn t u ds) ρ S Q (fun _ _ _ => False) := fun ds ρ S Q E q => by
  cases ds with
  | nil => exact q
  | cons d ds =>
    unfold gCn at q ⊢
    rw [wp_bind] at q ⊢
    exact wp_mono (h d ρ S _ _ q) (fun _ ρ1 S1 h1 => hu ds ρ1 S1 Q E h1) fun _ _ _ z => z
theorem nox_nl : ∀ ds ρ S Q E, wp (gNl ds) ρ S Q E → wp (gNl ds) ρ S Q (fun _ _ _ => False) := fun ds ρ S Q E q => by
  cases ds <;> exact q
theorem nox_tup {n : Nat} {u : List D → M Unit} (hu : ∀ ds ρ S Q E, wp (u ds) ρ S Q E → wp (u ds) ρ S Q (fun _ _ _ => False)) : NoX (gTp n u) := fun d ρ S Q E q => by
  cases d with
  | tup ds =>
    unfold gTp at q ⊢
    by_cases e : ds.length = n
    · simp only [if_pos e] at q ⊢
      exact hu ds ρ S Q E q
    · simp only [if_neg e] at q ⊢
      exact q
  | _ => exact q
def mAsgT (m : M DV) (t : D → M Unit) : M Fl := m >>= fun r => t r.d >>= fun _ => pure .nx
theorem ds_asg {tg e : Expr} {pos : Pos} {m : M DV} {t : D → M Unit} {sl : List Nat} (he : DE X g e m) (hg : DG X g tg sl t) (ht : NoX t) (hs : swapsWithSole [tg] e pos.line X.env = pure false := by rfl) (hw : swappedStores [tg] e X.env = pure none := by rfl)
    (h1 : (assignEach [tg] X.env).map (·.2) = [assign tg X.env] := by rfl) : DS X g (.Assign [tg] e pos) (mAsgT m t) := PS.imp (ps_asg he hg hs hw h1) fun D σ H ⟨ρ, S, Fz, I, hw⟩ => by
  unfold mAsgT at hw
  rw [wp_bind] at hw
  refine ⟨ρ, S, Fz, I, wp_mono hw (fun r ρ1 S1 h1 v H1 Fz1 I1 k1 a1 => ?_) fun _ _ _ z => z⟩
  rw [wp_bind] at h1
  obtain ⟨F2, I2, k2, a2⟩ := share I1 k1 a1 (fun p z => I.n0 z)
  exact ⟨ρ1, S1, F2, r.d, I2, a2, wp_mono (ht _ _ _ _ _ h1) (fun _ ρ2 S2 h2 σ' I' _ => h2 σ' H1 F2 I' (k2.kf I)) fun _ _ _ z => z⟩
/-! ### blocks -/
def mSeq (a b : M Fl) : M Fl := a >>= fun f => match f with
  | .nx => b
  | f => pure f
theorem dss_nil : DSs X g [] mNx := PSs.imp pss_nil fun D σ H ⟨ρ, S, Fz, I, hw⟩ => hw σ H Fz I KF.refl
theorem dss_one {st : Stmt} {m : M Fl} (h : DS X g st m) : DSs X g [st] m := pss_one h
theorem sk_seq {D : Ends} {b : M Fl} {f : Fl} (h : wp (match f with | .nx => b | f => pure f) ρ1 S1 (SK g D H Fz) (XE g H Fz)) : SK g { D with nx := fun σ' H' => tOfS g b D σ' H' } H Fz f ρ1 S1 := by
  cases f with
  | nx => exact fun σ' H' Fz' I' k' => ⟨ρ1, S1, Fz', I', wp_mono h (fun f ρ2 S2 q => q.mono k') fun _ _ _ z => z.mono k'⟩
  | bk => exact h
  | ct => exact h
  | ret r => exact h
theorem dss_cons {st : Stmt} {rest : List Stmt} {a b : M Fl} (h : DS X g st a) (hs : DSs X g rest b) : DSs X g (st :: rest) (mSeq a b) := PSs.imp (pss_cons h hs) fun D σ H ⟨ρ, S, Fz, I, hw⟩ => by
  unfold mSeq at hw
  rw [wp_bind] at hw
  exact ⟨ρ, S, Fz, I, wp_mono hw (fun f ρ1 S1 h1 => sk_seq h1) fun _ _ _ z => z⟩
theorem ds_if {c : Expr} {pos : Pos} {p q : List Stmt} {mc : M Bool} {ma mb : M Fl} (hc : DT X g c mc) (ha : DSs X g p ma) (hb : DSs X g q mb) : DS X g (.If c p q pos) (mIf mc ma mb) := PS.imp (ps_if hc ha hb) fun D σ H ⟨ρ, S, Fz, I, hw⟩ => by
  rw [wp_mIf] at hw
  refine ⟨ρ, S, Fz, I, wp_mono hw (fun k ρ1 S1 h1 H1 Fz1 I1 k1 => ?_) fun _ _ _ z => z⟩
  have go : ∀ (m : M Fl), wp m ρ1 S1 (SK g D H Fz) (XE g H Fz) → tOfS g m D σ H1 := fun m h => ⟨ρ1, S1, Fz1, I1, wp_mono h (fun f ρ2 S2 q => q.mono (k1.kf I)) fun _ _ _ z => z.mono (k1.kf I)⟩
  cases k with
  | true => exact iteT (go ma h1)
  | false => exact iteF (go mb h1)
/-! ### while -/
def mWhile (c : M Bool) (b : M Fl) : Nat → M Fl
  | 0 => M.stuck
  | n + 1 => c >>= fun k => if k = true then b >>= fun f => (match f with
      | .bk => pure .nx
      | .ret r => pure (.ret r)
      | _ => mWhile c b n) else pure .nx
theorem ds_while {c : Expr} {body : List Stmt} {pos : Pos} {mc : M Bool} {mb : M Fl} (n : Nat) (hp : PassesOwn (model X.prog X.w) X.A X.env X.xe) (hc : DT X g c mc) (hb : DSs X g body mb) : DS X g (.While c body [] pos) (mWhile mc mb n) := PS.imp (ps_while hp hc hb) fun D σ H ⟨ρ, S, Fz, I, hw⟩ => by
  refine ⟨fun m σ H => ∃ ρ S Fz, SI g ρ S σ H Fz ∧ wp (mWhile mc mb m) ρ S (SK g D H Fz) (XE g H Fz), ⟨n, ρ, S, Fz, I, hw⟩, fun m σ H ⟨ρ, S, Fz, I, hw⟩ => ?_⟩
  cases m with
  | zero => exact hw.elim
  | succ m =>
    unfold mWhile at hw
    rw [wp_bind] at hw
    refine ⟨ρ, S, Fz, I, wp_mono hw (fun k ρ1 S1 h1 H1 Fz1 I1 k1 => ?_) fun _ _ _ z => z⟩
    have kf := k1.kf I
    cases k with
    | false => exact iteF (h1 σ H1 Fz1 I1 kf)
    | true =>
      refine iteT ⟨fun σ' H' => ∃ ρ S Fz, SI g ρ S σ' H' Fz ∧ wp (mWhile mc mb m) ρ S (SK g D H' Fz) (XE g H' Fz), fun σ' H' z => ⟨m, Nat.lt_succ_self m, z⟩, ?_⟩
      simp only [if_pos] at h1
      rw [wp_bind] at h1
      refine ⟨ρ1, S1, Fz1, I1, wp_mono h1 (fun f ρ2 S2 h2 => ?_) fun _ _ _ z => z.mono kf⟩
      cases f with
      | nx => exact fun σ' H' Fz' I' k' => ⟨ρ2, S2, Fz', I', wp_mono h2 (fun f _ _ q => q.mono (kf.trans k')) fun _ _ _ z => z.mono (kf.trans k')⟩
      | ct => exact fun σ' H' Fz' I' k' => ⟨ρ2, S2, Fz', I', wp_mono h2 (fun f _ _ q => q.mono (kf.trans k')) fun _ _ _ z => z.mono (kf.trans k')⟩
      | bk => exact fun σ' H' Fz' I' k' => h2 σ' H' Fz' I' (kf.trans k')
      | ret r => exact fun v σ' H' Fz' I' k' => h2 v σ' H' Fz' I' (kf.trans k')
/-! ### what is walked -/
structure ItOk (g : G) (J : It) (ds : List D) (H1 : Hp) (Fz1 : Addr → Prop) : Prop where
  goes : ∀ H Fz i, KF H1 Fz1 H Fz → i < ds.length → J.go i H
  yields : ∀ H Fz i d x H', KF H1 Fz1 H Fz → ds[i]? = some d → J.yld i H x H' → New H H' ∧ At g.K g.sd H' Fz x d
  stops : ∀ H Fz, KF H1 Fz1 H Fz → J.stop ds.length H
def tOfI (g : G) (m : M (List D)) : TI := fun σ H R => ∃ ρ S Fz, SI g ρ S σ H Fz ∧ wp m ρ S (fun ds ρ' S' => ∀ J H' Fz', SI g ρ' S' σ H' Fz' → Kx g ρ ρ' σ H Fz H' Fz' → ItOk g J ds H' Fz' → R J H') (XE g H Fz)
def DI (X : Cx) (g : G) (tg e : Expr) (m : M (List D)) : Prop := PI X tg e (tOfI g m)
theorem PI.imp {tg e : Expr} {t t' : TI} (h : PI X tg e t) (i : ∀ σ H R, t' σ H R → t σ H R) : PI X tg e t' := ⟨fun pins s σ H R I q => h.run pins s σ H R I (i _ _ _ q)⟩
def mFor (t : D → M Unit) (b : M Fl) : List D → M Fl
  | [] => pure .nx
  | d :: ds => t d >>= fun _ => b >>= fun f => match f with
      | .bk => pure .nx
      | .ret r => pure (.ret r)
      | _ => mFor t b ds
theorem ds_for {tg iter : Expr} {body : List Stmt} {pos : Pos} {mi : M (List D)} {t : D → M Unit} {mb : M Fl} {sl : List Nat} (hp : PassesOwn (model X.prog X.w) X.A X.env X.xe) (hc : X.calm = true) (hi : DI X g tg iter mi) (hg : DG X g tg sl t) (ht : NoX t) (hb : DSs X g body mb)
    (hs : ∀ x, foldedSetIterable iter X.env x = pure x := by intro _; rfl) : DS X g (.For tg iter body [] pos) (mi >>= mFor t mb) := PS.imp (ps_for hp hc hi hg hb hs) fun D σ H ⟨ρ, S, Fz, I, hw⟩ => by
  rw [wp_bind] at hw
  refine ⟨ρ, S, Fz, I, wp_mono hw (fun ds ρ1 S1 h1 J H1 Fz1 I1 k1 ok => ?_) fun _ _ _ z => z⟩
  have kf := k1.kf I
  refine ⟨fun i m σ H => m = ds.length - i ∧ i ≤ ds.length ∧ ∃ ρ S Fz, SI g ρ S σ H Fz ∧ KF H1 Fz1 H Fz ∧ wp (mFor t mb (ds.drop i)) ρ S (SK g D H Fz) (XE g H Fz),
    ⟨_, rfl, Nat.zero_le _, ρ1, S1, Fz1, I1, KF.refl, wp_mono h1 (fun f _ _ q => q.mono kf) fun _ _ _ z => z.mono kf⟩, fun i m σ2 H2 ⟨hm, hle, ρ2, S2, Fz2, I2, kf2, w2⟩ => ?_⟩
  by_cases hlt : i < ds.length
  · obtain ⟨d, hd⟩ : ∃ d, ds[i]? = some d := ⟨ds[i], List.getElem?_eq_getElem hlt⟩
    refine .inr ⟨ok.goes H2 Fz2 i kf2 hlt, fun σ' H' => i + 1 ≤ ds.length ∧ ∃ ρ S Fz, SI g ρ S σ' H' Fz ∧ KF H1 Fz1 H' Fz ∧ wp (mFor t mb (ds.drop (i + 1))) ρ S (SK g D H' Fz) (XE g H' Fz), fun σ' H' z => ⟨_, by omega, rfl, z⟩, fun x H3 y => ?_⟩
    obtain ⟨nw, ax⟩ := ok.yields H2 Fz2 i d x H3 kf2 hd y
    have I3 := I2.grow nw
    have kn : KF H2 Fz2 H3 Fz2 := nw.kf
    rw [List.drop_eq_getElem_cons hlt] at w2
    have ed : ds[i] = d := by rw [List.getElem?_eq_getElem hlt] at hd; exact Option.some.inj hd
    rw [ed] at w2
    unfold mFor at w2
    rw [wp_bind] at w2
    refine ⟨ρ2, S2, Fz2, d, I3, ax, wp_mono (ht d ρ2 S2 _ _ w2) (fun _ ρ4 S4 h4 σ4 I4 _ => ?_) fun _ _ _ z => z⟩
    rw [wp_bind] at h4
    refine ⟨ρ4, S4, Fz2, I4, wp_mono h4 (fun f ρ5 S5 h5 => ?_) fun _ _ _ z => z.mono kn⟩
    cases f with
    | nx => exact fun σ' H' Fz' I' k' => ⟨hlt, ρ5, S5, Fz', I', kf2.trans (kn.trans k'), wp_mono h5 (fun f _ _ q => q.mono (kn.trans k')) fun _ _ _ z => z.mono (kn.trans k')⟩
    | ct => exact fun σ' H' Fz' I' k' => ⟨hlt, ρ5, S5, Fz', I', kf2.trans (kn.trans k'), wp_mono h5 (fun f _ _ q => q.mono (kn.trans k')) fun _ _ _ z => z.mono (kn.trans k')⟩
    | bk => exact fun σ' H' Fz' I' k' => h5 σ' H' Fz' I' (kn.trans k')
    | ret r => exact fun v σ' H' Fz' I' k' => h5 v σ' H' Fz' I' (kn.trans k')
  · have e : i = ds.length := by omega
    subst e
    rw [List.drop_length] at w2
    exact .inl ⟨ok.stops H2 Fz2 kf2, w2 σ2 H2 Fz2 I2 KF.refl⟩
end
end DL
set_option Elab.async false
set_option linter.all false
set_option maxRecDepth 100000
set_option maxHeartbeats 1000000
namespace DL
open PySem PySem.Spec PyProof.Rows L2
section
variable {X : Cx} {g : G} {H H' : Hp} {Fz Fz' : Addr → Prop} {v : V}
theorem c_int {i : Int} (c : Cont g H Fz v (.int i)) : v = .int i := by
  rcases c with a | ⟨p, rfl, o⟩
  · cases a; rfl
  · cases o
theorem c_bl {i : Bool} (c : Cont g H Fz v (.bl i)) : v = .bl i := by
  rcases c with a | ⟨p, rfl, o⟩
  · cases a; rfl
  · cases o
theorem c_non (c : Cont g H Fz v .non) : v = .non := by
  rcases c with a | ⟨p, rfl, o⟩
  · cases a; rfl
  · cases o
theorem c_str {s : Str} (c : Cont g H Fz v (.str s)) : v = .str s ∧ SOk s := by
  rcases c with a | ⟨p, rfl, o⟩
  · cases a; exact ⟨rfl, by assumption⟩
  · cases o
theorem c_tup {ds : List D} (c : Cont g H Fz v (.tup ds)) : ∃ a xs, v = .ref a ∧ SqT g.K H a xs ∧ AtL g.K g.sd H Fz xs ds := by
  rcases c with a | ⟨p, rfl, o⟩
  · exact tup_of a
  · cases o
theorem c_tupA {ds : List D} (c : Cont g H Fz v (.tup ds)) : At g.K g.sd H Fz v (.tup ds) := by
  rcases c with a | ⟨p, rfl, o⟩
  · exact a
  · cases o
theorem c_lst {ds : List D} (c : Cont g H Fz v (.lst ds)) : ∃ a xs, v = .ref a ∧ H a = some (.lst xs) ∧ AtL g.K g.sd H Fz xs ds := by
  rcases c with a | ⟨p, rfl, o⟩
  · cases a; exact ⟨_, _, rfl, by assumption, by assumption⟩
  · cases o; exact ⟨_, _, rfl, by assumption, by assumption⟩
theorem c_dic {ds : List (Key × D)} (c : Cont g H Fz v (.dic ds)) : ∃ a kvs, v = .ref a ∧ H a = some (.dK kvs) ∧ AtK g.K g.sd H Fz kvs ds := by
  rcases c with a | ⟨p, rfl, o⟩
  · cases a; exact ⟨_, _, rfl, by assumption, by assumption⟩
  · cases o; exact ⟨_, _, rfl, by assumption, by assumption⟩
/-- results -/
theorem rv_sh {d : D} (h : At g.K g.sd H Fz v d) : RV g H H Fz v (.sh d) := h
theorem rv_tup {p : Addr} {xs : List V} {ds : List D} (n : H p = none) (l : AtL g.K g.sd H Fz xs ds) : New H (upd H p (.tup xs)) ∧ RV g H (upd H p (.tup xs)) Fz (.ref p) (.sh (.tup ds)) :=
  ⟨New.upd1 n, .tup upd_same (l.kf (New.upd1 n).kf)⟩
theorem rv_lst {p : Addr} {xs : List V} {ds : List D} (n : H p = none) (l : AtL g.K g.sd H Fz xs ds) : New H (upd H p (.lst xs)) ∧ RV g H (upd H p (.lst xs)) Fz (.ref p) (.ow (.lst ds)) :=
  ⟨New.upd1 n, p, rfl, .lst upd_same (l.kf (New.upd1 n).kf), n⟩
theorem rv_dic {p : Addr} {xs : List (Key × V)} {ds : List (Key × D)} (n : H p = none) (l : AtK g.K g.sd H Fz xs ds) : New H (upd H p (.dK xs)) ∧ RV g H (upd H p (.dK xs)) Fz (.ref p) (.ow (.dic ds)) :=
  ⟨New.upd1 n, p, rfl, .dic upd_same (l.kf (New.upd1 n).kf), n⟩

/-! ### == -/
mutual
def toP : D → PyData
  | .non => .none
  | .bl b => .bool b
  | .int i => .int i
  | .str s => .str s
  | .tup xs => .tuple (toPs xs)
  | .lst xs => .list (toPs xs)
  | .dic _ => .dict []
  | .src => .dict []
def toPs : List D → List PyData
  | [] => []
  | d :: ds => toP d :: toPs ds
end
mutual
/-- no dict within -/
def nd : D → Bool
  | .tup xs => nds xs
  | .lst xs => nds xs
  | .dic _ => false
  | .src => false
  | _ => true
def nds : List D → Bool
  | [] => true
  | d :: ds => nd d && nds ds
end
mutual
def dep : D → Nat
  | .tup xs => deps xs + 1
  | .lst xs => deps xs + 1
  | _ => 0
def deps : List D → Nat
  | [] => 0
  | d :: ds => max (dep d) (deps ds)
end
mutual
theorem dep_toP : ∀ d : D, (toP d).depth = dep d ∨ nd d = false
  | .non => .inl rfl
  | .bl _ => .inl rfl
  | .int _ => .inl rfl
  | .str _ => .inl rfl
  | .tup xs => by
    rcases deps_toP xs with e | e
    · exact .inl (by simp only [toP, PyData.depth, dep, e])
    · exact .inr (by simp only [nd, e])
  | .lst xs => by
    rcases deps_toP xs with e | e
    · exact .inl (by simp only [toP, PyData.depth, dep, e])
    · exact .inr (by simp only [nd, e])
  | .dic _ => .inr rfl
  | .src => .inr rfl
theorem deps_toP : ∀ ds : List D, PyData.depthAll (toPs ds) = deps ds ∨ nds ds = false
  | [] => .inl rfl
  | d :: ds => by
    rcases dep_toP d with e | e
    · rcases deps_toP ds with f | f
      · exact .inl (by simp only [toPs, PyData.depthAll, deps, e, f])
      · exact .inr (by simp only [nds, f, Bool.and_false])
    · exact .inr (by simp only [nds, e, Bool.false_and])
end
mutual
theorem At.dp {K : PySem.W.Frag} {sd : Addr} : ∀ {v : V} {d : D}, At K sd H Fz v d → nd d = true → Dp K H v (toP d) ∧ (toP d).canLay0 = true
  | _, _, .non, _ => ⟨by unfold toP; exact .non, rfl⟩
  | _, _, .bl b, _ => ⟨by unfold toP; exact .bl b, rfl⟩
  | _, _, .int b, _ => ⟨by unfold toP; exact .int b, rfl⟩
  | _, _, .str b h, _ => ⟨by unfold toP; exact .str b, by unfold toP PyData.canLay0; exact h.2⟩
  | _, _, .tup (ds := ds) e l, h => by
    have q := AtL.dp l (by simpa only [nd] using h)
    exact ⟨by unfold toP; exact .tup (SqT.of e) q.1, by unfold toP PyData.canLay0; exact q.2⟩
  | _, _, .tupK e l, h => by
    have q := AtL.dp l (by simpa only [nd] using h)
    exact ⟨by unfold toP; exact .tup (e H) q.1, by unfold toP PyData.canLay0; exact q.2⟩
  | _, _, .lst e _ l, h => by
    have q := AtL.dp l (by simpa only [nd] using h)
    exact ⟨by unfold toP; exact .lst (SqL.of e) q.1, by unfold toP PyData.canLay0; exact q.2⟩
  | _, _, .dic e _ l, h => by simp only [nd] at h; cases h
  | _, _, .src, h => by simp only [nd] at h; cases h
theorem AtL.dp {K : PySem.W.Frag} {sd : Addr} : ∀ {v : List V} {d : List D}, AtL K sd H Fz v d → nds d = true → DpAll K H v (toPs d) ∧ PyData.canLayAll0 (toPs d) = true
  | _, _, .nil, _ => ⟨by unfold toPs; exact .nil, rfl⟩
  | _, _, .cons a l, h => by
    simp only [nds, Bool.and_eq_true] at h
    have p := At.dp a h.1
    have q := AtL.dp l h.2
    exact ⟨by unfold toPs; exact .cons p.1 q.1, by unfold toPs PyData.canLayAll0; rw [p.2, q.2]; rfl⟩
end
theorem Cont.dp {d : D} (c : Cont g H Fz v d) (h : nd d = true) : Dp g.K H v (toP d) ∧ (toP d).canLay0 = true := by
  rcases c with a | ⟨p, rfl, o⟩
  · exact a.dp h
  · cases o with
    | lst e l =>
      have q := AtL.dp l (by simpa only [nd] using h)
      exact ⟨by unfold toP; exact .lst (SqL.of e) q.1, by unfold toP PyData.canLay0; exact q.2⟩
    | dic e l => simp only [nd] at h; cases h
def eqv (a b : D) : Bool := PyData.eqv (toP a) (toP b)
def eqvs (a b : List D) : Bool := PyData.eqvAll (toPs a) (toPs b)
/-- both can be compared -/
def cmpOk (a b : D) : Bool := nd a && nd b && (decide (dep a ≤ 64) || decide (dep b ≤ 64))
def eqD (a b : D) : Option DV := if cmpOk a b = true then some (.sh (.bl (eqv a b))) else none
def neD (a b : D) : Option DV := if cmpOk a b = true then some (.sh (.bl (!eqv a b))) else none
def rEqM (K : PySem.W.Frag) : R2 := fun x y H Q => ∃ d e, Dp K H x d ∧ Dp K H y e ∧ d.canLay0 = true ∧ e.canLay0 = true ∧ min d.depth e.depth ≤ 64 ∧ Q (.bl (PyData.eqv d e)) H
def rNeM (K : PySem.W.Frag) : R2 := fun x y H Q => ∃ d e, Dp K H x d ∧ Dp K H y e ∧ d.canLay0 = true ∧ e.canLay0 = true ∧ min d.depth e.depth ≤ 64 ∧ Q (.bl (!PyData.eqv d e)) H
theorem op_eqM (hu : X.A.units + 64 < cLine) : OpR X (compareOp .Eq) (rEqM X.K) := by
  intro pins s σ H x y v u Q I rx ry h
  obtain ⟨d, e, hd, he, sd, se, hm, q⟩ := h
  obtain ⟨as, r1⟩ := Dp.reads I d x v hd rx
  obtain ⟨bs, r2⟩ := Dp.reads I e y u he ry
  exact SeqAt.compareEq_reads r1 r2 sd se (by omega) ⟨.bl _, H, I, rfl, q⟩
theorem op_neM (hu : X.A.units + 64 < cLine) : OpR X (compareOp .NotEq) (rNeM X.K) := by
  intro pins s σ H x y v u Q I rx ry h
  obtain ⟨d, e, hd, he, sd, se, hm, q⟩ := h
  obtain ⟨as, r1⟩ := Dp.reads I d x v hd rx
  obtain ⟨bs, r2⟩ := Dp.reads I e y u he ry
  exact SeqAt.compareNe_reads r1 r2 sd se (by omega) ⟨.bl _, H, I, rfl, q⟩
theorem cmpOk_min {a b : D} (h : cmpOk a b = true) : nd a = true ∧ nd b = true ∧ min (toP a).depth (toP b).depth ≤ 64 := by
  unfold cmpOk at h
  simp only [Bool.and_eq_true, Bool.or_eq_true, decide_eq_true_eq] at h
  obtain ⟨⟨h1, h2⟩, h3⟩ := h
  refine ⟨h1, h2, ?_⟩
  rcases dep_toP a with e | e
  · rcases dep_toP b with f | f
    · rw [e, f]; omega
    · rw [h2] at f; cases f
  · rw [h1] at e; cases e
theorem o2_eq (hK : X.K = g.K) : Op2 X g (rEqM X.K) eqD := fun H Fz x y dx dy dv Q cx cy h q => by
  unfold eqD at h
  by_cases c : cmpOk dx dy = true
  · rw [if_pos c] at h
    cases h
    obtain ⟨h1, h2, h3⟩ := cmpOk_min c
    rw [hK]
    exact ⟨_, _, (cx.dp h1).1, (cy.dp h2).1, (cx.dp h1).2, (cy.dp h2).2, h3, q _ H New.refl (.bl _)⟩
  · rw [if_neg c] at h; cases h
theorem o2_ne (hK : X.K = g.K) : Op2 X g (rNeM X.K) neD := fun H Fz x y dx dy dv Q cx cy h q => by
  unfold neD at h
  by_cases c : cmpOk dx dy = true
  · rw [if_pos c] at h
    cases h
    obtain ⟨h1, h2, h3⟩ := cmpOk_min c
    rw [hK]
    exact ⟨_, _, (cx.dp h1).1, (cy.dp h2).1, (cx.dp h1).2, (cy.dp h2).2, h3, q _ H New.refl (.bl _)⟩
  · rw [if_neg c] at h; cases h
/-! ### is None -/
def isNon : D → Bool
  | .non => true
  | _ => false
def isN (a b : D) : Option DV := match b with
  | .non => some (.sh (.bl (isNon a)))
  | _ => none
def notN (a b : D) : Option DV := match b with
  | .non => some (.sh (.bl (!isNon a)))
  | _ => none
theorem non_iff {d : D} (c : Cont g H Fz v d) : decide (v = .non) = isNon d := by
  rcases c with a | ⟨p, rfl, o⟩
  · cases a <;> rfl
  · cases o <;> rfl
theorem o2_isN : Op2 X g (fun x y H Q => y = .non ∧ Q (.bl (decide (x = .non))) H) isN := fun H Fz x y dx dy dv Q cx cy h q => by
  cases dy with
  | non =>
    cases h
    refine ⟨c_non cy, ?_⟩
    rw [non_iff cx]
    exact q _ H New.refl (.bl _)
  | _ => cases h
theorem o2_notN : Op2 X g (fun x y H Q => y = .non ∧ Q (.bl (!decide (x = .non))) H) notN := fun H Fz x y dx dy dv Q cx cy h q => by
  cases dy with
  | non =>
    cases h
    refine ⟨c_non cy, ?_⟩
    rw [non_iff cx]
    exact q _ H New.refl (.bl _)
  | _ => cases h
/-! ### numbers -/
def intOp (f : Int → Int → Option D) : D → D → Option DV
  | .int i, .int j => (f i j).map .sh
  | _, _ => none
theorem o2_int {C : Int → Int → Prop} {gg : Int → Int → V} {f : Int → Int → Option D} (h : ∀ i j d, f i j = some d → C i j ∧ ∀ H Fz, At g.K g.sd H Fz (gg i j) d) : Op2 X g (rI C gg) (intOp f) := fun H Fz x y dx dy dv Q cx cy e q => by
  unfold intOp at e
  cases dx <;> cases dy <;> first | cases e | skip
  obtain ⟨d, e1, rfl⟩ := Option.map_eq_some_iff.mp e
  obtain ⟨h1, h2⟩ := h _ _ _ e1
  exact ⟨_, _, c_int cx, c_int cy, h1, q _ H New.refl (h2 H Fz)⟩
theorem o2_int0 {gg : Int → Int → V} {f : Int → Int → D} (h : ∀ i j H Fz, At g.K g.sd H Fz (gg i j) (f i j)) : Op2 X g (rI0 gg) (intOp fun i j => some (f i j)) := fun H Fz x y dx dy dv Q cx cy e q => by
  unfold intOp at e
  cases dx <;> cases dy <;> first | cases e | skip
  exact ⟨_, _, c_int cx, c_int cy, q _ H New.refl (h _ _ H Fz)⟩
def subD : D → D → Option DV := intOp fun i j => some (.int (i - j))
theorem o2_sub : Op2 X g (rI0 fun i j => .int (i - j)) subD := o2_int0 fun _ _ _ _ => .int _
def modD : D → D → Option DV := intOp fun i j => if 0 < j then some (.int (i % j)) else none
theorem o2_mod : Op2 X g (rI (fun _ j => 0 < j) fun i j => .int (i % j)) modD := o2_int fun i j d h => by
  by_cases c : 0 < j
  · rw [if_pos c] at h; cases h; exact ⟨c, fun _ _ => .int _⟩
  · rw [if_neg c] at h; cases h
def fdivD : D → D → Option DV := intOp fun i j => if 0 < j ∧ j < 1073741824 then some (.int (i / j)) else none
theorem o2_fdiv : Op2 X g (rI CDiv fun i j => .int (i / j)) fdivD := o2_int fun i j d h => by
  by_cases c : 0 < j ∧ j < 1073741824
  · rw [if_pos c] at h; cases h; exact ⟨c, fun _ _ => .int _⟩
  · rw [if_neg c] at h; cases h
def powD : D → D → Option DV := intOp fun i j => if 0 ≤ j ∧ j ≤ 1000000 ∧ i.natAbs < 2 ^ 64 then some (.int (i ^ j.toNat)) else none
theorem o2_pow : Op2 X g (rI CPow fun i j => .int (i ^ j.toNat)) powD := o2_int fun i j d h => by
  by_cases c : 0 ≤ j ∧ j ≤ 1000000 ∧ i.natAbs < 2 ^ 64
  · rw [if_pos c] at h; cases h; exact ⟨c, fun _ _ => .int _⟩
  · rw [if_neg c] at h; cases h
/-- an order of ints and of texts -/
def ordD (f : Int → Int → Bool) (t : Str → Str → Option Bool) : D → D → Option DV
  | .int i, .int j => some (.sh (.bl (f i j)))
  | .str i, .str j => (t i j).map fun b => .sh (.bl b)
  | _, _ => none
theorem Op2.or {r r' : R2} {op op' : D → D → Option DV} (h : Op2 X g r op) (h' : Op2 X g r' op') : Op2 X g (fun x y H Q => r x y H Q ∨ r' x y H Q) (fun a b => match op a b with | some d => some d | none => op' a b) := fun H Fz x y dx dy dv Q cx cy e q => by
  cases e1 : op dx dy with
  | some d =>
    simp only [e1] at e
    cases e
    exact .inl (h H Fz x y dx dy _ Q cx cy e1 q)
  | none =>
    simp only [e1] at e
    exact .inr (h' H Fz x y dx dy dv Q cx cy e q)
theorem Op2.imp {r : R2} {op op' : D → D → Option DV} (h : Op2 X g r op) (e : ∀ a b d, op' a b = some d → op a b = some d) : Op2 X g r op' := fun H Fz x y dx dy dv Q cx cy q => h H Fz x y dx dy dv Q cx cy (e _ _ _ q)
def ltS (i j : Str) : Bool := decide (i.cps.toList < j.cps.toList)
def ltI : D → D → Option DV := intOp fun i j => some (.bl (decide (i < j)))
def leI : D → D → Option DV := intOp fun i j => some (.bl (decide (i ≤ j)))
def gtI : D → D → Option DV := intOp fun i j => some (.bl (decide (j < i)))
def geI : D → D → Option DV := intOp fun i j => some (.bl (decide (j ≤ i)))
theorem o2_lt : Op2 X g (rI0 fun i j => .bl (decide (i < j))) ltI := o2_int0 fun _ _ _ _ => .bl _
theorem o2_le : Op2 X g (rI0 fun i j => .bl (decide (i ≤ j))) leI := o2_int0 fun _ _ _ _ => .bl _
theorem o2_gt : Op2 X g (rI0 fun i j => .bl (decide (j < i))) gtI := o2_int0 fun _ _ _ _ => .bl _
theorem o2_ge : Op2 X g (rI0 fun i j => .bl (decide (j ≤ i))) geI := o2_int0 fun _ _ _ _ => .bl _
/-! ### + -/
def addI : D → D → Option DV := intOp fun i j => some (.int (i + j))
theorem o2_addI : Op2 X g (rI0 fun i j => .int (i + j)) addI := o2_int0 fun _ _ _ _ => .int _
def addS : D → D → Option DV
  | .str a, .str b => if a.length + b.length ≤ sizeLine then some (.sh (.str (a ++ b))) else none
  | _, _ => none
theorem len_app (a b : Str) : (a ++ b).length = a.length + b.length := by
  show (a.cps ++ b.cps).size = _
  rw [Array.size_append]; rfl
theorem strOk_app {a b : Str} (ha : PyData.strOk a = true) (hb : PyData.strOk b = true) : PyData.strOk (a ++ b) = true := by
  show (a.cps ++ b.cps).all (· < 0x110000) = true
  unfold PyData.strOk at ha hb
  rw [Array.all_append, ha, hb]; rfl
theorem SOk.app {a b : Str} (ha : SOk a) (hb : SOk b) (h : a.length + b.length ≤ sizeLine) : SOk (a ++ b) := ⟨by rw [len_app]; exact h, strOk_app ha.2 hb.2⟩
theorem o2_addS : Op2 X g (fun x y H Q => ∃ i j, x = .str i ∧ y = .str j ∧ i.length + j.length ≤ sizeLine ∧ Q (.str (i ++ j)) H) addS := fun H Fz x y dx dy dv Q cx cy e q => by
  cases dx <;> cases dy <;> first | cases e | skip
  rename_i a b
  unfold addS at e
  by_cases c : a.length + b.length ≤ sizeLine
  · simp only [if_pos c] at e
    cases e
    exact ⟨a, b, (c_str cx).1, (c_str cy).1, c, q _ H New.refl (.str _ ((c_str cx).2.app (c_str cy).2 c))⟩
  · simp only [if_neg c] at e; cases e
def addT : D → D → Option DV
  | .tup a, .tup b => if a.length + b.length ≤ sizeLine then some (.sh (.tup (a ++ b))) else none
  | _, _ => none
theorem o2_addT (hK : X.K = g.K) : Op2 X g (rCatA X.K) addT := fun H Fz x y dx dy dv Q cx cy e q => by
  cases dx <;> cases dy <;> first | cases e | skip
  rename_i a b
  unfold addT at e
  by_cases c : a.length + b.length ≤ sizeLine
  · simp only [if_pos c] at e
    cases e
    obtain ⟨p1, xs, rfl, s1, l1⟩ := c_tup cx
    obtain ⟨p2, ys, rfl, s2, l2⟩ := c_tup cy
    rw [hK]
    refine ⟨p1, p2, xs, ys, rfl, rfl, s1, s2, by rw [l1.length, l2.length]; exact c, fun hx => ?_, fun hx hy => ?_, fun _ _ p np => ?_⟩
    · subst hx
      cases l1
      exact q _ H New.refl (c_tupA cy)
    · subst hy
      cases l2
      rw [List.append_nil] at q
      exact q _ H New.refl (c_tupA cx)
    · exact q _ _ (rv_tup np (l1.app l2)).1 (rv_tup np (l1.app l2)).2
  · simp only [if_neg c] at e; cases e
def addL : D → D → Option DV
  | .lst a, .lst b => if a.length + b.length ≤ sizeLine then some (.ow (.lst (a ++ b))) else none
  | _, _ => none
theorem o2_addL : Op2 X g rCat addL := fun H Fz x y dx dy dv Q cx cy e q => by
  cases dx <;> cases dy <;> first | cases e | skip
  rename_i a b
  unfold addL at e
  by_cases c : a.length + b.length ≤ sizeLine
  · simp only [if_pos c] at e
    cases e
    obtain ⟨p1, xs, rfl, s1, l1⟩ := c_lst cx
    obtain ⟨p2, ys, rfl, s2, l2⟩ := c_lst cy
    exact ⟨p1, p2, xs, ys, rfl, rfl, s1, s2, by rw [l1.length, l2.length]; exact c, fun p np => q _ _ (rv_lst np (l1.app l2)).1 (rv_lst np (l1.app l2)).2⟩
  · simp only [if_neg c] at e; cases e
/-- a + b of ints, texts, tuples, lists -/
def addD (a b : D) : Option DV := match a, b with
  | .int i, .int j => some (.sh (.int (i + j)))
  | .str x, .str y => if x.length + y.length ≤ sizeLine then some (.sh (.str (x ++ y))) else none
  | .tup x, .tup y => if x.length + y.length ≤ sizeLine then some (.sh (.tup (x ++ y))) else none
  | .lst x, .lst y => if x.length + y.length ≤ sizeLine then some (.ow (.lst (x ++ y))) else none
  | _, _ => none
def rAddA (K : PySem.W.Frag) : R2 := fun x y H Q => (rI0 fun i j => .int (i + j)) x y H Q ∨ ((fun x y H Q => ∃ i j, x = .str i ∧ y = .str j ∧ i.length + j.length ≤ sizeLine ∧ Q (.str (i ++ j)) H) : R2) x y H Q ∨ rCatA K x y H Q ∨ rCat x y H Q
theorem op_addA : OpR X (binaryOp .Add) (rAddA X.K) := op_add.or (op_add_str.or (op_catA.or op_cat))
theorem o2_add (hK : X.K = g.K) : Op2 X g (rAddA X.K) addD :=
  (o2_addI.or (o2_addS.or ((o2_addT hK).or o2_addL))).imp fun a b d h => by
    cases a <;> cases b <;> first | cases h | skip
    · rfl
    all_goals
      simp only [addD] at h
      simp only [addI, intOp, addS, addT, addL]
      split at h
      · rename_i c
        simp only [if_pos c]
        exact h
      · cases h
end
end DL
set_option Elab.async false
set_option linter.all false
set_option maxRecDepth 100000
set_option maxHeartbeats 2000000
/-! defs in a context in which no object is just being shown -/
namespace L2
open PySem PySem.Spec PyProof.Rows
structure FnG (P : Program) (w : World) (K : PySem.W.Frag) (mg : Str → Option Value) (base : Heap) (CX : CXT) (k : Nat) (f : Addr) (fd : FuncData) (ps : List Str) (sp : Sp) : Prop where
  len : ∀ vs H Q E, sp vs H Q E → vs.length = ps.length
  run : ∀ (A : Around), A.guards = some [] → Room k A → ∀ (fr : List Env) (z : Shared) (H : Hp) (as : Args) (us : List Value) (vs : List V) (Q : VK) (E : XK), Env0 P w K mg base A fr z H → BindsTo z fd as (ps.zip us) → Vals vs us → sp vs H Q E →
    codeAny (model P w) A (.call (.ref f) as) (CR CX fr P w H z Q E) z
section
variable {P : Program} {w : World} {K : PySem.W.Frag} {mg : Str → Option Value} {base : Heap} {CX : CXT} {j k : Nat} {f : Addr} {fd : FuncData} {ps : List Str} {sp : Sp}
theorem FnG.mono (F : FnG P w K mg base CX j f fd ps sp) (h : j ≤ k) : FnG P w K mg base CX k f fd ps sp := ⟨F.len, fun A ga ra => F.run A ga (ra.mono h)⟩
theorem guards_deeper {A : Around} {env : Env} : (A.deeper env).guards = A.guards := rfl
theorem fn_ofG {name qual : Str} {pars : Arguments} {body : List Stmt} {sco : Scope} {dV kV doc pm cdv ct oc : Value} {an od : Option Addr} {osl : Array (Option Value)} {N : List Str}
    (lk : K.lookup f = some ⟨oc, od, .func (PySem.W.fnOf name qual pars body sco dV kV doc pm an cdv ct), osl⟩) (hc : PySem.W.codeIn K cdv qual = true) (Z : FnScope N ps sco) (len : ∀ vs H Q E, sp vs H Q E → vs.length = ps.length)
    (hb : ∀ (A : Around) (fr : List Env) (z : Shared) (H : Hp) (vs : List V) (Q : VK) (E : XK), A.guards = some [] → Room k (A.deeper (envOfC qual sco z.heap.objs.size f cdv)) → sp vs H Q E →
      ∃ t, PSs (cxOf CX P w K mg base N qual sco f cdv A fr z H E) body t ∧ t { nx := fun _ H' => Q .non H', rt := Q } (L2.start N vs) H) :
    FnG P w K mg base CX (k + 1) f (PySem.W.fnOf name qual pars body sco dV kV doc pm an cdv ct) ps sp where
  len := len
  run := by
    intro A ga ra fr z H as us vs Q E e bi rv hs
    have inK : K.In z.heap := e.mod.kin.keeps fun b o q => (e.bs b o q).1
    have slots : ∀ y ∈ ps.zip us, sco.names.lookup y.1 = some .local ∨ (sco.names.lookup y.1 = some .cell ∧ ((cellsFrom (z.heap.objs.size + 1) sco.names []).lookup y.1).isSome = true) := by
      rintro ⟨n, v⟩ hy
      exact (Z.par n (List.of_mem_zip hy).1).imp id fun q => ⟨q, PySem.W.cellsFrom_some _ _ _ (.inl q)⟩
    refine codeAny_call_function ra.depth (inK _ _ lk) rfl Z.co Z.gen rfl (PySem.W.codeRec_of inK hc) (bi _ _ _ _ (wpAny_newFunctionEnv_cells Z.kind slots fun ev he z1 ic => ?_))
    subst he
    obtain ⟨t, pt, q⟩ := hb A fr z H vs Q E ga (ra.deeper _) hs
    refine ⟨(e.mod.nolimit.keeps fun b o q => (e.bs b o q).1).keeps ic.toInCall.keep, codeAny_func (wpAny_mono (pt.run [] z1 (L2.start N vs) H _ (inv_start Z ra.hd e (len _ _ _ _ hs) rv ic) q) (fun fl z2 h => ?_) fun x z2 h => h)⟩
    cases fl with
    | ret u => exact let ⟨v, _, H', J, rw', q⟩ := h; ⟨v, H', J.os, J.bare, J.base, J.hok, rw', q⟩
    | next => exact let ⟨_, H', J, q⟩ := h; ⟨V.non, H', J.os, J.bare, J.base, J.hok, rfl, q⟩
    | brk => exact let ⟨_, _, _, q⟩ := h; q.elim
    | cont => exact let ⟨_, _, _, q⟩ := h; q.elim
theorem Fun.okG {x qual : Str} {st : Stmt} {N : List Str} (F : Fun K x qual st f fd) (Z : FnScope N ps (defScope st)) (len : ∀ vs H Q E, sp vs H Q E → vs.length = ps.length)
    (hb : ∀ (cdv : Value) (A : Around) (fr : List Env) (z : Shared) (H : Hp) (vs : List V) (Q : VK) (E : XK), A.guards = some [] → Room k (A.deeper (envOfC qual (defScope st) z.heap.objs.size f cdv)) → sp vs H Q E →
      ∃ t, PSs (cxOf CX P w K mg base N qual (defScope st) f cdv A fr z H E) (defBody st) t ∧ t { nx := fun _ H' => Q .non H', rt := Q } (L2.start N vs) H) : FnG P w K mg base CX (k + 1) f fd ps sp := by
  obtain ⟨oc, od, kV, doc, pm, an, cdv, ct, osl, rfl, lk, hc⟩ := F.ex
  exact fn_ofG lk hc Z len fun A fr z H vs Q E ga ra hs => hb cdv A fr z H vs Q E ga ra hs
end
section
variable {X : Cx} {CX : CXT} {k : Nat} {f : Addr} {fd : FuncData} {ps : List Str} {sp : Sp} {E : XK} {x : Str} {p pos : Pos} {e : Expr} {es : List Expr} {t : TA}
theorem run_fnG {pins : List (Addr × Obj)} {σ : St} {H : Hp} {s : Shared} {Q : VK} {us : List Value} {vs : List V} (F : FnG X.prog X.w X.K X.mg X.base CX k f fd ps sp) (hg : X.A.guards = some []) (hr : Room k X.A) (hb : Binds X.K fd ps []) (hx : Passes CX X E)
    (I : Inv X pins σ H s) (r : Vals vs us) (h : sp vs H Q E) : wpAny (model X.prog X.w) X.A (call (.ref f) us) (EP X pins σ Q) X.xe s := by
  have bi := hb s us I.kIn (by rw [List.append_nil, ← r.length]; exact F.len _ _ _ _ h)
  rw [List.append_nil] at bi
  refine wpAny_call (codeAny_mono (F.run X.A hg hr X.stack s H ⟨us, []⟩ us vs Q E I.env0 bi r h) fun res s' hq => ?_)
  match res, hq with
  | .error e, hq => exact hx pins σ H s e s' I hq
  | .ok (.ret u), hq => exact I.after hq
  | .ok .next, hq => exact False.elim hq
  | .ok .brk, hq => exact False.elim hq
  | .ok .cont, hq => exact False.elim hq
theorem pe_callG (F : FnG X.prog X.w X.K X.mg X.base CX k f fd ps sp) (ga : X.A.guards = some []) (hr : Room k X.A) (hg : Gl X x) (hm : X.mg x = some (.ref f)) (hk : PySem.W.keepIn X.K (.ref f) = true) (hb : Binds X.K fd ps []) (hx : Passes CX X E)
    (ha : PA X (e :: es) t) (hdb : (x == ("__debug__" : Str)) = false := by decide) (he : starEach (e :: es) X.env = (false, eval e X.env) :: starEach es X.env := by rfl) (hpl : (backTo pos (starEach es X.env)).any (·.1) = false := by rfl) :
    PE X (.Call (.Name x p) (e :: es) [] pos) (fun σ H Q => t σ H fun vs H1 => sp vs H1 Q E) := by
  refine ⟨fun pins s σ H Q I h => wpAny_Call_Name_kw (ld_glob I hg hm (PySem.W.callWith_K (h₀ := X.base) I.ok.mod.kin hk (thn (ha.run pos pins s σ H _ I h) fun us s1 hq => ?_) he hpl) hdb)⟩
  obtain ⟨vs, H1, I1, r, q⟩ := hq
  exact ⟨I1.kIn, run_fnG F ga hr hb hx I1 r q⟩
end
end L2
namespace LamX
open PySem PySem.Spec PyProof.Rows L2
/-- the law's call, where no object is just being shown; ts: the tables of code objects -/
theorem law_callG {P : Program} {w : World} {K : PySem.W.Frag} {mg mb : Str → Option Value} {CX : CXT} {k : Nat} {f l : Addr} {cs : List (Addr × Addr)} {fd : FuncData} {x : Str} {sp : Sp} {z : Shared} {us : List Value} {ns : List Int}
    (kin : K.In z.heap) (glo : z.heap.Ns mainGlobals mg) (blt : z.heap.Ns builtinsNs mb) (bltIs : ∀ x : Str, x ≠ "__name__" → mb x = bootBuiltins x) (lim : z.heap.NoLimit) (gens : z.gens = #[])
    (tab : ∀ p ∈ cs, z.heap.get? p.2 = some { cls := .none, data := .fields #[] }) (tabK : ∀ p ∈ cs, K.lookup p.2 = none) (code : ∀ p ∈ cs, PySem.W.CodeHd z.heap p.1 p.2)
    (modl : ∃ (bm : Addr) (ob : Obj), mg "__builtins__" = some (.ref bm) ∧ bm ≠ builtinsNs ∧ z.heap.get? bm = some ob ∧ ob.cls = .type "module" ∧ ob.dict = some builtinsNs ∧ ob.data = .plain)
    (scr : z.heap.get? l = some { cls := .type "list", data := .seq us.toArray }) (nums : IntsAre us ns) (len : ns.length ≤ sizeLine) (room : Room k callerA)
    (F : ∀ b0 : Heap, K.In b0 → b0.Ns mainGlobals mg → (∀ p ∈ cs, TabB b0 mg p.1 p.2) → FnG P w K mg b0 CX k f fd [x] sp) (bind : ∀ (t : Shared) (u : Value), BindsTo t fd ⟨[u], []⟩ [(x, u)])
    (want : ∀ H : Hp, (∀ p ∈ cs, H p.2 = some (.tbl #[])) → SqL K H l (ns.map V.int) → sp [.ref l] H (fun v _ => v = .bl true) fun _ _ _ => False) (noex : ∀ H e t, CX [] H z (fun _ _ _ => False) e t → False) :
    codeAny (model P w) callerA (.call (.ref f) ⟨[.ref l], []⟩) (fun r t => r = .ok (.ret (.bool true)) ∧ OldK z.heap t.heap ∧ t.os = z.os ∧ AllBare t.gens) z := by
  have tabAt : ∀ b, b ∈ cs.map (·.2) → z.heap.get? b = some { cls := .none, data := .fields #[] } := by
    intro b hb
    obtain ⟨p, hp, rfl⟩ := List.mem_map.mp hb
    exact tab p hp
  have inT : ∀ p ∈ cs, p.2 ∈ cs.map (·.2) := fun p hp => List.mem_map_of_mem hp
  have lT : l ∉ cs.map (·.2) := by
    intro h
    have := congrArg Obj.data (Option.some.inj (scr.symm.trans (tabAt l h)))
    cases this
  -- in a heap H that tracks the script and the tables at most
  suffices go : ∀ H : Hp, (∀ p ∈ cs, H p.2 = some (.tbl #[])) → (∀ b, H b = none ∨ b ∈ cs.map (·.2) ∨ ∃ o xs, H b = some (.frz o (.lst xs))) → SqL K H l (ns.map V.int) → HOk P w H z.heap → (∀ b, H b ≠ none → b = l ∨ b ∈ cs.map (·.2)) → (H l ≠ none → K.lookup l = none) → codeAny (model P w) callerA (.call (.ref f) ⟨[.ref l], []⟩) (fun r t => r = .ok (.ret (.bool true)) ∧ OldK z.heap t.heap ∧ t.os = z.os ∧ AllBare t.gens) z by
    -- where the script is: read off the written part, or tracked and locked
    have vals := vals_ints nums
    rcases hk : K.lookup l with _ | o
    · refine go (fun b => if b = l then some (.frz { cls := .type "list", data := .seq us.toArray } (.lst (ns.map V.int))) else if b ∈ cs.map (·.2) then some (.tbl #[]) else none) ?_ ?_ (.inl (.inr ⟨_, if_pos rfl⟩)) ?_ ?_ fun _ => hk
      · intro p hp
        have n : p.2 ≠ l := fun e => lT (e ▸ inT p hp)
        simp only [if_neg n, if_pos (inT p hp)]
      · intro b
        by_cases e : b = l
        · exact .inr (.inr ⟨_, _, if_pos e⟩)
        · by_cases t : b ∈ cs.map (·.2)
          · exact .inr (.inl t)
          · exact .inl (by simp only [if_neg e, if_neg t])
      · intro b u q
        by_cases e : b = l
        · subst e
          simp only [if_pos] at q
          cases q
          exact ⟨scr, by rw [List.length_map]; exact len, us, _, vals, scr⟩
        · by_cases t : b ∈ cs.map (·.2)
          · simp only [if_neg e, if_pos t] at q
            cases q
            exact tabAt b t
          · simp only [if_neg e, if_neg t] at q
            cases q
      · intro b q
        by_cases e : b = l
        · exact .inl e
        · by_cases t : b ∈ cs.map (·.2)
          · exact .inr t
          · simp only [if_neg e, if_neg t] at q
            exact (q rfl).elim
    · have eo := kin l o hk
      rw [scr] at eo
      cases eo
      refine go (fun b => if b ∈ cs.map (·.2) then some (.tbl #[]) else none) (fun p hp => if_pos (inT p hp)) ?_ (.inr ⟨_, us.toArray, _, hk, rfl, rfl, rfl, by rw [List.size_toArray, nums.length]; exact len, by simpa using vals⟩) ?_ ?_ fun q => (q (if_neg lT)).elim
      · intro b
        by_cases t : b ∈ cs.map (·.2)
        · exact .inr (.inl t)
        · exact .inl (if_neg t)
      · intro b u q
        by_cases t : b ∈ cs.map (·.2)
        · simp only [if_pos t] at q
          cases q
          exact tabAt b t
        · simp only [if_neg t] at q
          cases q
      · intro b q
        by_cases t : b ∈ cs.map (·.2)
        · exact .inr t
        · exact (q (if_neg t)).elim
  intro H hH hO hS hok hA hK
  -- the base: all but what H tracks
  have keepB : ∀ {b : Addr} {o : Obj}, z.heap.get? b = some o → (∀ v n, o.data ≠ .seq v n) → o.data ≠ .fields #[] → (hidT z.heap H).get? b = some o := by
    intro b o e d1 d2
    refine hidT_get e ?_
    by_cases q : H b = none
    · exact q
    · rcases hA b q with rfl | t
      · rw [scr] at e
        cases e
        exact (d1 _ _ rfl).elim
      · rw [tabAt b t] at e
        cases e
        exact (d2 rfl).elim
  have keepD : ∀ {b : Addr} {m : Str → Option Value}, z.heap.Ns b m → (hidT z.heap H).Ns b m := by
    rintro b m ⟨o, es, ep, e, d, r⟩
    exact ⟨o, es, ep, keepB e (by rw [d]; exact fun _ _ q => by cases q) (by rw [d]; exact fun q => by cases q), d, r⟩
  have kinB : K.In (hidT z.heap H) := by
    intro b o e
    refine hidT_get (kin b o e) ?_
    by_cases q : H b = none
    · exact q
    · rcases hA b q with rfl | t
      · rw [hK q] at e
        cases e
      · obtain ⟨p, hp, rfl⟩ := List.mem_map.mp t
        rw [tabK p hp] at e
        cases e
  have tabs : ∀ p ∈ cs, TabB (hidT z.heap H) mg p.1 p.2 := by
    intro p hp
    have tp := tab p hp
    refine ⟨?_, ?_, ?_⟩
    · obtain ⟨o, vs, c1, c2, c3, c4, c5, c6, c7, e, r1, r2, r3, r⟩ := code p hp
      refine ⟨o, vs, c1, c2, c3, c4, c5, c6, c7, keepB e (by rw [r2]; exact fun _ _ q => by cases q) (by rw [r2]; exact fun q => by cases q; simp at r3), r1, r2, r3, r⟩
    · obtain ⟨bm, ob, m1, m2, m3, m4, m5, m6⟩ := modl
      refine ⟨bm, ob, m1, m2, fun q => ?_, fun q => ?_, keepB m3 (by rw [m6]; exact fun _ _ q => by cases q) (by rw [m6]; exact fun q => by cases q), m4, m5, m6⟩
      · obtain ⟨o, es, ep, e, d, _⟩ := glo
        rw [← q, m3] at e
        cases e
        rw [m6] at d
        cases d
      · rw [q, tp] at m3
        cases m3
        cases m6
    · intro q
      obtain ⟨o, es, ep, e, d, _⟩ := glo
      rw [q, tp] at e
      cases e
      cases d
  have env : Env0 P w K mg (hidT z.heap H) callerA [] z H := by
    refine ⟨rfl, ⟨kinB, keepD glo, ⟨mb, keepD blt, bltIs⟩, ?_⟩, fun _ _ e => of_hidT e, Nat.le_of_eq (hidT_size _ _), trivial, (fun b hb => by cases hb), hok, AllBare.of_eq gens⟩
    obtain ⟨m, q1, q2⟩ := lim
    exact ⟨m, keepD q1, q2⟩
  refine codeAny_mono ((F _ kinB (keepD glo) tabs).run callerA rfl room [] z H ⟨[.ref l], []⟩ [.ref l] [.ref l] _ _ env (bind z (.ref l)) (.cons rfl .nil) (want H hH hS)) ?_
  intro r t h
  match r, h with
  | .error e, h => exact (noex H e t h).elim
  | .ok .next, h => exact False.elim h
  | .ok .brk, h => exact False.elim h
  | .ok .cont, h => exact False.elim h
  | .ok (.ret u), ⟨v, H', os, bare, un, hok', rv, qv⟩ =>
    subst qv
    cases rv
    have out : ∀ b o, b ∉ cs.map (·.2) → z.heap.get? b = some o → t.heap.get? b = some o := by
      intro b o nb e
      rcases hO b with q | q | ⟨ob, xs, q⟩
      · exact un.keep b o e q (by intro q; cases q) (by intro q; cases q)
      · exact (nb q).elim
      · have e1 := (hok b _ q).1
        rw [e] at e1
        cases e1
        exact (hok' b _ (un.frzs b _ _ q)).1
    have more : ∀ p ∈ cs, ∃ ps : Array Value, t.heap.get? p.2 = some { cls := .none, data := .fields ps } := fun p hp => let ⟨_, q⟩ := un.tbls p.2 #[] (hH p hp); ⟨_, hok' p.2 _ q⟩
    refine ⟨rfl, ⟨fun b o e => ?_, fun b o e => ?_⟩, os, bare⟩
    · by_cases tb : b ∈ cs.map (·.2)
      · obtain ⟨p, hp, rfl⟩ := List.mem_map.mp tb
        obtain ⟨ps, q⟩ := more p hp
        rw [tab p hp] at e
        cases e
        exact .inr (.inl ⟨((code p hp).tab (tab p hp)).isCodeTable, rfl, #[], ps, rfl, by rw [Array.empty_append]; exact q⟩)
      · exact .inl (out b o tb e)
    · by_cases tb : b ∈ cs.map (·.2)
      · obtain ⟨p, hp, rfl⟩ := List.mem_map.mp tb
        exact let ⟨_, q⟩ := more p hp; ⟨_, q⟩
      · exact ⟨o, out b o tb e⟩
/-- what is known of the law's promise at the head's heap h -/
def LawAtG (l : PySem.W.OpenLaw) (w : World) (K : PySem.W.Frag) (CX : CXT) (k n : Nat) (x : Str) (mg : Str → Option Value) (f : Addr) (h : Heap) : Prop :=
  ∃ (fd : FuncData) (cs : List (Addr × Addr)) (sp : Sp), (∀ p ∈ cs, h.get? p.2 = some { cls := .none, data := .fields #[] }) ∧ (∀ p ∈ cs, K.lookup p.2 = none) ∧ (∀ p ∈ cs, PySem.W.CodeHd h p.1 p.2) ∧ (∀ (t : Shared) (u : Value), BindsTo t fd ⟨[u], []⟩ [(x, u)]) ∧
    (∀ (H : Hp) (a : Addr) (ns : List Int), ns.length ≤ n → (∀ i ∈ ns, Builtin.Int.intBits i ≤ 1048576) → (∀ p ∈ cs, H p.2 = some (.tbl #[])) → SqL K H a (ns.map V.int) → sp [.ref a] H (fun v _ => v = .bl true) fun _ _ _ => False) ∧
    ∀ b0 : Heap, K.In b0 → b0.Ns mainGlobals mg → (∀ p ∈ cs, TabB b0 mg p.1 p.2) → FnG l.prog w K mg b0 CX k f fd [x] sp
theorem walk_G {l : PySem.W.OpenLaw} {n k : Nat} {q : Program} {loose : List Str} {XP : (Str → Option Value) → Heap → Prop} {YP : World → Heap → Prop} {d : DefRec} {CX : World → CXT} {x : Str} (hn : l.most = some n) (hl : n ≤ sizeLine) (hd : d.params.defaults = []) (room : Room k callerA)
    (F : ∀ (w : World) (mg : Str → Option Value) (f : Addr) (h : Heap), YP w h → h.Ns mainGlobals mg → mg d.name = some (.ref f) → ∃ K : PySem.W.Frag, K.In h ∧ LawAtG l w K (CX w) k n x mg f h) (noex : ∀ (w : World) (H : Hp) (z : Shared) (e : Value) (t : Shared), CX w [] H z (fun _ _ _ => False) e t → False) :
    PySem.W.WalkO q loose XP YP l.row.toRowW d [] (fun f vs => PySem.call f vs) := by
  refine Att.attach_callB hn hd fun w z0 z mg mb f o pm cd doc a us ns G Y o1 o2 o3 hmg obj nums len bits gens => ?_
  obtain ⟨K, kin, fd, cs, sp, c1, c2, c3, c4, c5, c6⟩ := F w mg f _ Y G.T.g hmg
  exact law_callG kin G.T.g G.T.b G.T.builtins G.T.nolimit gens c1 c2 c3 G.T.bmain obj nums (Nat.le_trans len hl) room c6 c4 (fun H hH hS => c5 H a ns len bits hH hS) fun H e t => noex w H z e t
end LamX
set_option Elab.async false
set_option linter.all false
set_option maxRecDepth 100000
set_option maxHeartbeats 1000000
namespace DL
open PySem PySem.Spec PyProof.Rows L2
/-! ### defs over data -/
inductive FOut where
  | ret (r : DV) (S : Src)
  | ex (e : D) (S : Src)
abbrev Fn := List D → Src → Option FOut
/-- a body as a def: n slots -/
def mkF (n : Nat) (m : M Fl) : Fn := fun ds S => match m (ds.map (fun d => some (.sh d)) ++ List.replicate (n - ds.length) none) S with
  | some (.ok (.ret r) _ S') => some (.ret r S')
  | some (.ok .nx _ S') => some (.ret (.sh .non) S')
  | some (.ok _ _ _) => none
  | some (.ex e _ S') => some (.ex e S')
  | none => none
def exA (sd cl : Addr) (T : List Addr) (a : Addr) : Prop := a = sd ∨ a = cl ∨ a ∈ T
/-- at a call -/
structure FPre (K : PySem.W.Frag) (sd cl : Addr) (T : List Addr) (ds : List D) (S : Src) (vs : List V) (H : Hp) (Fz : Addr → Prop) : Prop where
  args : AtL K sd H Fz vs ds
  src : SrcAt H sd cl S
  fzx : ∀ a, Fz a → ¬ exA sd cl T a
  fzt : ∀ a, Fz a → H a ≠ none
  tab : ∀ t ∈ T, GxR.TabG H t
/-- behind it -/
structure FPost (K : PySem.W.Frag) (sd cl : Addr) (T : List Addr) (H : Hp) (Fz : Addr → Prop) (S' : Src) (H' : Hp) (Fz' : Addr → Prop) : Prop where
  keep : ∀ a o, H a = some o → ¬ exA sd cl T a → H' a = some o
  new : ∀ a, H' a = none → H a = none
  sub : ∀ a, Fz a → Fz' a
  fz : ∀ a o, H a = some o → Fz' a → Fz a
  src : SrcAt H' sd cl S'
  fzx : ∀ a, Fz' a → ¬ exA sd cl T a
  fzt : ∀ a, Fz' a → H' a ≠ none
  tab : ∀ t ∈ T, GxR.TabG H' t
def FVal (K : PySem.W.Frag) (sd cl : Addr) (T : List Addr) (H H' : Hp) (Fz' : Addr → Prop) (v : V) : DV → Prop
  | .sh d => At K sd H' Fz' v d
  | .ow d => ∃ p, v = .ref p ∧ OwnC K sd H' Fz' p d ∧ ¬ Fz' p ∧ ¬ exA sd cl T p ∧ H p = none
def spF (K : PySem.W.Frag) (T : List Addr) (n : Nat) (F : Fn) : Sp := fun vs H Q _ => vs.length = n ∧ ∃ ds S Fz sd cl, FPre K sd cl T ds S vs H Fz ∧
  ∃ r S', F ds S = some (.ret r S') ∧ ∀ v H' Fz', FPost K sd cl T H Fz S' H' Fz' → FVal K sd cl T H H' Fz' v r → Q v H'
theorem atL_sh {g : G} {H : Hp} {Fz : Addr → Prop} : ∀ {vs : List V} {ds : List D} {k : Nat} {i : Nat} {d : D}, AtL g.K g.sd H Fz vs ds → (ds.map (fun d => some (DV.sh d)) ++ List.replicate k none)[i]? = some (some (DV.sh d)) → ∃ v, (vs.map some ++ List.replicate k none)[i]? = some (some v) ∧ At g.K g.sd H Fz v d := fun {vs ds k i d} l h => by
  by_cases hi : i < ds.length
  · rw [List.getElem?_append_left (by rw [List.length_map]; exact hi), List.getElem?_map] at h
    obtain ⟨x, hx, e⟩ := Option.map_eq_some_iff.mp h
    cases e
    obtain ⟨v, hv, a⟩ := l.get hx
    exact ⟨v, by rw [List.getElem?_append_left (by rw [List.length_map, l.length]; exact hi), List.getElem?_map, hv]; rfl, a⟩
  · rw [List.getElem?_append_right (by rw [List.length_map]; omega), List.getElem?_replicate] at h
    split at h <;> cases h
theorem atL_ow {ds : List D} {k i : Nat} {d : D} (h : (ds.map (fun d => some (DV.sh d)) ++ List.replicate k none)[i]? = some (some (DV.ow d))) : False := by
  by_cases hi : i < ds.length
  · rw [List.getElem?_append_left (by rw [List.length_map]; exact hi), List.getElem?_map] at h
    obtain ⟨x, hx, e⟩ := Option.map_eq_some_iff.mp h
    cases e
  · rw [List.getElem?_append_right (by rw [List.length_map]; omega), List.getElem?_replicate] at h
    split at h <;> cases h
/-- THE RULE for a def: its body as a run over data -/
theorem fn_ok {P : Program} {w : World} {K : PySem.W.Frag} {mg : Str → Option Value} {base : Heap} {x qual : Str} {st : Stmt} {f : Addr} {fd : FuncData} {N ps : List Str} {k n : Nat} {T : List Addr} {m : M Fl}
    (F : Fun K x qual st f fd) (Sc : FnScope N ps (defScope st)) (hn : ps.length = n) (hN : N.length = nN)
    (body : ∀ (cdv : Value) (A : Around) (outer : List PySem.Env) (s : Shared) (H : Hp) (E : XK) (g : G), g.K = K → g.T = T → g.rz = false → A.guards = some [] → Room k (A.deeper (envOfC qual (defScope st) s.heap.objs.size f cdv)) →
      DSs (cxOf CX0 P w K mg base N qual (defScope st) f cdv A outer s H E).nox g (defBody st) m) :
    FnG P w K mg base CX0 (k + 1) f fd ps (spF K T n (mkF nN m)) := by
  subst hN
  refine F.okG Sc (fun vs H Q E h => h.1.trans hn.symm) fun cdv A outer s H vs Q E ga hr h => ?_
  obtain ⟨hl, ds, S, Fz, sd, cl, pre, r, S', hF, q⟩ := h
  have lds : vs.length = ds.length := pre.args.length
  refine ⟨_, (body cdv A outer s H E ⟨K, sd, cl, T, H, Fz, fun _ _ _ => False, false⟩ rfl rfl rfl ga hr).nox, ?_⟩
  refine ⟨ds.map (fun d => some (.sh d)) ++ List.replicate (N.length - ds.length) none, S, Fz, ?_, ?_⟩
  · refine ⟨?_, fun i d h => ?_, fun i d h => (atL_ow h).elim, fun i j d e a h => (atL_ow h).elim, pre.src, pre.fzx, pre.fzt, fun a o h _ => h, fun a h => h, fun a o _ h => h, pre.tab⟩
    · show _ = (L2.start N vs).length
      unfold L2.start
      rw [List.length_append, List.length_append, List.length_map, List.length_map, List.length_replicate, List.length_replicate, lds]
    · unfold L2.start
      rw [lds]
      exact atL_sh (g := ⟨K, sd, cl, T, H, Fz, fun _ _ _ => False, false⟩) pre.args h
  · unfold mkF at hF
    unfold wp
    have fin : ∀ {ρ' : Env} {S' : Src} {σ' : L2.St} {H' : Hp} {Fz' : Addr → Prop}, SI ⟨K, sd, cl, T, H, Fz, fun _ _ _ => False, false⟩ ρ' S' σ' H' Fz' → KF H Fz H' Fz' → FPost K sd cl T H Fz S' H' Fz' := fun I k =>
      ⟨fun a o h e => I.ext a o h e, k.new, k.sub, fun a o h f => I.fzn a o h f, I.src, I.fzx, I.fzt, I.tab⟩
    cases hm : m (ds.map (fun d => some (.sh d)) ++ List.replicate (N.length - ds.length) none) S with
    | none => rw [hm] at hF; cases hF
    | some o =>
      rw [hm] at hF
      cases o with
      | ex e ρ1 S1 => cases hF
      | ok a ρ1 S1 =>
        cases a with
        | nx =>
          cases hF
          exact fun σ' H' Fz' I k => q .non H' Fz' (fin I k) .non
        | bk => cases hF
        | ct => cases hF
        | ret r1 =>
          cases hF
          refine fun v σ' H' Fz' I k a => q v H' Fz' (fin I k) ?_
          cases r with
          | sh d => exact a
          | ow d =>
            obtain ⟨p, e, c, nf, no, nx, hn⟩ := a
            exact ⟨p, e, c, nf, nx, hn⟩
/-! ### purity: data without lists, dicts -/
mutual
def pur : D → Bool
  | .tup xs => purs xs
  | .lst _ => false
  | .dic _ => false
  | _ => true
def purs : List D → Bool
  | [] => true
  | d :: ds => pur d && purs ds
end
mutual
theorem At.pure {K : PySem.W.Frag} {sd : Addr} {H : Hp} {Fz Fz' : Addr → Prop} : ∀ {v : V} {d : D}, At K sd H Fz v d → pur d = true → At K sd H Fz' v d
  | _, _, .non, _ => .non
  | _, _, .bl b, _ => .bl b
  | _, _, .int b, _ => .int b
  | _, _, .str b h, _ => .str b h
  | _, _, .tup e l, h => .tup e (AtL.pure l (by simpa only [pur] using h))
  | _, _, .tupK e l, h => .tupK e (AtL.pure l (by simpa only [pur] using h))
  | _, _, .lst e _ l, h => by simp only [pur] at h; cases h
  | _, _, .dic e _ l, h => by simp only [pur] at h; cases h
  | _, _, .src, _ => .src
theorem AtL.pure {K : PySem.W.Frag} {sd : Addr} {H : Hp} {Fz Fz' : Addr → Prop} : ∀ {v : List V} {d : List D}, AtL K sd H Fz v d → purs d = true → AtL K sd H Fz' v d
  | _, _, .nil, _ => .nil
  | _, _, .cons a l, h => by
    simp only [purs, Bool.and_eq_true] at h
    exact .cons (At.pure a h.1) (AtL.pure l h.2)
end
def purV : DV → Bool
  | .sh d => pur d
  | .ow (.lst ds) => purs ds
  | .ow _ => false
/-! ### calls -/
/-- the arguments, as they stand when the call begins; own objects are lent -/
def lendR : List Opd → Env → Option (List D × Env)
  | [], ρ => some ([], ρ)
  | .val d :: os, ρ => match lendR os ρ with
    | some (ds, ρ') => some (d :: ds, ρ')
    | none => none
  | .slot i :: os, ρ => match ρ[i]? with
    | some (some dv) => (match lendR os (ρ.set i (some (.sh dv.d))) with
      | some (ds, ρ') => some (dv.d :: ds, ρ')
      | none => none)
    | _ => none
def callF (F : Fn) (os : List Opd) : M DV := fun ρ S => match lendR os ρ with
  | none => none
  | some (ds, ρL) => match F ds S with
    | some (.ret r S') => some (.ok r (if purV r = true then ρ else ρL) S')
    | some (.ex e S') => some (.ex e ρL S')
    | none => none
def mCall (F : Fn) (ma : M (List Opd)) : M DV := ma >>= callF F
section
variable {X : Cx} {g : G} {ρ ρ1 ρ2 : Env} {S S1 S2 S' : Src} {σ : L2.St} {H H1 H2 H' : Hp} {Fz Fz1 Fz2 Fz' : Addr → Prop} {Q : VK}
theorem set_get {α : Type} {l : List α} {i : Nat} {x : α} (h : l[i]? = some x) : l.set i x = l := by
  apply List.ext_getElem?
  intro j
  rw [List.getElem?_set]
  by_cases e : i = j
  · subst e
    rw [if_pos rfl, if_pos (lt_of_get h), h]
  · rw [if_neg e]
theorem lend_ok : ∀ {os : List Opd} {vs : List V} {ρ : Env} {Fz : Addr → Prop} {ds : List D} {ρL : Env}, SI g ρ S σ H Fz → VOs g σ H Fz vs os → lendR os ρ = some (ds, ρL) → ∃ FL, AtL g.K g.sd H FL vs ds ∧ SI g ρL S σ H FL ∧ Kx g ρ ρL σ H Fz H FL
  | [], _, ρ, Fz, ds, ρL, I, .nil, h => by cases h; exact ⟨Fz, .nil, I, Kx.refl⟩
  | .val d :: os, _, ρ, Fz, ds, ρL, I, .cons a l, h => by
    unfold lendR at h
    cases e : lendR os ρ with
    | none => rw [e] at h; cases h
    | some p =>
      obtain ⟨ds', ρ'⟩ := p
      rw [e] at h
      cases h
      obtain ⟨FL, l1, I1, k1⟩ := lend_ok I l e
      exact ⟨FL, .cons (At.kf (k1.kf I) a) l1, I1, k1⟩
  | .slot i :: os, _, ρ, Fz, ds, ρL, I, .cons a l, h => by
    unfold lendR at h
    cases ei : ρ[i]? with
    | none => rw [ei] at h; cases h
    | some y =>
      cases y with
      | none => rw [ei] at h; cases h
      | some dv =>
        rw [ei] at h
        simp only at h
        cases e : lendR os (ρ.set i (some (.sh dv.d))) with
        | none => rw [e] at h; cases h
        | some p =>
          obtain ⟨ds', ρ'⟩ := p
          rw [e] at h
          cases h
          have a' : σ[i]? = some (some _) := a
          cases dv with
          | sh d =>
            rw [show ρ.set i (some (DV.sh (DV.sh d).d)) = ρ from set_get ei] at e
            obtain ⟨FL, l1, I1, k1⟩ := lend_ok I l e
            obtain ⟨w, ew, aw⟩ := I.sh i d ei
            rw [a'] at ew
            cases ew
            exact ⟨FL, .cons (At.kf (k1.kf I) aw) l1, I1, k1⟩
          | ow d =>
            obtain ⟨b, eb, cb, _⟩ := I.ow i d ei
            rw [a'] at eb
            cases eb
            have I0 := I.give ei a'
            have k0 := Kx.give I ei a'
            obtain ⟨FL, l1, I1, k1⟩ := lend_ok I0 (l.kx I k0) e
            exact ⟨FL, .cons (At.kf (k1.kf I0) ((cb.kf kf_fzp (fun _ h => h)).at (.inr rfl))) l1, I1, k0.trans k1⟩
theorem FPost.kf (I : SI g ρ S σ H Fz) (p : FPost g.K g.sd g.cl g.T H Fz S' H' Fz') : KF H Fz H' Fz' :=
  ⟨p.sub, fun a o f h => p.keep a o h (I.fzx a f), fun a xs h => p.keep a _ h (I.tex h), p.new⟩
theorem SI.call (I : SI g ρ S σ H Fz) (p : FPost g.K g.sd g.cl g.T H Fz S' H' Fz') : SI g ρ S' σ H' Fz' where
  len := I.len
  sh := fun i d h => let ⟨v, e, a⟩ := I.sh i d h; ⟨v, e, a.kf (p.kf I)⟩
  ow := fun i d h => by
    obtain ⟨a, e, c, nf, nx, n0⟩ := I.ow i d h
    refine ⟨a, e, c.kf (p.kf I) (fun o ho => p.keep a o ho nx), fun z => ?_, nx, n0⟩
    cases eo : H a with
    | none => exact c.trk eo
    | some o => exact nf (p.fz a o eo z)
  dis := I.dis
  src := p.src
  fzx := p.fzx
  fzt := p.fzt
  ext := fun a o h e => p.keep a o (I.ext a o h e) e
  fz0 := fun a h => p.sub a (I.fz0 a h)
  fzn := fun a o h f => by
    by_cases e : g.ex a
    · exact (p.fzx a f e).elim
    · exact I.fzn a o h (p.fz a o (I.ext a o h e) f)
  tab := p.tab
theorem Kx.call (p : FPost g.K g.sd g.cl g.T H Fz S' H' Fz') : Kx g ρ ρ σ H Fz H' Fz' := ⟨fun a o h _ e => p.keep a o h e, p.new, p.sub, fun a o h f => .inl (p.fz a o h f), fun _ h => h⟩
/-- a call: what the callee leaves -/
theorem call_fin {T : List Addr} {F : Fn} {os : List Opd} {vs : List V} {n : Nat} {E : XK} (hT : g.T = T) (hn : os.length = n) (I2 : SI g ρ2 S2 σ H2 Fz2) (k : Kx g ρ ρ2 σ H Fz H2 Fz2) (a : VOs g σ H2 Fz2 vs os) (I : SI g ρ S σ H Fz)
    (hw : wp (callF F os) ρ2 S2 (fun r ρ' S' => ∀ v H' Fz', SI g ρ' S' σ H' Fz' → Kx g ρ ρ' σ H Fz H' Fz' → VAt g ρ' σ H H' Fz' v r → Q v H') (fun _ _ _ => False)) : spF g.K T n F vs H2 Q E := by
  subst hT
  have hl : ∀ {vs : List V} {os : List Opd}, VOs g σ H2 Fz2 vs os → vs.length = os.length := by
    intro vs os h
    induction h with
    | nil => rfl
    | cons _ _ ih => rw [List.length_cons, List.length_cons, ih]
  refine ⟨(hl a).trans hn, ?_⟩
  unfold wp callF at hw
  cases e : lendR os ρ2 with
  | none => rw [e] at hw; exact hw.elim
  | some p =>
    obtain ⟨ds, ρL⟩ := p
    rw [e] at hw
    simp only at hw
    cases eF : F ds S2 with
    | none => rw [eF] at hw; exact hw.elim
    | some o =>
      rw [eF] at hw
      cases o with
      | ex e1 S1 => exact hw.elim
      | ret r S' =>
        simp only at hw
        obtain ⟨FL, l1, I1, k1⟩ := lend_ok I2 a e
        refine ⟨ds, S2, FL, g.sd, g.cl, ⟨l1, I1.src, I1.fzx, I1.fzt, I1.tab⟩, r, S', eF, fun v H' Fz' post val => ?_⟩
        by_cases pu : purV r = true
        · rw [if_pos pu] at hw
          have post2 : FPost g.K g.sd g.cl g.T H2 Fz2 S' H' Fz2 := ⟨post.keep, post.new, fun _ h => h, fun _ _ _ h => h, post.src, I2.fzx, fun b h z => I2.fzt b h (post.new b z), post.tab⟩
          refine hw v H' Fz2 (I2.call post2) (k.trans (Kx.call post2)) ?_
          cases r with
          | sh d => exact At.pure val pu
          | ow d =>
            obtain ⟨p, rfl, c, nf, nx, hp⟩ := val
            refine ⟨p, rfl, ?_, fun z => nf (post.sub p (k1.sub p z)), I2.nO hp, nx, k.new p hp⟩
            cases c with
            | lst eh el => exact .lst eh (AtL.pure el pu)
            | dic eh el => cases pu
        · rw [if_neg pu] at hw
          refine hw v H' Fz' (I1.call post) ((k.trans k1).trans (Kx.call post)) ?_
          cases r with
          | sh d => exact val
          | ow d =>
            obtain ⟨p, rfl, c, nf, nx, hp⟩ := val
            exact ⟨p, rfl, c, nf, I1.nO hp, nx, k.new p hp⟩
/-- all that is known of a def of the module -/
structure FnA (P : Program) (w : World) (K : PySem.W.Frag) (mg : Str → Option Value) (base : Heap) (T : List Addr) (k : Nat) (x : Str) (ps : List Str) (F : Fn) : Prop where
  ex : ∃ f fd, FnG P w K mg base CX0 k f fd ps (spF K T ps.length F) ∧ mg x = some (.ref f) ∧ PySem.W.keepIn K (.ref f) = true ∧ Binds K fd ps []
theorem FnA.mono {P : Program} {w : World} {K : PySem.W.Frag} {mg : Str → Option Value} {base : Heap} {T : List Addr} {j k : Nat} {x : Str} {ps : List Str} {F : Fn} (A : FnA P w K mg base T j x ps F) (h : j ≤ k) : FnA P w K mg base T k x ps F :=
  let ⟨f, fd, a, b⟩ := A.ex; ⟨f, fd, a.mono h, b⟩
/-- an argument list has its length -/
def ALen (m : M (List Opd)) (n : Nat) : Prop := ∀ ρ S Q E, wp m ρ S Q E → wp m ρ S (fun os ρ' S' => os.length = n ∧ Q os ρ' S') E
theorem alen_nil : ALen aNil 0 := fun ρ S Q E h => ⟨rfl, h⟩
theorem alen_cons {m : M Opd} {ms : M (List Opd)} {n : Nat} (h : ALen ms n) : ALen (aCons m ms) (n + 1) := fun ρ S Q E q => by
  unfold aCons at q ⊢
  rw [wp_bind] at q ⊢
  refine wp_mono q (fun o ρ1 S1 h1 => ?_) fun _ _ _ z => z
  rw [wp_bind] at h1 ⊢
  exact wp_mono (h _ _ _ _ h1) (fun os ρ2 S2 h2 => ⟨by rw [List.length_cons, h2.1], h2.2⟩) fun _ _ _ z => z
theorem de_call {k : Nat} {ps : List Str} {F : Fn} {x : Str} {p pos : Pos} {e : Expr} {es : List Expr} {ma : M (List Opd)} (hK : X.K = g.K)
    (A : FnA X.prog X.w X.K X.mg X.base g.T k x ps F) (ga : X.A.guards = some []) (hr : Room k X.A) (hg : Gl X x)
    (ha : DA X g (e :: es) ma) (hos : ALen ma ps.length) (hz : g.rz = false)
    (hdb : (x == ("__debug__" : Str)) = false := by decide) (he : starEach (e :: es) X.env = (false, eval e X.env) :: starEach es X.env := by rfl) (hpl : (backTo pos (starEach es X.env)).any (·.1) = false := by rfl) :
    DE X g (.Call (.Name x p) (e :: es) [] pos) (mCall F ma) :=
  let ⟨_, _, FO, hm, hk, hb⟩ := A.ex
  PE.imp (pe_callG FO ga hr hg hm hk hb pass0 ha hdb he hpl) fun σ H Q ⟨ρ, S, Fz, I, hw⟩ => by
    unfold mCall at hw
    rw [wp_bind] at hw
    refine ⟨ρ, S, Fz, I, wp_mono (hos _ _ _ _ hw) (fun os ρ2 S2 h vs H2 Fz2 I2 k2 a2 => ?_) fun _ _ _ z => z⟩
    show spF X.K g.T ps.length F vs H2 Q E0
    rw [hK]
    exact call_fin rfl h.1 I2 k2 a2 I (wp_mono h.2 (fun _ _ _ q => q) fun e ρ3 S3 z => by have z1 := z.1; rw [hz] at z1; cases z1)
end
end DL
set_option Elab.async false
set_option linter.all false
set_option maxRecDepth 100000
set_option maxHeartbeats 1000000
namespace DL
open PySem PySem.Spec PyProof.Rows L2
section
variable {X : Cx} {g : G} {ρ ρ' ρ0 ρ1 ρ2 : Env} {S S1 S2 S' : Src} {σ σ' : L2.St} {H H1 H2 H' : Hp} {Fz Fz1 Fz2 Fz' : Addr → Prop} {Q : VK}
/-! ### what is walked -/
theorem PI.or {tg e : Expr} {t t' : TI} (h : PI X tg e t) (h' : PI X tg e t') : PI X tg e (fun σ H R => t σ H R ∨ t' σ H R) := ⟨fun pins s σ H R I q => q.elim (h.run pins s σ H R I) (h'.run pins s σ H R I)⟩
def seqD : D → Option (List D)
  | .lst ds => some ds
  | .tup ds => some ds
  | _ => none
theorem sqT_kf {K : PySem.W.Frag} {a : Addr} {xs : List V} (k : KF H1 Fz1 H Fz) (h : H1 a = some (.tup xs) ∨ ∀ H', SqT K H' a xs) : SqT K H a xs := h.elim (fun e => SqT.of (k.tup _ _ e)) (fun e => e H)
theorem itOk_tup {a : Addr} {xs : List V} {ds : List D} (h : H1 a = some (.tup xs) ∨ ∀ H', SqT g.K H' a xs) (l : AtL g.K g.sd H1 Fz1 xs ds) : ItOk g (Itt g.K a) ds H1 Fz1 := by
  refine ⟨fun H Fz i k hi => ?_, fun H Fz i d x H' k hd y => ?_, fun H Fz k => ⟨xs, sqT_kf k h, Nat.le_of_eq l.length⟩⟩
  · have hx : i < xs.length := by rw [l.length]; exact hi
    exact ⟨xs, xs[i], sqT_kf k h, List.getElem?_eq_getElem hx⟩
  · obtain ⟨rfl, y⟩ := y
    obtain ⟨w, hw, aw⟩ := l.get hd
    rw [y xs (sqT_kf k h)] at hw
    cases hw
    exact ⟨New.refl, aw.kf k⟩
theorem itOk_lst {a : Addr} {xs : List V} {ds : List D} (h : H1 a = some (.lst xs)) (f : Fz1 a) (l : AtL g.K g.sd H1 Fz1 xs ds) : ItOk g (Itl g.K a) ds H1 Fz1 := by
  have sq : ∀ {H Fz}, KF H1 Fz1 H Fz → SqL g.K H a xs := fun k => SqL.of (k.fz _ _ f h)
  refine ⟨fun H Fz i k hi => ?_, fun H Fz i d x H' k hd y => ?_, fun H Fz k => ⟨xs, sq k, Nat.le_of_eq l.length⟩⟩
  · have hx : i < xs.length := by rw [l.length]; exact hi
    exact ⟨xs, xs[i], sq k, List.getElem?_eq_getElem hx⟩
  · obtain ⟨rfl, y⟩ := y
    obtain ⟨w, hw, aw⟩ := l.get hd
    rw [y xs (sq k)] at hw
    cases hw
    exact ⟨New.refl, aw.kf k⟩
theorem tupA {v : V} {ds : List D} (h : At g.K g.sd H Fz v (.tup ds)) : ∃ a xs, v = .ref a ∧ (H a = some (.tup xs) ∨ ∀ H', SqT g.K H' a xs) ∧ AtL g.K g.sd H Fz xs ds := by
  cases h with
  | tup e l => exact ⟨_, _, rfl, .inl e, l⟩
  | tupK e l => exact ⟨_, _, rfl, .inr e, l⟩
theorem lstA {v : V} {ds : List D} (h : At g.K g.sd H Fz v (.lst ds)) : ∃ a xs, v = .ref a ∧ H a = some (.lst xs) ∧ Fz a ∧ AtL g.K g.sd H Fz xs ds := by
  cases h with
  | lst e f l => exact ⟨_, _, rfl, e, f, l⟩
/-- a list or a tuple -/
def mSq (m : M DV) : M (List D) := m >>= fun r => M.of (seqD r.d)
theorem di_seq {tg e : Expr} {m : M DV} (hK : X.K = g.K) (h : DE X g e m) : DI X g tg e (mSq m) :=
  PI.imp (PI.or (pi_list h) (pi_tup h)) fun σ H R ⟨ρ, S, Fz, I, hw⟩ => by
    unfold mSq at hw
    rw [wp_bind] at hw
    -- the kind is told by the run
    cases hm : m ρ S with
    | none => unfold wp at hw; rw [hm] at hw; exact hw.elim
    | some o =>
      have hw0 := hw
      unfold wp at hw
      rw [hm] at hw
      cases o with
      | ex e1 ρ1 S1 => exact .inl ⟨ρ, S, Fz, I, by unfold wp; rw [hm]; exact hw⟩
      | ok r ρ1 S1 =>
        obtain ⟨ds, e1, q⟩ := wp_of.mp hw
        have sw : ∀ (P : Po DV), P r ρ1 S1 → wp m ρ S P (XE g H Fz) := fun P p => by unfold wp; rw [hm]; exact p
        cases hr : r.d with
        | lst xs =>
          rw [hr] at e1
          cases e1
          refine .inl ⟨ρ, S, Fz, I, sw _ fun v H1 Fz1 I1 k1 a1 => ?_⟩
          obtain ⟨F2, I2, k2, a2⟩ := share I1 k1 a1 (fun p z => I.n0 z)
          rw [hr] at a2
          obtain ⟨a, ys, rfl, ea, fa, l⟩ := lstA a2
          exact ⟨a, rfl, ⟨ys, SqL.of ea⟩, by rw [hK]; exact q _ H1 F2 I2 k2 (itOk_lst ea fa l)⟩
        | tup xs =>
          rw [hr] at e1
          cases e1
          refine .inr ⟨ρ, S, Fz, I, sw _ fun v H1 Fz1 I1 k1 a1 => ?_⟩
          obtain ⟨F2, I2, k2, a2⟩ := share I1 k1 a1 (fun p z => I.n0 z)
          rw [hr] at a2
          obtain ⟨a, ys, rfl, ea, l⟩ := tupA a2
          exact ⟨a, rfl, ⟨ys, by rw [hK]; exact sqT_kf (Fz1 := F2) (Fz := F2) KF.refl ea⟩, by rw [hK]; exact q _ H1 F2 I2 k2 (itOk_tup ea l)⟩
        | _ => rw [hr] at e1; cases e1
/-- ranges -/
def resL : List Opd → M (List D)
  | [] => pure []
  | o :: os => res o >>= fun d => resL os >>= fun ds => pure (d :: ds)
inductive ContL (g : G) (H : Hp) (Fz : Addr → Prop) : List V → List D → Prop
  | nil : ContL g H Fz [] []
  | cons {v : V} {vs : List V} {d : D} {ds : List D} : Cont g H Fz v d → ContL g H Fz vs ds → ContL g H Fz (v :: vs) (d :: ds)
theorem wp_resL (I : SI g ρ S σ H Fz) : ∀ {os : List Opd} {vs : List V}, VOs g σ H Fz vs os → ∀ {Q : Po (List D)} {E : Po D}, wp (resL os) ρ S Q E → ∃ ds, ContL g H Fz vs ds ∧ Q ds ρ S
  | [], _, .nil, Q, E, q => ⟨[], .nil, q⟩
  | o :: os, _, .cons a l, Q, E, q => by
    unfold resL at q
    rw [wp_bind] at q
    obtain ⟨d, c, q⟩ := wp_res I a q
    rw [wp_bind] at q
    obtain ⟨ds, cs, q⟩ := wp_resL I l q
    exact ⟨d :: ds, .cons c cs, q⟩
def rangeL (lo : Int) (n : Nat) : List D := (List.range n).map fun i => .int (lo + (i : Nat))
theorem itOk_range {lo : Int} {n : Nat} : ItOk g (Itr lo n) (rangeL lo n) H1 Fz1 := by
  have hl : (rangeL lo n).length = n := by unfold rangeL; rw [List.length_map, List.length_range]
  refine ⟨fun H Fz i k hi => by rw [hl] at hi; exact hi, fun H Fz i d x H' k hd y => ?_, fun H Fz k => by rw [hl]; exact Nat.le_refl _⟩
  obtain ⟨rfl, rfl⟩ := y
  unfold rangeL at hd
  rw [List.getElem?_map] at hd
  obtain ⟨j, hj, rfl⟩ := Option.map_eq_some_iff.mp hd
  have : j = i := by
    rw [List.getElem?_range (by have := (List.getElem?_eq_some_iff.mp hj).1; rw [List.length_range] at this; exact this)] at hj
    exact (Option.some.inj hj).symm
  subst this
  exact ⟨New.refl, .int _⟩
def rg1 : List D → Option (List D)
  | [.int j] => if -(2 ^ 62) ≤ j ∧ j < 2 ^ 62 then some (rangeL 0 j.toNat) else none
  | _ => none
def rg2 : List D → Option (List D)
  | [.int i, .int j] => if -(2 ^ 62) ≤ i ∧ i < 2 ^ 62 ∧ -(2 ^ 62) ≤ j ∧ j < 2 ^ 62 then some (rangeL i (j - i).toNat) else none
  | _ => none
def mRg (f : List D → Option (List D)) (ma : M (List Opd)) : M (List D) := ma >>= fun os => resL os >>= fun ds => M.of (f ds)
theorem di_range1 {tg a : Expr} {p pos : Pos} {ma : M (List Opd)} (hg : Gl X "range") (hm : X.mg "range" = none) (ha : DA X g [a] ma) (hs : starEach [a] X.env = [(false, eval a X.env)] := by rfl) : DI X g tg (.Call (.Name "range" p) [a] [] pos) (mRg rg1 ma) :=
  PI.imp (pi_range1 hg hm ha hs) fun σ H R ⟨ρ, S, Fz, I, hw⟩ => by
    unfold mRg at hw
    rw [wp_bind] at hw
    refine ⟨ρ, S, Fz, I, wp_mono hw (fun os ρ1 S1 h1 vs H1 Fz1 I1 k1 a1 => ?_) fun _ _ _ z => z⟩
    rw [wp_bind] at h1
    obtain ⟨ds, c, h1⟩ := wp_resL I1 a1 h1
    obtain ⟨l, e, q⟩ := wp_of.mp h1
    unfold rg1 at e
    split at e
    · rename_i j
      cases c with
      | cons c cs =>
        cases cs
        split at e
        · rename_i hj
          cases e
          exact ⟨j, by rw [c_int c], hj.1, hj.2, q _ H1 Fz1 I1 k1 itOk_range⟩
        · cases e
    · cases e
theorem di_range2 {tg a b : Expr} {p pos : Pos} {ma : M (List Opd)} (hg : Gl X "range") (hm : X.mg "range" = none) (ha : DA X g [a, b] ma) (hs : starEach [a, b] X.env = [(false, eval a X.env), (false, eval b X.env)] := by rfl) (hs2 : starEach [b] X.env = [(false, eval b X.env)] := by rfl) :
    DI X g tg (.Call (.Name "range" p) [a, b] [] pos) (mRg rg2 ma) :=
  PI.imp (pi_range2 hg hm ha hs hs2) fun σ H R ⟨ρ, S, Fz, I, hw⟩ => by
    unfold mRg at hw
    rw [wp_bind] at hw
    refine ⟨ρ, S, Fz, I, wp_mono hw (fun os ρ1 S1 h1 vs H1 Fz1 I1 k1 a1 => ?_) fun _ _ _ z => z⟩
    rw [wp_bind] at h1
    obtain ⟨ds, c, h1⟩ := wp_resL I1 a1 h1
    obtain ⟨l, e, q⟩ := wp_of.mp h1
    unfold rg2 at e
    split at e
    · rename_i i j
      cases c with
      | cons c cs =>
        cases cs with
        | cons c2 cs =>
          cases cs
          split at e
          · rename_i hj
            cases e
            exact ⟨i, j, by rw [c_int c, c_int c2], hj, q _ H1 Fz1 I1 k1 itOk_range⟩
          · cases e
    · cases e
/-! ### comprehensions -/
def wipeE (ρ : Env) : List Nat → Env
  | [] => ρ
  | v :: vs => (wipeE ρ vs).set v none
theorem wipeE_len (ρ : Env) : ∀ vs, (wipeE ρ vs).length = ρ.length
  | [] => rfl
  | v :: vs => by unfold wipeE; rw [List.length_set, wipeE_len ρ vs]
theorem wipeE_some {i : Nat} {x : DV} : ∀ {vs : List Nat}, (wipeE ρ vs)[i]? = some (some x) → ρ[i]? = some (some x) ∧ i ∉ vs
  | [], h => ⟨h, by simp⟩
  | v :: vs, h => by
    unfold wipeE at h
    rcases get_set h with ⟨_, z, _⟩ | ⟨ne, h⟩
    · cases z
    · obtain ⟨h1, h2⟩ := wipeE_some h
      exact ⟨h1, by simp only [List.mem_cons, not_or]; exact ⟨fun e => ne e.symm, h2⟩⟩
theorem wipe_out {i : Nat} : ∀ {vs : List Nat}, i ∉ vs → (wipe σ vs)[i]? = σ[i]?
  | [], _ => rfl
  | v :: vs, h => by
    unfold wipe
    rw [List.mem_cons, not_or] at h
    rw [List.getElem?_set_ne (fun e => h.1 e.symm)]
    exact wipe_out h.2
theorem wipe_in {i : Nat} : ∀ {vs : List Nat}, i ∈ vs → (wipe σ vs)[i]? = if i < σ.length then some none else none
  | v :: vs, h => by
    unfold wipe
    by_cases e : v = i
    · subst e
      rw [List.getElem?_set, if_pos rfl, wipe_length]
    · rw [List.getElem?_set_ne e]
      exact wipe_in ((List.mem_cons.mp h).resolve_left (fun z => e z.symm))
theorem wipe_off {sl vs : List Nat} (o : Off sl ρ ρ' (wipe σ vs) σ') (h : ∀ i ∈ sl, i ∈ vs) : wipe σ' vs = wipe σ vs := by
  apply List.ext_getElem?
  intro j
  have hl : σ'.length = σ.length := by rw [o.len, wipe_length]
  by_cases hj : j ∈ vs
  · rw [wipe_in hj, wipe_in hj, hl]
  · rw [wipe_out hj, o.out j (fun z => hj (h j z))]
theorem SI.wipe (I : SI g ρ S σ H Fz) (vs : List Nat) : SI g (wipeE ρ vs) S (L2.wipe σ vs) H Fz := by
  refine ⟨by rw [wipeE_len, wipe_length]; exact I.len, fun i d h => ?_, fun i d h => ?_, fun i j d e a h1 h2 h3 h4 => ?_, I.src, I.fzx, I.fzt, I.ext, I.fz0, I.fzn, I.tab⟩
  · obtain ⟨h1, h2⟩ := wipeE_some h
    rw [wipe_out h2]
    exact I.sh i d h1
  · obtain ⟨h1, h2⟩ := wipeE_some h
    rw [wipe_out h2]
    exact I.ow i d h1
  · obtain ⟨h1, n1⟩ := wipeE_some h1
    obtain ⟨h2, n2⟩ := wipeE_some h2
    rw [wipe_out n1] at h3
    rw [wipe_out n2] at h4
    exact I.dis i j d e a h1 h2 h3 h4
theorem OwnA.wipe {vs : List Nat} {a : Addr} (h : OwnA (wipeE ρ vs) (L2.wipe σ vs) a) : OwnA ρ σ a := by
  obtain ⟨i, d, h1, h2⟩ := h
  obtain ⟨h1, n⟩ := wipeE_some h1
  rw [wipe_out n] at h2
  exact ⟨i, d, h1, h2⟩
/-- the block's slots as they were -/
def restE (ρ0 : Env) (vs : List Nat) (ρ : Env) : Env := ρ.mapIdx fun i x => if i ∈ vs then (ρ0[i]?).getD none else x
theorem restE_get {vs : List Nat} {i : Nat} (hl : ρ.length = ρ0.length) : (restE ρ0 vs ρ)[i]? = if i ∈ vs then ρ0[i]? else ρ[i]? := by
  unfold restE
  rw [List.getElem?_mapIdx]
  by_cases h : i ∈ vs
  · rw [if_pos h]
    by_cases l : i < ρ.length
    · rw [List.getElem?_eq_getElem l, List.getElem?_eq_getElem (by rw [← hl]; exact l)]
      simp [h, List.getElem?_eq_getElem (show i < ρ0.length by rw [← hl]; exact l)]
    · rw [List.getElem?_eq_none (by omega), List.getElem?_eq_none (by omega)]; rfl
  · rw [if_neg h]
    cases ρ[i]? with
    | none => rfl
    | some x => simp [h]
theorem restE_len {vs : List Nat} : (restE ρ0 vs ρ).length = ρ.length := by unfold restE; rw [List.length_mapIdx]
/-- as Kx, but for what may change -/
structure Kp (g : G) (P : Addr → Prop) (H : Hp) (Fz : Addr → Prop) (H' : Hp) (Fz' : Addr → Prop) : Prop where
  keep : ∀ a o, H a = some o → ¬ P a → ¬ g.ex a → H' a = some o
  new : ∀ a, H' a = none → H a = none
  sub : ∀ a, Fz a → Fz' a
  fz : ∀ a o, H a = some o → Fz' a → Fz a ∨ P a
theorem Kp.refl {P : Addr → Prop} : Kp g P H Fz H Fz := ⟨fun _ _ h _ _ => h, fun _ h => h, fun _ h => h, fun _ _ _ h => .inl h⟩
theorem Kp.trans {P : Addr → Prop} (a : Kp g P H Fz H1 Fz1) (b : Kp g P H1 Fz1 H2 Fz2) : Kp g P H Fz H2 Fz2 := by
  refine ⟨fun x o h n e => b.keep x o (a.keep x o h n e) n e, fun x h => a.new x (b.new x h), fun x h => b.sub x (a.sub x h), fun x o h f => ?_⟩
  cases e : H1 x with
  | none => rw [a.new x e] at h; cases h
  | some u =>
    rcases b.fz x u e f with z | z
    · exact a.fz x o h z
    · exact .inr z
theorem Kp.ofNew {P : Addr → Prop} (h : New H H1) : Kp g P H Fz H1 Fz := ⟨fun x o e _ _ => h x o e, fun x e => h.none e, fun _ h => h, fun _ _ _ h => .inl h⟩
theorem Kx.kp {P : Addr → Prop} (k : Kx g ρ ρ1 σ H Fz H1 Fz1) (h : ∀ a, OwnA ρ σ a → P a) : Kp g P H Fz H1 Fz1 := ⟨fun a o e n => k.keep a o e fun z => n (h a z), k.new, k.sub, fun a o e f => (k.fz a o e f).imp id (h a)⟩
/-- where nobody's own object changes, what is frozen stays -/
theorem Kp.kf {P : Addr → Prop} (k : Kp g P H Fz H1 Fz1) (I : SI g ρ S σ H Fz) (h : ∀ a, P a → OwnA ρ σ a) : KF H Fz H1 Fz1 :=
  ⟨k.sub, fun a o f e => k.keep a o e (fun z => I.nown f (h a z)) (I.fzx a f), fun a xs e => k.keep a _ e (fun z => I.town e (h a z)) (I.tex e), k.new⟩
theorem SI.rest (I0 : SI g ρ0 S σ H Fz) {vs : List Nat} (I : SI g (wipeE ρ vs) S' (L2.wipe σ vs) H' Fz') (k : Kp g (OwnA (wipeE ρ0 vs) (L2.wipe σ vs)) H Fz H' Fz') (own : ∀ a, OwnA (wipeE ρ vs) (L2.wipe σ vs) a → OwnA (wipeE ρ0 vs) (L2.wipe σ vs) a) :
    SI g (restE ρ0 vs ρ) S' σ H' Fz' ∧ Kx g ρ0 (restE ρ0 vs ρ) σ H Fz H' Fz' := by
  have hl : ρ.length = ρ0.length := by rw [← wipeE_len ρ vs, I.len, wipe_length, I0.len]
  have kf : KF H Fz H' Fz' := k.kf I0 fun a z => z.wipe
  have outE : ∀ {i x}, i ∉ vs → ρ[i]? = some (some x) → (wipeE ρ vs)[i]? = some (some x) := fun {i x} hi h => by
    have : ∀ ws : List Nat, i ∉ ws → (wipeE ρ ws)[i]? = ρ[i]? := fun ws hw => by
      induction ws with
      | nil => rfl
      | cons v ws ih =>
        rw [List.mem_cons, not_or] at hw
        unfold wipeE
        rw [List.getElem?_set_ne (fun e => hw.1 e.symm)]
        exact ih hw.2
    rw [this vs hi, h]
  -- an own object of the block's slots is not the walk's
  have apart : ∀ {i d a}, i ∈ vs → ρ0[i]? = some (some (DV.ow d)) → σ[i]? = some (some (V.ref a)) → ¬ OwnA (wipeE ρ0 vs) (L2.wipe σ vs) a := fun {i d a} hi h hs ⟨j, e, h1, h2⟩ => by
    obtain ⟨h1, n⟩ := wipeE_some h1
    rw [wipe_out n] at h2
    have := I0.dis i j d e a h h1 hs h2
    subst this
    exact n hi
  have ow' : ∀ i d, i ∈ vs → ρ0[i]? = some (some (DV.ow d)) → ∃ a, σ[i]? = some (some (V.ref a)) ∧ OwnC g.K g.sd H' Fz' a d ∧ ¬ Fz' a ∧ ¬ g.ex a ∧ g.H0 a = none := fun i d hi h => by
    obtain ⟨a, ea, ca, nf, nx, n0⟩ := I0.ow i d h
    have ap := apart hi h ea
    refine ⟨a, ea, ca.kf kf (fun o ho => k.keep a o ho ap nx), fun z => ?_, nx, n0⟩
    cases eo : H a with
    | none => exact ca.trk eo
    | some o => exact (k.fz a o eo z).elim nf ap
  refine ⟨⟨by rw [restE_len, hl]; exact I0.len, fun i d h => ?_, fun i d h => ?_, fun i j d e a h1 h2 h3 h4 => ?_, I.src, I.fzx, I.fzt, I.ext, I.fz0, I.fzn, I.tab⟩, ⟨fun a o e n => k.keep a o e fun z => n z.wipe, k.new, k.sub, fun a o e f => (k.fz a o e f).imp id (fun z => z.wipe), fun a ⟨i, d, h1, h2⟩ => ?_⟩⟩
  · rw [restE_get hl] at h
    by_cases hi : i ∈ vs
    · rw [if_pos hi] at h
      obtain ⟨v, ev, av⟩ := I0.sh i d h
      exact ⟨v, ev, av.kf kf⟩
    · rw [if_neg hi] at h
      obtain ⟨v, ev, av⟩ := I.sh i d (outE hi h)
      rw [wipe_out hi] at ev
      exact ⟨v, ev, av⟩
  · rw [restE_get hl] at h
    by_cases hi : i ∈ vs
    · rw [if_pos hi] at h
      exact ow' i d hi h
    · rw [if_neg hi] at h
      obtain ⟨v, ev, av⟩ := I.ow i d (outE hi h)
      rw [wipe_out hi] at ev
      exact ⟨v, ev, av⟩
  · rw [restE_get hl] at h1 h2
    by_cases hi : i ∈ vs
    · rw [if_pos hi] at h1
      by_cases hj : j ∈ vs
      · rw [if_pos hj] at h2
        exact I0.dis i j d e a h1 h2 h3 h4
      · rw [if_neg hj] at h2
        exact (apart hi h1 h3 (own a ⟨j, e, outE hj h2, by rw [wipe_out hj]; exact h4⟩)).elim
    · rw [if_neg hi] at h1
      by_cases hj : j ∈ vs
      · rw [if_pos hj] at h2
        exact (apart hj h2 h4 (own a ⟨i, d, outE hi h1, by rw [wipe_out hi]; exact h3⟩)).elim
      · rw [if_neg hj] at h2
        exact I.dis i j d e a (outE hi h1) (outE hj h2) (by rw [wipe_out hi]; exact h3) (by rw [wipe_out hj]; exact h4)
  · rw [restE_get hl] at h1
    by_cases hi : i ∈ vs
    · rw [if_pos hi] at h1
      exact ⟨i, d, h1, h2⟩
    · rw [if_neg hi] at h1
      exact (own a ⟨i, d, outE hi h1, by rw [wipe_out hi]; exact h2⟩).wipe
/-- an object that is nobody's own and not frozen is written -/
theorem SI.side (I : SI g ρ S σ H Fz) {p : Addr} {xs ys : List V} (e : H p = some (.lst xs)) (nf : ¬ Fz p) (no : ¬ OwnA ρ σ p) (nx : ¬ g.ex p) (n0 : g.H0 p = none) : SI g ρ S σ (upd H p (.lst ys)) Fz ∧ KF H Fz (upd H p (.lst ys)) Fz := by
  have k : KF H Fz (upd H p (.lst ys)) Fz := by
    refine ⟨fun _ h => h, fun a o f h => by rw [upd_ne (fun z => nf (by rw [← z]; exact f))]; exact h, fun a zs h => by rw [upd_ne (fun z => by rw [z, e] at h; cases h)]; exact h, fun a h => ?_⟩
    by_cases z : a = p
    · rw [z, upd_same] at h; cases h
    · rw [upd_ne z] at h; exact h
  have ne : ∀ {a : Addr}, g.ex a → a ≠ p := fun h z => nx (by rw [← z]; exact h)
  refine ⟨⟨I.len, fun i d h => ?_, fun i d h => ?_, I.dis, ⟨?_, ?_, I.src.l0, I.src.m0, I.src.t0, I.src.c0, I.src.len⟩, I.fzx, fun a f h => I.fzt a f (k.new a h), fun a o h x => ?_, I.fz0, I.fzn, fun t h => ?_⟩, k⟩
  · obtain ⟨v, ev, av⟩ := I.sh i d h
    exact ⟨v, ev, av.kf k⟩
  · obtain ⟨a, ea, ca, r⟩ := I.ow i d h
    refine ⟨a, ea, ca.kf k fun o ho => ?_, r⟩
    rw [upd_ne (fun z => no ⟨i, d, h, by rw [← z]; exact ea⟩)]; exact ho
  · rw [upd_ne (ne (.inl rfl))]; exact I.src.hd
  · rw [upd_ne (ne (.inr (.inl rfl)))]; exact I.src.hc
  · rw [upd_ne (fun z => by rw [z, n0] at h; cases h)]; exact I.ext a o h x
  · obtain ⟨ps, e1, r⟩ := I.tab t h
    exact ⟨ps, by rw [upd_ne (ne (.inr (.inr h)))]; exact e1, r⟩
/-- a context in which nothing is raised -/
def G.nx (g : G) : G := { g with rz := false }
theorem SI.nx (I : SI g ρ S σ H Fz) : SI g.nx ρ S σ H Fz := ⟨I.len, I.sh, I.ow, I.dis, I.src, I.fzx, I.fzt, I.ext, I.fz0, I.fzn, I.tab⟩
theorem SI.unx (I : SI g.nx ρ S σ H Fz) : SI g ρ S σ H Fz := ⟨I.len, I.sh, I.ow, I.dis, I.src, I.fzx, I.fzt, I.ext, I.fz0, I.fzn, I.tab⟩
theorem Kx.unx (k : Kx g.nx ρ ρ1 σ H Fz H1 Fz1) : Kx g ρ ρ1 σ H Fz H1 Fz1 := ⟨k.keep, k.new, k.sub, k.fz, k.own⟩
def DTs (X : Cx) (g : G) (es : List Expr) (m : M Bool) : Prop := PTs X es (tOfT g m)
theorem PTs.imp {es : List Expr} {t t' : TT} (h : PTs X es t) (i : ∀ σ H Q, t' σ H Q → t σ H Q) : PTs X es t' := ⟨fun pins s σ H Q I q => h.run pins s σ H Q I (i _ _ _ q)⟩
def mYes : M Bool := pure true
theorem dts_nil : DTs X g [] mYes := PTs.imp pts_nil fun σ H Q ⟨ρ, S, Fz, I, hw⟩ => hw H Fz I Kx.refl
theorem dts_one {c : Expr} {m : M Bool} (h : DT X g c m) : DTs X g [c] m := pts_one h
def wipeM (vs : List Nat) : M Unit := fun ρ S => some (.ok () (wipeE ρ vs) S)
def lcGo (vs : List Nat) (t : D → M Unit) (c : M Bool) (e : M DV) : List D → List D → M (List D)
  | [], acc => pure acc
  | d :: ds, acc => wipeM vs >>= fun _ => t d >>= fun _ => c >>= fun k => if k = true then e >>= fun r => (if acc.length < sizeLine then lcGo vs t c e ds (acc ++ [r.d]) else M.stuck) else lcGo vs t c e ds acc
/-- a run in a block, whose slots are put back; no exception leaves it -/
def inBlk {α β : Type} (vs : List Nat) (f : α → β) (m : M α) : M β := fun ρ S => match m ρ S with
  | some (.ok a ρ' S') => some (.ok (f a) (restE ρ vs ρ') S')
  | _ => none
def mLc (vs : List Nat) (mi : M (List D)) (t : D → M Unit) (c : M Bool) (e : M DV) : M DV := mi >>= fun ds => inBlk vs (fun acc => .ow (.lst acc)) (lcGo vs t c e ds [])
theorem wp_inBlk {α β : Type} {vs : List Nat} {f : α → β} {m : M α} {Q : Po β} {E : Po D} (h : wp (inBlk vs f m) ρ S Q E) : wp m ρ S (fun a ρ' S' => Q (f a) (restE ρ vs ρ') S') (fun _ _ _ => False) := by
  unfold wp inBlk at h
  unfold wp
  cases hm : m ρ S with
  | none => rw [hm] at h; exact h
  | some o => cases o <;> (rw [hm] at h; exact h)
theorem lc_run {mi : M (List D)} {t : D → M Unit} {mc : M Bool} {me : M DV} {sl vs : List Nat} (hsl : ∀ i ∈ sl, i ∈ vs) (ht : NoX t) : tOf g (mLc vs mi t mc me) σ H Q → tLc (tOfI g mi) (tOfG g.nx sl t) (tOfT g.nx mc) (tOf g.nx me) vs σ H Q := fun ⟨ρ, S, Fz, I, hw⟩ => by
  unfold mLc at hw
  rw [wp_bind] at hw
  refine ⟨ρ, S, Fz, I, wp_mono hw (fun ds ρ0 S0 h0 J H1 Fz1 I1 k1 ok D nD => ?_) fun _ _ _ z => z⟩
  have h0 := wp_inBlk h0
  have nO : ¬ OwnA ρ0 σ D := I1.nO nD
  have nX : ¬ g.ex D := I1.nex nD
  -- the walk
  refine ⟨fun i m H2 => m = ds.length - i ∧ i ≤ ds.length ∧ ∃ ρ2 S2 Fz2 acc ds2, SI g (wipeE ρ2 vs) S2 (L2.wipe σ vs) H2 Fz2 ∧ Kp g (OwnA (wipeE ρ0 vs) (L2.wipe σ vs)) H1 Fz1 H2 Fz2 ∧
      (∀ a, OwnA (wipeE ρ2 vs) (L2.wipe σ vs) a → OwnA (wipeE ρ0 vs) (L2.wipe σ vs) a) ∧ H2 D = some (.lst acc) ∧ AtL g.K g.sd H2 Fz2 acc ds2 ∧ ¬ Fz2 D ∧
      wp (lcGo vs t mc me (ds.drop i) ds2) ρ2 S2 (fun a ρ' S' => ∀ v H' Fz', SI g (restE ρ0 vs ρ') S' σ H' Fz' → Kx g ρ (restE ρ0 vs ρ') σ H Fz H' Fz' → VAt g (restE ρ0 vs ρ') σ H H' Fz' v (.ow (.lst a)) → Q v H') (fun _ _ _ => False),
    ⟨_, rfl, Nat.zero_le _, ρ0, S0, Fz1, [], [], (I1.grow (New.upd1 nD)).wipe vs, Kp.ofNew (New.upd1 nD), fun _ h => h, upd_same, .nil, I1.nF nD, h0⟩, fun i m H2 ⟨hm, hle, ρ2, S2, Fz2, acc, ds2, I2, k2, ow2, eD, lD, nF, w2⟩ => ?_⟩
  have kf2 : KF H1 Fz1 H2 Fz2 := k2.kf (I1.wipe vs) fun _ z => z
  have nOw : ¬ OwnA (wipeE ρ0 vs) (L2.wipe σ vs) D := fun z => nO z.wipe
  by_cases hlt : i < ds.length
  · obtain ⟨d, hd⟩ : ∃ d, ds[i]? = some d := ⟨ds[i], List.getElem?_eq_getElem hlt⟩
    refine .inr ⟨ok.goes H2 Fz2 i kf2 hlt, fun H' => i + 1 ≤ ds.length ∧ ∃ ρ2 S2 Fz2 acc ds2, SI g (wipeE ρ2 vs) S2 (L2.wipe σ vs) H' Fz2 ∧ Kp g (OwnA (wipeE ρ0 vs) (L2.wipe σ vs)) H1 Fz1 H' Fz2 ∧
      (∀ a, OwnA (wipeE ρ2 vs) (L2.wipe σ vs) a → OwnA (wipeE ρ0 vs) (L2.wipe σ vs) a) ∧ H' D = some (.lst acc) ∧ AtL g.K g.sd H' Fz2 acc ds2 ∧ ¬ Fz2 D ∧
      wp (lcGo vs t mc me (ds.drop (i + 1)) ds2) ρ2 S2 (fun a ρ' S' => ∀ v H' Fz', SI g (restE ρ0 vs ρ') S' σ H' Fz' → Kx g ρ (restE ρ0 vs ρ') σ H Fz H' Fz' → VAt g (restE ρ0 vs ρ') σ H H' Fz' v (.ow (.lst a)) → Q v H') (fun _ _ _ => False),
      fun H' z => ⟨_, by omega, rfl, z⟩, fun x H3 y => ?_⟩
    obtain ⟨nw, ax⟩ := ok.yields H2 Fz2 i d x H3 kf2 hd y
    rw [List.drop_eq_getElem_cons hlt] at w2
    have ed : ds[i] = d := by rw [List.getElem?_eq_getElem hlt] at hd; exact Option.some.inj hd
    rw [ed] at w2
    unfold lcGo at w2
    rw [wp_bind] at w2
    have w3 := w2
    change wp _ (wipeE ρ2 vs) S2 _ _ at w3
    rw [wp_bind] at w3
    refine ⟨wipeE ρ2 vs, S2, Fz2, d, (I2.grow nw).nx, ax, wp_mono (ht d _ _ _ _ w3) (fun _ ρ4 S4 h4 σ4 I4 off => ?_) fun _ _ _ z => z⟩
    have wo := wipe_off off hsl
    refine ⟨wo, ?_⟩
    rw [wp_bind] at h4
    refine ⟨ρ4, S4, Fz2, I4, wp_mono h4 (fun k ρ5 S5 h5 H5 Fz5 I5 k5 => ?_) fun _ _ _ z => z.elim⟩
    have own4 : ∀ a, OwnA ρ4 σ4 a → OwnA (wipeE ρ0 vs) (L2.wipe σ vs) a := fun a z => ow2 a (off.own a z)
    have kp5 : Kp g (OwnA (wipeE ρ0 vs) (L2.wipe σ vs)) H1 Fz1 H5 Fz5 := k2.trans ((Kp.ofNew nw).trans (k5.unx.kp own4))
    have own5 : ∀ a, OwnA ρ5 σ4 a → OwnA (wipeE ρ0 vs) (L2.wipe σ vs) a := fun a z => own4 a (k5.own a z)
    have hD5 : H5 D = some (.lst acc) := k5.keep D _ (nw D _ eD) (fun z => nOw (own4 D z)) nX
    have nF5 : ¬ Fz5 D := fun z => (k5.fz D _ (nw D _ eD) z).elim nF fun z => nOw (own4 D z)
    have l5 : AtL g.K g.sd H5 Fz5 acc ds2 := lD.kf (nw.kf.trans (k5.unx.kf (I4.unx)))
    cases k with
    | false =>
      refine iteF ⟨hlt, ρ5, S5, Fz5, acc, ds2, by rw [← wo]; exact I5.unx.wipe vs, kp5, fun a z => own5 a (by rw [← wo] at z; exact z.wipe), hD5, l5, nF5, h5⟩
    | true =>
      rw [if_pos rfl, wp_bind] at h5
      refine iteT ⟨ρ5, S5, Fz5, I5, wp_mono h5 (fun r ρ6 S6 h6 v H6 Fz6 I6 k6 a6 => ?_) fun _ _ _ z => z.elim⟩
      obtain ⟨F7, I7, k7, a7⟩ := share I6 k6 a6 (fun p z => I5.n0 z)
      have own6 : ∀ a, OwnA ρ6 σ4 a → OwnA (wipeE ρ0 vs) (L2.wipe σ vs) a := fun a z => own5 a (k7.own a z)
      have kp7 : Kp g (OwnA (wipeE ρ0 vs) (L2.wipe σ vs)) H1 Fz1 H6 F7 := kp5.trans (k7.unx.kp own5)
      have hD7 : H6 D = some (.lst acc) := k7.keep D _ hD5 (fun z => nOw (own5 D z)) nX
      have nF7 : ¬ F7 D := fun z => (k7.fz D _ hD5 z).elim nF5 fun z => nOw (own5 D z)
      have l7 : AtL g.K g.sd H6 F7 acc ds2 := l5.kf (k7.unx.kf I5.unx)
      by_cases hz : ds2.length < sizeLine
      · rw [if_pos hz] at h6
        obtain ⟨I8, kf8⟩ := (show SI g (wipeE ρ6 vs) S6 (L2.wipe σ vs) H6 F7 by rw [← wo]; exact I7.unx.wipe vs).side (ys := acc ++ [v]) hD7 nF7 (fun z => nOw (own6 D (by rw [← wo] at z; exact z.wipe))) nX (I1.n0 nD)
        refine ⟨acc, hD7, by rw [l7.length]; exact hz, hlt, ρ6, S6, F7, acc ++ [v], ds2 ++ [r.d], I8, ⟨fun a o e n x => ?_, fun a e => ?_, kp7.sub, kp7.fz⟩, fun a z => own6 a (by rw [← wo] at z; exact z.wipe), upd_same, (l7.app (.cons a7 .nil)).kf kf8, nF7, h6⟩
        · rw [upd_ne (fun z => by rw [z, nD] at e; cases e)]
          exact kp7.keep a o e n x
        · by_cases z : a = D
          · rw [z, upd_same] at e; cases e
          · rw [upd_ne z] at e; exact kp7.new a e
      · rw [if_neg hz] at h6; exact h6.elim
  · have e : i = ds.length := by omega
    subst e
    rw [List.drop_length] at w2
    obtain ⟨I3, k3⟩ := I1.rest I2 k2 ow2
    refine .inl ⟨ok.stops H2 Fz2 kf2, w2 _ H2 Fz2 I3 (k1.trans k3) ⟨D, rfl, .lst eD lD, nF, fun z => nO (k3.own D z), nX, k1.new D nD⟩⟩
theorem de_lc {elt tg iter : Expr} {ifs : List Expr} {scope : Scope} {own : List (Str × Nat)} {pos : Pos} {mi : M (List D)} {t : D → M Unit} {mc : M Bool} {me : M DV} {sl : List Nat}
    (hc : X.calm = true) (hN : X.N.Nodup) (hi : DI X g tg iter mi) (ok : BlkOk X.N X.env.scope scope own) (hsl : ∀ i ∈ sl, i ∈ own.map (·.2)) (ht : NoX t)
    (hg : ∀ (s : Shared) (H : Hp) (C : Addr) (cl : List (Str × Addr)) (fp : List Addr), DG (X.blk s H scope (compEnvC scope cl C X.env) fp) g.nx tg sl t) (hT : ∀ (s : Shared) (H : Hp) (C : Addr) (cl : List (Str × Addr)) (fp : List Addr), DTs (X.blk s H scope (compEnvC scope cl C X.env) fp) g.nx ifs mc)
    (he : ∀ (s : Shared) (H : Hp) (C : Addr) (cl : List (Str × Addr)) (fp : List Addr), DE (X.blk s H scope (compEnvC scope cl C X.env) fp) g.nx elt me) (hs : ∀ x, foldedSetIterable iter X.env x = pure x := by intro _; rfl) :
    DE X g (.ListComp elt [⟨tg, iter, ifs, 0⟩] scope pos) (mLc (own.map (·.2)) mi t mc me) :=
  PE.imp (pe_lc hc hN hi ok hg hT he hs) fun σ H Q h => lc_run hsl ht h
/-- name = [..] on one line -/
theorem ds_setLc {i : Nat} {y : Str} {py : Pos} {elt tg iter : Expr} {ifs : List Expr} {scope : Scope} {own : List (Str × Nat)} {pos spos : Pos} {mi : M (List D)} {t : D → M Unit} {mc : M Bool} {me : M DV} {sl : List Nat}
    (hc : X.calm = true) (hN : X.N.Nodup) (hy : X.N[i]? = some y) (hyl : X.env.scope.names.lookup y = some .local) (hsw : swapsWith (.ListComp elt [⟨tg, iter, ifs, 0⟩] scope pos) (some (.Name y py)) spos.line X.env = pure true)
    (hi : DI X g tg iter mi) (ok : BlkOk X.N X.env.scope scope own) (hsl : ∀ i ∈ sl, i ∈ own.map (·.2)) (ht : NoX t)
    (hg : ∀ (s : Shared) (H : Hp) (C : Addr) (cl : List (Str × Addr)) (fp : List Addr), DG (X.blk s H scope (compEnvC scope cl C X.env) fp) g.nx tg sl t) (hT : ∀ (s : Shared) (H : Hp) (C : Addr) (cl : List (Str × Addr)) (fp : List Addr), DTs (X.blk s H scope (compEnvC scope cl C X.env) fp) g.nx ifs mc)
    (he : ∀ (s : Shared) (H : Hp) (C : Addr) (cl : List (Str × Addr)) (fp : List Addr), DE (X.blk s H scope (compEnvC scope cl C X.env) fp) g.nx elt me) (hs : ∀ x, foldedSetIterable iter X.env x = pure x := by intro _; rfl) :
    DS X g (.Assign [.Name y py] (.ListComp elt [⟨tg, iter, ifs, 0⟩] scope pos) spos) (mAsg (mLc (own.map (·.2)) mi t mc me) i) :=
  PS.imp (ps_setLc hc hN hy hyl hsw hi ok hg hT he hs) fun D σ H h => lc_run hsl ht (asg_run h)
end
end DL
set_option Elab.async false
set_option linter.all false
set_option maxRecDepth 100000
set_option maxHeartbeats 1000000
namespace DL
open PySem PySem.Spec PyProof.Rows L2
section
variable {X : Cx} {g : G} {ρ ρ' ρ0 ρ1 ρ2 : Env} {S S1 S2 S' : Src} {σ σ' : L2.St} {H H1 H2 H' : Hp} {Fz Fz1 Fz2 Fz' : Addr → Prop} {Q : VK} {v : V}
/-! ### dicts: what is found -/
def getD (ds : List (Key × D)) (k : Key) : Option D := (ds.find? fun p => decide (p.1 = k)).map (·.2)
def keyD : D → Option Key
  | .int i => some (.inl i)
  | .str s => some (.inr s)
  | _ => none
theorem atK_get {k : Key} : ∀ {vs : List (Key × V)} {ds : List (Key × D)}, AtK g.K g.sd H Fz vs ds → (∀ d, getD ds k = some d → ∃ v, valV vs k = some v ∧ At g.K g.sd H Fz v d) ∧ (getD ds k = none → valV vs k = none)
  | _, _, .nil => ⟨fun d h => (by cases h), fun _ => rfl⟩
  | _, _, .cons (k := k') a l => by
    have ih := atK_get (k := k) l
    by_cases e : k' = k
    · refine ⟨fun d h => ?_, fun h => ?_⟩
      · simp only [getD, List.find?_cons, e, decide_true, Option.map_some] at h
        cases h
        exact ⟨_, valV_pos e, a⟩
      · simp only [getD, List.find?_cons, e, decide_true, Option.map_some] at h
        cases h
    · have h1 : ∀ {d ds}, getD ((k', d) :: ds) k = getD ds k := by
        intro d ds
        unfold getD
        rw [List.find?_cons, decide_eq_false e]
      rw [h1, valV_neg e]
      exact ih
theorem c_key {d : D} {k : Key} (c : Cont g H Fz v d) (h : keyD d = some k) : v = kV k := by
  unfold keyD at h
  split at h
  · cases h; exact c_int c
  · cases h; exact (c_str c).1
  · cases h
theorem keyed_str {ds : List (Key × D)} : True := trivial
/-! ### subscripts -/
def rIxDic : R2 := fun x y H Q => ∃ a v, x = .ref a ∧ DGet H a y (some v) ∧ Q v H
theorem ix_dict (hu : X.A.units + 1 < cLine) : IxR X rIxDic := by
  intro value slice pins s σ H x y v u Q I rx ry h hs
  obtain ⟨a, z, rfl, d, q⟩ := h
  obtain rfl : v = Value.ref a := rx
  exact tail_any (dict_typeIs I d) PySem.F.slot_dict_getitem.lookup (d_getItem hu I d ry fun w' s3 I3 rw' => ⟨z, H, I3, rw', q⟩) hs
def rIxA (K : PySem.W.Frag) : R2 := fun x y H Q => rIxL K x y H Q ∨ rIxT K x y H Q ∨ rIxS x y H Q ∨ rIxDic x y H Q
theorem ix_any (hu : X.A.units + 1 < cLine) : IxR X (rIxA X.K) := ix_list.or (ix_tup.or (ix_str.or (ix_dict hu)))
def ixD (x y : D) : Option DV := match x with
  | .lst ds => (match y with | .int i => (atI ds i).map .sh | _ => none)
  | .tup ds => (match y with | .int i => (atI ds i).map .sh | _ => none)
  | .str s => (match y with | .int i => (atI s.cps.toList i).map fun c => .sh (.str ⟨#[c]⟩) | _ => none)
  | .dic ds => (match keyD y with | some k => (getD ds k).map .sh | none => none)
  | _ => none
theorem atL_atI {vs : List V} {ds : List D} {i : Int} {d : D} (l : AtL g.K g.sd H Fz vs ds) (h : atI ds i = some d) : ∃ v, atI vs i = some v ∧ At g.K g.sd H Fz v d := by
  unfold atI at h ⊢
  rw [l.length]
  cases e : ixN ds.length i with
  | none => rw [e] at h; cases h
  | some j =>
    rw [e] at h
    exact l.get h
theorem sok1 {s : Str} {c : Nat} (h : SOk s) (m : c ∈ s.cps.toList) : SOk ⟨#[c]⟩ := by
  refine ⟨by show 1 ≤ sizeLine; rw [sizeLine_eq]; decide, ?_⟩
  have := h.2
  unfold PyData.strOk at this ⊢
  rw [Array.all_eq_true] at this
  obtain ⟨i, hi, e⟩ := List.mem_iff_getElem.mp m
  have := this i (by simpa using hi)
  simp only [Array.getElem_toList] at e
  rw [e] at this
  simpa using this
theorem o2_ix (hK : X.K = g.K) : Op2 X g (rIxA X.K) ixD := fun H Fz x y dx dy dv Q cx cy e q => by
  rw [hK]
  cases dx with
  | lst ds =>
    cases dy <;> first | cases e | skip
    obtain ⟨d, h, rfl⟩ := Option.map_eq_some_iff.mp e
    obtain ⟨a, xs, rfl, ea, l⟩ := c_lst cx
    obtain ⟨w, hw, aw⟩ := atL_atI l h
    exact .inl ⟨a, xs, _, w, rfl, c_int cy, SqL.of ea, hw, q w H New.refl aw⟩
  | tup ds =>
    cases dy <;> first | cases e | skip
    obtain ⟨d, h, rfl⟩ := Option.map_eq_some_iff.mp e
    obtain ⟨a, xs, rfl, ea, l⟩ := c_tup cx
    obtain ⟨w, hw, aw⟩ := atL_atI l h
    exact .inr (.inl ⟨a, xs, _, w, rfl, c_int cy, ea, hw, q w H New.refl aw⟩)
  | str s =>
    cases dy <;> first | cases e | skip
    obtain ⟨c, h, rfl⟩ := Option.map_eq_some_iff.mp e
    obtain ⟨rfl, ok⟩ := c_str cx
    refine .inr (.inr (.inl ⟨s, _, c, rfl, c_int cy, ok.1, h, q _ H New.refl (.str _ (sok1 ok ?_))⟩))
    obtain ⟨j, _, hj, _⟩ := atI_get h
    exact List.mem_of_getElem? hj
  | dic ds =>
    unfold ixD at e
    cases hk : keyD dy with
    | none => simp only [hk] at e; cases e
    | some k =>
      simp only [hk] at e
      obtain ⟨d, h, rfl⟩ := Option.map_eq_some_iff.mp e
      obtain ⟨a, kvs, rfl, ea, l⟩ := c_dic cx
      obtain ⟨w, hw, aw⟩ := (atK_get l).1 d h
      refine .inr (.inr (.inr ⟨a, w, rfl, ?_, q w H New.refl aw⟩))
      rw [c_key cy hk, ← hw]
      exact DGet.k ea
  | _ => cases e
theorem de_ix {a b : Expr} {pos : Pos} {ma mb : M Opd} {k : Nat} (hK : X.K = g.K) (hr : Room k X.A) (ha : DO X g a ma) (hb : DO X g b mb) (hs : PlainIx b := by intro _ _; rfl) : DE X g (.Subscript a b pos) (mOp ixD ma mb) :=
  PE.imp (pe_ix (ix_any (hu_of hr)) ha hb hs) fun σ H Q h => op_run (o2_ix hK) h
/-! ### slices -/
def tOfP (g : G) (m : M (Option Int)) : TO := fun σ H Q => ∃ ρ S Fz, SI g ρ S σ H Fz ∧ wp m ρ S (fun r ρ' S' => ∀ H' Fz', SI g ρ' S' σ H' Fz' → Kx g ρ ρ' σ H Fz H' Fz' → Q r H') (XE g H Fz)
def DPo (X : Cx) (g : G) (e : Option Expr) (m : M (Option Int)) : Prop := PO X e (tOfP g m)
theorem PO.imp {e : Option Expr} {t t' : TO} (h : PO X e t) (i : ∀ σ H Q, t' σ H Q → t σ H Q) : PO X e t' := ⟨fun pins s σ H Q I q => h.run pins s σ H Q I (i _ _ _ q)⟩
def pNo : M (Option Int) := pure none
def intD : D → Option (Option Int)
  | .int i => some (some i)
  | _ => none
def pIs (m : M Opd) : M (Option Int) := m >>= fun o => res o >>= fun d => M.of (intD d)
theorem dp_none : DPo X g none pNo := PO.imp po_none fun σ H Q ⟨ρ, S, Fz, I, hw⟩ => hw H Fz I Kx.refl
theorem dp_some {e : Expr} {m : M Opd} (h : DO X g e m) : DPo X g (some e) (pIs m) := PO.imp (po_some h) fun σ H Q ⟨ρ, S, Fz, I, hw⟩ => by
  unfold pIs at hw
  rw [wp_bind] at hw
  refine ⟨ρ, S, Fz, I, wp_mono hw (fun o ρ1 S1 h1 v H1 Fz1 I1 k1 a1 => ?_) fun _ _ _ z => z⟩
  rw [wp_bind] at h1
  obtain ⟨d, c, h1⟩ := wp_res I1 a1 h1
  obtain ⟨i, e, q⟩ := wp_of.mp h1
  cases d <;> cases e
  exact ⟨_, c_int c, q H1 Fz1 I1 k1⟩
def cutL {α : Type} (xs : List α) (lo hi : Option Int) : List α := (xs.drop (HT.sIx xs.length 0 lo)).take (HT.sIx xs.length xs.length hi - HT.sIx xs.length 0 lo)
theorem atL_cut {vs : List V} {ds : List D} {lo hi : Option Int} (l : AtL g.K g.sd H Fz vs ds) : AtL g.K g.sd H Fz (cutV vs lo hi) (cutL ds lo hi) := by
  unfold cutV cutL
  rw [l.length]
  exact (l.drop _).take _
theorem sok_cut {s : Str} {lo hi : Option Int} (h : SOk s) : SOk (cutS s lo hi) := by
  refine ⟨Nat.le_trans (cutS_length _ _ _) h.1, ?_⟩
  have h2 := h.2
  unfold PyData.strOk at h2 ⊢
  unfold cutS
  rw [Array.all_eq_true] at h2
  rw [List.all_toArray, List.all_eq_true]
  intro c hc
  have hm := List.mem_of_mem_drop (List.mem_of_mem_take hc)
  obtain ⟨i, hi, e⟩ := List.mem_iff_getElem.mp hm
  have := h2 i (by simpa using hi)
  simp only [Array.getElem_toList] at e
  rw [e] at this
  exact this
def slD (d : D) (lo hi : Option Int) : Option DV := match d with
  | .lst ds => some (.ow (.lst (cutL ds lo hi)))
  | .tup ds => some (.sh (.tup (cutL ds lo hi)))
  | .str s => some (.sh (.str (cutS s lo hi)))
  | _ => none
def rSlA3 (K : PySem.W.Frag) : V → Option Int → Option Int → Hp → VK → Prop := fun x lo hi H Q => rSlL K x lo hi H Q ∨ rSlA K x lo hi H Q ∨ rSlS x lo hi H Q
theorem sl_any : SlR X (rSlA3 X.K) := sl_list.or (sl_tupA.or sl_str)
def mSl (m : M Opd) (lo hi : M (Option Int)) : M DV := m >>= fun o => lo >>= fun l => hi >>= fun h => res o >>= fun d => M.of (slD d l h)
theorem cutL_whole {α : Type} {xs : List α} {lo hi : Option Int} (h : HT.sIx xs.length 0 lo = 0 ∧ HT.sIx xs.length xs.length hi = xs.length) : cutL xs lo hi = xs := by
  unfold cutL
  rw [h.1, h.2, List.drop_zero, Nat.sub_zero, List.take_length]
theorem de_slice {e : Expr} {lo hi : Option Expr} {p2 pos : Pos} {m : M Opd} {ml mh : M (Option Int)} (hK : X.K = g.K) (he : DO X g e m) (hl : DPo X g lo ml) (hh : DPo X g hi mh) : DE X g (.Subscript e (.Slice lo hi none p2) pos) (mSl m ml mh) :=
  PE.imp (pe_slice sl_any he hl hh) fun σ H Q ⟨ρ, S, Fz, I, hw⟩ => by
    unfold mSl at hw
    rw [wp_bind] at hw
    refine ⟨ρ, S, Fz, I, wp_mono hw (fun o ρ1 S1 h1 v1 H1 Fz1 I1 k1 a1 => ?_) fun _ _ _ z => z⟩
    rw [wp_bind] at h1
    refine ⟨ρ1, S1, Fz1, I1, wp_mono h1 (fun l ρ2 S2 h2 H2 Fz2 I2 k2 => ?_) fun _ _ _ z => z.mono (k1.kf I)⟩
    rw [wp_bind] at h2
    refine ⟨ρ2, S2, Fz2, I2, wp_mono h2 (fun h ρ3 S3 h3 H3 Fz3 I3 k3 => ?_) fun _ _ _ z => z.mono ((k1.trans k2).kf I)⟩
    rw [wp_bind] at h3
    obtain ⟨d, c, h3⟩ := wp_res I3 ((a1.kx I1 k2).kx I2 k3) h3
    obtain ⟨dv, e1, q⟩ := wp_of.mp h3
    have kk := (k1.trans k2).trans k3
    rw [hK]
    cases d with
    | lst ds =>
      cases e1
      obtain ⟨a, xs, rfl, ea, al⟩ := c_lst c
      exact .inl ⟨a, xs, rfl, SqL.of ea, fun p np => fin_new I3 kk q (rv_lst np (atL_cut al)).1 (rv_lst np (atL_cut al)).2⟩
    | tup ds =>
      cases e1
      obtain ⟨a, xs, rfl, ea, al⟩ := c_tup c
      refine .inr (.inl ⟨a, xs, rfl, ea, fun wh => ?_, fun _ p np => fin_new I3 kk q (rv_tup np (atL_cut al)).1 (rv_tup np (atL_cut al)).2⟩)
      rw [al.length] at wh
      rw [cutL_whole wh] at q
      exact fin_new I3 kk q New.refl (c_tupA c)
    | str s =>
      cases e1
      obtain ⟨rfl, ok⟩ := c_str c
      exact .inr (.inr ⟨s, rfl, ok.1, fin_new I3 kk q New.refl (.str _ (sok_cut ok))⟩)
    | _ => cases e1
def revD : D → Option DV
  | .lst ds => some (.ow (.lst ds.reverse))
  | _ => none
def mRev (m : M Opd) : M DV := m >>= fun o => res o >>= fun d => M.of (revD d)
theorem de_rev {e : Expr} {k : Nat} {p1 p2 p3 pos : Pos} {m : M Opd} (hK : X.K = g.K) (he : DO X g e m) : DE X g (.Subscript e (.Slice none none (some (.UnaryOp .USub (.Constant (.int 1) k p1) p2)) p3) pos) (mRev m) :=
  PE.imp (pe_revL he) fun σ H Q ⟨ρ, S, Fz, I, hw⟩ => by
    unfold mRev at hw
    rw [wp_bind] at hw
    refine ⟨ρ, S, Fz, I, wp_mono hw (fun o ρ1 S1 h1 v1 H1 Fz1 I1 k1 a1 => ?_) fun _ _ _ z => z⟩
    rw [wp_bind] at h1
    obtain ⟨d, c, h1⟩ := wp_res I1 a1 h1
    obtain ⟨dv, e1, q⟩ := wp_of.mp h1
    cases d <;> cases e1
    obtain ⟨a, xs, rfl, ea, al⟩ := c_lst c
    rw [hK]
    exact ⟨a, xs, rfl, SqL.of ea, fun p np => fin_new I1 k1 q (rv_lst np al.rev).1 (rv_lst np al.rev).2⟩
/-! ### displays -/
/-- operands that are kept: own objects are given -/
def keepM (os : List Opd) : M (List D) := fun ρ S => match lendR os ρ with
  | some (ds, ρ') => some (.ok ds ρ' S)
  | none => none
theorem wp_keep (I : SI g ρ S σ H Fz) {os : List Opd} {vs : List V} (a : VOs g σ H Fz vs os) {Q : Po (List D)} {E : Po D} (q : wp (keepM os) ρ S Q E) : ∃ ds ρ' FL, AtL g.K g.sd H FL vs ds ∧ SI g ρ' S σ H FL ∧ Kx g ρ ρ' σ H Fz H FL ∧ Q ds ρ' S := by
  unfold wp keepM at q
  cases e : lendR os ρ with
  | none => rw [e] at q; exact q.elim
  | some p =>
    obtain ⟨ds, ρ'⟩ := p
    rw [e] at q
    obtain ⟨FL, l, I', k⟩ := lend_ok I a e
    exact ⟨ds, ρ', FL, l, I', k, q⟩
def mTup (ma : M (List Opd)) : M DV := ma >>= fun os => keepM os >>= fun ds => M.of (if ds.length ≤ sizeLine then some (.sh (.tup ds)) else none)
def mLst (ma : M (List Opd)) : M DV := ma >>= fun os => keepM os >>= fun ds => M.of (if ds.length ≤ sizeLine then some (.ow (.lst ds)) else none)
theorem de_tup {es : List Expr} {k : Nat} {pos : Pos} {ma : M (List Opd)} (h : DA X g es ma) : DE X g (.Tuple es k pos) (mTup ma) := PE.imp (pe_tup h) fun σ H Q ⟨ρ, S, Fz, I, hw⟩ => by
  unfold mTup at hw
  rw [wp_bind] at hw
  refine ⟨ρ, S, Fz, I, wp_mono hw (fun os ρ1 S1 h1 vs H1 Fz1 I1 k1 a1 => ?_) fun _ _ _ z => z⟩
  rw [wp_bind] at h1
  obtain ⟨ds, ρ2, F2, l, I2, k2, h2⟩ := wp_keep I1 a1 h1
  obtain ⟨dv, e, q⟩ := wp_of.mp h2
  split at e
  · rename_i hz
    cases e
    exact ⟨by rw [l.length]; exact hz, fun p np => fin_new I2 (k1.trans k2) q (rv_tup np l).1 (rv_tup np l).2⟩
  · cases e
theorem de_lst {es : List Expr} {pos : Pos} {ma : M (List Opd)} (h : DA X g es ma) : DE X g (.List es pos) (mLst ma) := PE.imp (pe_lst h) fun σ H Q ⟨ρ, S, Fz, I, hw⟩ => by
  unfold mLst at hw
  rw [wp_bind] at hw
  refine ⟨ρ, S, Fz, I, wp_mono hw (fun os ρ1 S1 h1 vs H1 Fz1 I1 k1 a1 => ?_) fun _ _ _ z => z⟩
  rw [wp_bind] at h1
  obtain ⟨ds, ρ2, F2, l, I2, k2, h2⟩ := wp_keep I1 a1 h1
  obtain ⟨dv, e, q⟩ := wp_of.mp h2
  split at e
  · rename_i hz
    cases e
    exact ⟨by rw [l.length]; exact hz, fun p np => fin_new I2 (k1.trans k2) q (rv_lst np l).1 (rv_lst np l).2⟩
  · cases e
/-! ### built-ins -/
def BuiD (g : G) (r : List V → Hp → VK → Prop) (op : List D → Option DV) : Prop := ∀ (H : Hp) (Fz : Addr → Prop) (vs : List V) (ds : List D) (dv : DV) (Q : VK), ContL g H Fz vs ds → op ds = some dv → (∀ v H', New H H' → RV g H H' Fz v dv → Q v H') → r vs H Q
def mBui (op : List D → Option DV) (ma : M (List Opd)) : M DV := ma >>= fun os => resL os >>= fun ds => M.of (op ds)
theorem bui_run {r : List V → Hp → VK → Prop} {op : List D → Option DV} {ma : M (List Opd)} (hb : BuiD g r op) : tOf g (mBui op ma) σ H Q → tCB r (tOfA g ma) σ H Q := fun ⟨ρ, S, Fz, I, hw⟩ => by
  unfold mBui at hw
  rw [wp_bind] at hw
  refine ⟨ρ, S, Fz, I, wp_mono hw (fun os ρ1 S1 h1 vs H1 Fz1 I1 k1 a1 => ?_) fun _ _ _ z => z⟩
  rw [wp_bind] at h1
  obtain ⟨ds, c, h1⟩ := wp_resL I1 a1 h1
  obtain ⟨dv, e, q⟩ := wp_of.mp h1
  exact hb H1 Fz1 vs ds dv Q c e fun v H' n rv => fin_new I1 k1 q n rv
theorem de_buiB {r : List V → Hp → VK → Prop} {op : List D → Option DV} {id : String} {x : Str} {p pos : Pos} {e : Expr} {es : List Expr} {ma : M (List Opd)} (hc : CallR X (.builtin id) r) (hb : BuiD g r op) (hg : Gl X x) (hm : X.mg x = none) (hv : bootBuiltins x = some (.builtin id)) (ha : DA X g (e :: es) ma)
    (hn : x ≠ "__name__" := by decide) (hdb : (x == ("__debug__" : Str)) = false := by decide) (he : starEach (e :: es) X.env = (false, eval e X.env) :: starEach es X.env := by rfl) (hpl : (backTo pos (starEach es X.env)).any (·.1) = false := by rfl) : DE X g (.Call (.Name x p) (e :: es) [] pos) (mBui op ma) :=
  PE.imp (pe_callB hc hg hm hv ha hn hdb he hpl) fun σ H Q h => bui_run hb h
theorem de_buiT {r : List V → Hp → VK → Prop} {op : List D → Option DV} {T : String} {x : Str} {p pos : Pos} {e : Expr} {es : List Expr} {ma : M (List Opd)} (hc : CallR X (.type T) r) (hb : BuiD g r op) (hg : Gl X x) (hm : X.mg x = none) (hv : bootBuiltins x = some (.type T)) (ha : DA X g (e :: es) ma)
    (hn : x ≠ "__name__" := by decide) (hdb : (x == ("__debug__" : Str)) = false := by decide) (he : starEach (e :: es) X.env = (false, eval e X.env) :: starEach es X.env := by rfl) (hpl : (backTo pos (starEach es X.env)).any (·.1) = false := by rfl) : DE X g (.Call (.Name x p) (e :: es) [] pos) (mBui op ma) :=
  PE.imp (pe_callTy hc hg hm hv ha hn hdb he hpl) fun σ H Q h => bui_run hb h
theorem cl1 {vs : List V} {d : D} (h : ContL g H Fz vs [d]) : ∃ v, vs = [v] ∧ Cont g H Fz v d := by
  cases h with
  | cons c l => cases l; exact ⟨_, rfl, c⟩
theorem cl2 {vs : List V} {d e : D} (h : ContL g H Fz vs [d, e]) : ∃ v w, vs = [v, w] ∧ Cont g H Fz v d ∧ Cont g H Fz w e := by
  cases h with
  | cons c l =>
    cases l with
    | cons c2 l => cases l; exact ⟨_, _, rfl, c, c2⟩
/-- a function of one datum -/
def op1 (f : D → Option DV) : List D → Option DV
  | [d] => f d
  | _ => none
def op2' (f : D → D → Option DV) : List D → Option DV
  | [d, e] => f d e
  | _ => none
/-- len -/
def lenD : D → Option DV
  | .lst ds => some (.sh (.int ds.length))
  | .tup ds => some (.sh (.int ds.length))
  | .str s => some (.sh (.int s.length))
  | .dic ds => some (.sh (.int ds.length))
  | _ => none
def rLenA (K : PySem.W.Frag) : List V → Hp → VK → Prop := fun xs H Q => (∃ x n, xs = [x] ∧ LenV K x H n ∧ Q (.int n) H) ∨ ∃ a kvs, xs = [.ref a] ∧ Rd H a (.dK kvs) ∧ Q (.int kvs.length) H
theorem call_lenA : CallR X (.builtin "len") (rLenA X.K) := call_len.or fun pins s σ H xs us Q I r h => by
  obtain ⟨a, kvs, rfl, e, q⟩ := h
  rw [Vals.ref1 r]
  exact d_len I e fun t s' I' => ⟨.int kvs.length, H, I', ⟨t, rfl⟩, q⟩
theorem bui_len : BuiD g (rLenA g.K) (op1 lenD) := fun H Fz vs ds dv Q c e q => by
  match ds, e with
  | [d], e =>
    obtain ⟨v, rfl, k1⟩ := cl1 c
    clear c
    cases d with
    | lst ds =>
      cases e
      obtain ⟨a, xs, rfl, ea, l⟩ := c_lst k1
      exact .inl ⟨_, ds.length, rfl, .inl ⟨xs, SqL.of ea, l.length.symm⟩, q _ H New.refl (.int _)⟩
    | tup ds =>
      cases e
      obtain ⟨a, xs, rfl, ea, l⟩ := c_tup k1
      exact .inl ⟨_, ds.length, rfl, .inr ⟨xs, ea, l.length.symm⟩, q _ H New.refl (.int _)⟩
    | str s =>
      cases e
      obtain ⟨rfl, ok⟩ := c_str k1
      exact .inl ⟨_, s.length, rfl, ⟨ok.1, rfl⟩, q _ H New.refl (.int _)⟩
    | dic ds =>
      cases e
      obtain ⟨a, kvs, rfl, ea, l⟩ := c_dic k1
      refine .inr ⟨a, kvs, rfl, .inl ea, ?_⟩
      rw [l.length]
      exact q _ H New.refl (.int _)
    | _ => cases e
/-- int, abs, max, min, bool -/
def intF : D → Option DV
  | .int i => some (.sh (.int i))
  | .bl b => some (.sh (.int (if b then 1 else 0)))
  | _ => none
theorem bui_int : BuiD g (fun xs H Q => (∃ i, xs = [.int i] ∧ Q (.int i) H) ∨ ∃ k, xs = [.bl k] ∧ Q (.int (if k then 1 else 0)) H) (op1 intF) := fun H Fz vs ds dv Q c e q => by
  match ds, e with
  | [d], e =>
    obtain ⟨v, rfl, k1⟩ := cl1 c
    clear c
    cases d <;> cases e
    · exact .inr ⟨_, by rw [c_bl k1], q _ H New.refl (.int _)⟩
    · exact .inl ⟨_, by rw [c_int k1], q _ H New.refl (.int _)⟩
def absF : D → Option DV
  | .int i => some (.sh (.int (if i < 0 then -i else i)))
  | _ => none
theorem bui_abs : BuiD g (fun xs H Q => ∃ i, xs = [.int i] ∧ Q (.int (if i < 0 then -i else i)) H) (op1 absF) := fun H Fz vs ds dv Q c e q => by
  match ds, e with
  | [d], e =>
    obtain ⟨v, rfl, k1⟩ := cl1 c
    clear c
    cases d <;> cases e
    exact ⟨_, by rw [c_int k1], q _ H New.refl (.int _)⟩
def max2 : D → D → Option DV := intOp fun i j => some (.int (if j > i then j else i))
def min2 : D → D → Option DV := intOp fun i j => some (.int (if j < i then j else i))
theorem bui_ii {f : Int → Int → Int} : BuiD g (fun xs H Q => ∃ i j, xs = [.int i, .int j] ∧ Q (.int (f i j)) H) (op2' (intOp fun i j => some (.int (f i j)))) := fun H Fz vs ds dv Q c e q => by
  match ds, e with
  | [d, d2], e =>
    obtain ⟨v, w, rfl, c1, c2⟩ := cl2 c
    unfold op2' intOp at e
    cases d <;> cases d2 <;> first | cases e | skip
    exact ⟨_, _, by rw [c_int c1, c_int c2], q _ H New.refl (.int _)⟩
/-- tuple, list -/
def tupF : D → Option DV
  | .lst ds => some (.sh (.tup ds))
  | .tup ds => some (.sh (.tup ds))
  | _ => none
theorem bui_tup (hK : X.K = g.K) : BuiD g (fun xs H Q => ∃ p ys, xs = [.ref p] ∧ ((SqL X.K H p ys ∧ ∀ l, H l = none → Q (.ref l) (upd H l (.tup ys))) ∨ (SqT X.K H p ys ∧ Q (.ref p) H))) (op1 tupF) := fun H Fz vs ds dv Q c e q => by
  rw [hK]
  match ds, e with
  | [d], e =>
    obtain ⟨v, rfl, k1⟩ := cl1 c
    clear c
    cases d <;> cases e
    · obtain ⟨a, xs, rfl, ea, l⟩ := c_tup k1
      exact ⟨a, xs, rfl, .inr ⟨ea, q _ H New.refl (c_tupA k1)⟩⟩
    · obtain ⟨a, xs, rfl, ea, l⟩ := c_lst k1
      exact ⟨a, xs, rfl, .inl ⟨SqL.of ea, fun p np => q _ _ (rv_tup np l).1 (rv_tup np l).2⟩⟩
def lstF : D → Option DV
  | .lst ds => some (.ow (.lst ds))
  | .tup ds => some (.ow (.lst ds))
  | .dic ds => some (.ow (.lst (ds.map fun p => match p.1 with | .inl i => .int i | .inr s => .str s)))
  | _ => none
/-- texts that are keys can stand -/
theorem at_key {k : Key} (h : ∀ s, k = .inr s → SOk s) : At g.K g.sd H Fz (kV k) (match k with | .inl i => .int i | .inr s => .str s) := by
  cases k with
  | inl i => exact .int i
  | inr s => exact .str s (h s rfl)
/-- sum, any, all of lists -/
def intsD : List D → Option (List Int)
  | [] => some []
  | .int i :: ds => (intsD ds).map (i :: ·)
  | _ :: _ => none
theorem atL_intsD : ∀ {vs : List V} {ds : List D} {ns : List Int}, AtL g.K g.sd H Fz vs ds → intsD ds = some ns → vs = ns.map V.int
  | _, _, ns, .nil, h => by cases h; rfl
  | _, _, ns, .cons (d := d) a l, h => by
    cases d <;> first | cases h | skip
    unfold intsD at h
    obtain ⟨ms, hm, rfl⟩ := Option.map_eq_some_iff.mp h
    cases a
    rw [atL_intsD l hm]
    rfl
def sumF : D → Option DV
  | .lst ds => (intsD ds).map fun ns => .sh (.int ns.sum)
  | _ => none
theorem bui_sum : BuiD g (rSum g.K) (op1 sumF) := fun H Fz vs ds dv Q c e q => by
  match ds, e with
  | [d], e =>
    obtain ⟨v, rfl, k1⟩ := cl1 c
    clear c
    cases d <;> first | cases e | skip
    obtain ⟨ns, hn, rfl⟩ := Option.map_eq_some_iff.mp e
    obtain ⟨a, xs, rfl, ea, l⟩ := c_lst k1
    rw [atL_intsD l hn] at ea
    exact ⟨a, ns, rfl, SqL.of ea, q _ H New.refl (.int _)⟩
def boolsD : List D → Option (List Bool)
  | [] => some []
  | .bl b :: ds => (boolsD ds).map (b :: ·)
  | _ :: _ => none
theorem atL_bools : ∀ {vs : List V} {ds : List D} {ns : List Bool}, AtL g.K g.sd H Fz vs ds → boolsD ds = some ns → vs = ns.map V.bl
  | _, _, ns, .nil, h => by cases h; rfl
  | _, _, ns, .cons (d := d) a l, h => by
    cases d <;> first | cases h | skip
    unfold boolsD at h
    obtain ⟨ms, hm, rfl⟩ := Option.map_eq_some_iff.mp h
    cases a
    rw [atL_bools l hm]
    rfl
def anyF : D → Option DV
  | .lst ds => (boolsD ds).map fun bs => .sh (.bl (bs.any id))
  | _ => none
def allF : D → Option DV
  | .lst ds => (boolsD ds).map fun bs => .sh (.bl (bs.all id))
  | _ => none
theorem bui_any : BuiD g (rAny g.K) (op1 anyF) := fun H Fz vs ds dv Q c e q => by
  match ds, e with
  | [d], e =>
    obtain ⟨v, rfl, k1⟩ := cl1 c
    clear c
    cases d <;> first | cases e | skip
    obtain ⟨ns, hn, rfl⟩ := Option.map_eq_some_iff.mp e
    obtain ⟨a, xs, rfl, ea, l⟩ := c_lst k1
    rw [atL_bools l hn] at ea
    exact ⟨a, ns, rfl, SqL.of ea, q _ H New.refl (.bl _)⟩
theorem bui_all : BuiD g (rAll g.K) (op1 allF) := fun H Fz vs ds dv Q c e q => by
  match ds, e with
  | [d], e =>
    obtain ⟨v, rfl, k1⟩ := cl1 c
    clear c
    cases d <;> first | cases e | skip
    obtain ⟨ns, hn, rfl⟩ := Option.map_eq_some_iff.mp e
    obtain ⟨a, xs, rfl, ea, l⟩ := c_lst k1
    rw [atL_bools l hn] at ea
    exact ⟨a, ns, rfl, SqL.of ea, q _ H New.refl (.bl _)⟩
/-! ### in -/
def inS (i j : Str) : Bool := !(Builtin.Str.occurrences j i 0 j.length 1).isEmpty
/-- no list, tuple, dict -/
def flat : D → Bool
  | .non => true
  | .bl _ => true
  | .int _ => true
  | .str _ => true
  | _ => false
def inD (x y : D) : Option Bool := match y with
  | .str j => (match x with | .str i => some (inS i j) | _ => none)
  | .lst ds => if cmpOk x (.lst ds) = true ∧ dep x ≤ 64 ∧ deps ds + 1 ≤ 64 then some (ds.any fun z => eqv z x) else none
  | .tup ds => if flat x = true ∧ ds.all flat = true then some (ds.any fun z => eqv z x) else none
  | .dic ds => (match keyD x with | some k => some (getD ds k).isSome | none => none)
  | _ => none
end
end DL
set_option Elab.async false
set_option linter.all false
set_option maxRecDepth 100000
set_option maxHeartbeats 1000000
namespace DL
open PySem PySem.Spec PyProof.Rows L2
section
variable {X : Cx} {g : G} {ρ ρ' ρ0 ρ1 ρ2 : Env} {S S1 S2 S' : Src} {σ σ' : L2.St} {H H1 H2 H' : Hp} {Fz Fz1 Fz2 Fz' : Addr → Prop} {Q : VK} {v : V}
/-! ### in -/
def rInDic (neg : Bool) : R2 := fun x y H Q => ∃ a o, y = .ref a ∧ DGet H a x o ∧ Q (.bl (if neg then !o.isSome else o.isSome)) H
theorem op_inDic (hu : X.A.units + 1 < cLine) : OpR X (compareOp .In) (rInDic false) := by
  intro pins s σ H x y v u Q I rx ry h
  obtain ⟨a, o, rfl, d, q⟩ := h
  obtain rfl : u = Value.ref a := ry
  exact d_in hu I d rx fun s3 I3 => ⟨.bl o.isSome, H, I3, rfl, q⟩
theorem op_notInDic (hu : X.A.units + 1 < cLine) : OpR X (compareOp .NotIn) (rInDic true) := by
  intro pins s σ H x y v u Q I rx ry h
  obtain ⟨a, o, rfl, d, q⟩ := h
  obtain rfl : u = Value.ref a := ry
  exact d_notIn hu I d rx fun s3 I3 => ⟨.bl (!o.isSome), H, I3, rfl, q⟩
theorem flat_V {d : D} (a : At g.K g.sd H Fz v d) (f : flat d = true) : flatV v = true := by
  cases a <;> first | rfl | (cases f)
theorem flat_eqv {d e : D} {w : V} (a : At g.K g.sd H Fz v d) (b : At g.K g.sd H Fz w e) (f : flat d = true) (f' : flat e = true) : eqV v w = eqv d e := by
  cases a <;> first | (cases f) | skip
  all_goals cases b <;> first | (cases f'; done) | (simp only [eqV, eqv, toP, PyData.eqv])
theorem flats_V : ∀ {vs : List V} {ds : List D}, AtL g.K g.sd H Fz vs ds → ds.all flat = true → vs.all flatV = true
  | _, _, .nil, _ => rfl
  | _, _, .cons a l, f => by
    rw [List.all_cons, Bool.and_eq_true] at f
    rw [List.all_cons, flat_V a f.1, flats_V l f.2]; rfl
theorem inV_eq {x : V} {dx : D} (a : At g.K g.sd H Fz x dx) (fx : flat dx = true) : ∀ {vs : List V} {ds : List D}, AtL g.K g.sd H Fz vs ds → ds.all flat = true → inV x vs = ds.any fun z => eqv z dx
  | _, _, .nil, _ => rfl
  | _, _, .cons b l, f => by
    rw [List.all_cons, Bool.and_eq_true] at f
    unfold inV
    rw [List.any_cons, List.any_cons, flat_eqv b a f.1 fx]
    have ih := inV_eq a fx l f.2
    unfold inV at ih
    rw [ih]
theorem any_toPs {x : D} : ∀ ds : List D, ((toPs ds).any fun z => PyData.eqv z (toP x)) = ds.any fun z => eqv z x
  | [] => rfl
  | d :: ds => by
    unfold toPs
    rw [List.any_cons, List.any_cons, any_toPs ds]
    rfl
theorem flat_at' {d : D} (c : Cont g H Fz v d) (f : flat d = true) : At g.K g.sd H Fz v d := by
  rcases c with a | ⟨p, rfl, o⟩
  · exact a
  · cases o <;> cases f
def rInA (K : PySem.W.Frag) (neg : Bool) : R2 := fun x y H Q => (∃ i j, x = .str i ∧ y = .str j ∧ Q (.bl (if neg then !(!(Builtin.Str.occurrences j i 0 j.length 1).isEmpty) else !(Builtin.Str.occurrences j i 0 j.length 1).isEmpty)) H) ∨
  (∃ d ds, Dp K H x d ∧ Dp K H y (.list ds) ∧ SeqAt.shaped d = true ∧ SeqAt.shaped (.list ds) = true ∧ Q (.bl (if neg then !ds.any (fun z => PyData.eqv z d) else ds.any fun z => PyData.eqv z d)) H) ∨ rIn K neg x y H Q ∨ rInDic neg x y H Q
theorem op_inA {k : Nat} (hr : Room k X.A) : OpR X (compareOp .In) (rInA X.K false) :=
  op_in_str.or ((op_inD (by have := hr.un; omega)).or (op_in_seq.or (op_inDic (hu_of hr))))
theorem op_notInA {k : Nat} (hr : Room k X.A) : OpR X (compareOp .NotIn) (rInA X.K true) :=
  op_notin_str.or ((op_notInD (by have := hr.un; omega)).or (op_notIn_seq.or (op_notInDic (hu_of hr))))
def inDV (neg : Bool) (x y : D) : Option DV := (inD x y).map fun b => .sh (.bl (if neg then !b else b))
theorem o2_in (hK : X.K = g.K) (neg : Bool) : Op2 X g (rInA X.K neg) (inDV neg) := fun H Fz x y dx dy dv Q cx cy e q => by
  rw [hK]
  obtain ⟨b, e0, rfl⟩ := Option.map_eq_some_iff.mp e
  clear e
  rename inD dx dy = some b => e
  have fin : ∀ b' : Bool, b' = (if neg = true then !b else b) → Q (.bl b') H := fun b' h => by rw [h]; exact q _ H New.refl (.bl _)
  cases dy with
  | str j =>
    cases dx with
    | str i =>
      have eb : b = inS i j := (Option.some.inj e).symm
      exact .inl ⟨i, j, (c_str cx).1, (c_str cy).1, fin _ (by rw [eb]; rfl)⟩
    | _ => cases e
  | lst ds =>
    unfold inD at e
    simp only at e
    split at e
    · rename_i h
      have eb := (Option.some.inj e).symm
      obtain ⟨h1, h2, h3⟩ := h
      obtain ⟨n1, n2, _⟩ := cmpOk_min h1
      obtain ⟨p1, l1⟩ := cx.dp n1
      obtain ⟨p2, l2⟩ := cy.dp n2
      have e1 : (toP dx).depth = dep dx := (dep_toP dx).resolve_right (by rw [n1]; exact fun z => by cases z)
      have e2 : (toP (.lst ds)).depth = dep (.lst ds) := (dep_toP _).resolve_right (by rw [n2]; exact fun z => by cases z)
      refine .inr (.inl ⟨_, toPs ds, p1, by simpa only [toP] using p2, ?_, ?_, fin _ ?_⟩)
      · unfold SeqAt.shaped
        rw [l1, e1, decide_eq_true h2]; rfl
      · have e3 : toP (.lst ds) = .list (toPs ds) := by rw [toP]
        unfold SeqAt.shaped
        rw [← e3, l2, e2, decide_eq_true (by simpa only [dep] using h3)]; rfl
      · rw [any_toPs, eb]
    · cases e
  | tup ds =>
    unfold inD at e
    simp only at e
    split at e
    · rename_i h
      have eb := (Option.some.inj e).symm
      obtain ⟨a, xs, rfl, ea, l⟩ := c_tup cy
      have ax := flat_at' cx h.1
      refine .inr (.inr (.inl ⟨a, xs, rfl, .inr ea, flat_V ax h.1, flats_V l h.2, fin _ ?_⟩))
      rw [inV_eq ax h.1 l h.2, eb]
    · cases e
  | dic ds =>
    unfold inD at e
    simp only at e
    cases hk : keyD dx with
    | none => rw [hk] at e; cases e
    | some k =>
      rw [hk] at e
      have eb := (Option.some.inj e).symm
      obtain ⟨a, kvs, rfl, ea, l⟩ := c_dic cy
      refine .inr (.inr (.inr ⟨a, valV kvs k, rfl, by rw [c_key cx hk]; exact DGet.k ea, fin _ ?_⟩))
      have q := atK_get (k := k) l
      cases hd : getD ds k with
      | none => rw [q.2 hd, eb, hd]; rfl
      | some d => obtain ⟨w, hw, _⟩ := q.1 d hd; rw [hw, eb, hd]; rfl
  | _ => cases e
/-! ### an own object is written -/
theorem SI.mut (I : SI g ρ S σ H Fz) {i : Nat} {d d' : D} {a : Addr} {o' : HO} (h : ρ[i]? = some (some (DV.ow d))) (hs : σ[i]? = some (some (V.ref a))) (c : ∀ {H' : Hp}, KF H Fz H' Fz → H' a = some o' → OwnC g.K g.sd H' Fz a d') :
    SI g (ρ.set i (some (.ow d'))) S σ (upd H a o') Fz ∧ Kx g ρ (ρ.set i (some (.ow d'))) σ H Fz (upd H a o') Fz := by
  obtain ⟨b, eb, cb, nf, nx, n0⟩ := I.ow i d h
  rw [hs] at eb
  cases eb
  have hne : ∀ {p : Addr}, Fz p → p ≠ a := fun f z => nf (by rw [← z]; exact f)
  have k : KF H Fz (upd H a o') Fz := by
    refine ⟨fun _ h => h, fun p o f e => by rw [upd_ne (hne f)]; exact e, fun p zs e => by rw [upd_ne (fun z => cb.nt (by rw [← z]; exact e))]; exact e, fun p e => ?_⟩
    by_cases z : p = a
    · rw [z, upd_same] at e; cases e
    · rw [upd_ne z] at e; exact e
  have ne : ∀ {p : Addr}, g.ex p → p ≠ a := fun h z => nx (by rw [← z]; exact h)
  have lt : i < ρ.length := lt_of_get h
  refine ⟨⟨by rw [List.length_set]; exact I.len, fun j e hj => ?_, fun j e hj => ?_, fun j l e1 e2 p hj hl hpj hpl => ?_, ⟨?_, ?_, I.src.l0, I.src.m0, I.src.t0, I.src.c0, I.src.len⟩, I.fzx, fun p f z => I.fzt p f (k.new p z), fun p o e x => ?_, I.fz0, I.fzn, fun t ht => ?_⟩,
    ⟨fun p o e n x => by rw [upd_ne (fun z => n ⟨i, d, h, by rw [z]; exact hs⟩)]; exact e, k.new, fun _ h => h, fun _ _ _ h => .inl h, fun p ⟨j, e, hj, hp⟩ => ?_⟩⟩
  · rcases get_set hj with ⟨_, z, _⟩ | ⟨_, z⟩
    · cases z
    · obtain ⟨w, ew, aw⟩ := I.sh j e z
      exact ⟨w, ew, aw.kf k⟩
  · rcases get_set hj with ⟨rfl, z, _⟩ | ⟨nj, z⟩
    · cases z
      exact ⟨a, hs, c k upd_same, nf, nx, n0⟩
    · obtain ⟨w, ew, cw, r⟩ := I.ow j e z
      refine ⟨w, ew, cw.kf k fun o ho => ?_, r⟩
      rw [upd_ne (fun y => nj (I.dis i j d e a h z hs (by rw [← y]; exact ew)))]; exact ho
  · rcases get_set hj with ⟨rfl, _, _⟩ | ⟨nj, zj⟩
    · rcases get_set hl with ⟨y, _, _⟩ | ⟨_, zl⟩
      · exact y
      · exact I.dis i l d e2 p h zl hpj hpl
    · rcases get_set hl with ⟨rfl, _, _⟩ | ⟨_, zl⟩
      · exact I.dis j i e1 d p zj h hpj hpl
      · exact I.dis j l e1 e2 p zj zl hpj hpl
  · rw [upd_ne (ne (.inl rfl))]; exact I.src.hd
  · rw [upd_ne (ne (.inr (.inl rfl)))]; exact I.src.hc
  · rw [upd_ne (fun z => by rw [z, n0] at e; cases e)]; exact I.ext p o e x
  · obtain ⟨ps, e1, r⟩ := I.tab t ht
    exact ⟨ps, by rw [upd_ne (ne (.inr (.inr ht)))]; exact e1, r⟩
  · rcases get_set hj with ⟨rfl, _, _⟩ | ⟨_, z⟩
    · exact ⟨i, d, h, hp⟩
    · exact ⟨j, e, z, hp⟩
/-- a slot with an own list (a dict: isD) is there -/
def isOwL : D → Bool
  | .lst _ => true
  | _ => false
def isOwD : D → Bool
  | .dic _ => true
  | _ => false
def mRcv (p : D → Bool) (i : Nat) : M Unit := fun ρ S => match ρ[i]? with
  | some (some (.ow d)) => if p d = true then some (.ok () ρ S) else none
  | _ => none
/-- an own object's content is exchanged -/
def mutM (i : Nat) (f : D → Option (D × D)) : M DV := fun ρ S => match ρ[i]? with
  | some (some (.ow d)) => (match f d with
    | some (d', r) => some (.ok (.sh r) (ρ.set i (some (.ow d'))) S)
    | none => none)
  | _ => none
def mMeth (p : D → Bool) (i : Nat) (ma : M (List Opd)) (f : List D → D → Option (D × D)) : M DV := mRcv p i >>= fun _ => ma >>= fun os => keepM os >>= fun ds => mutM i (f ds)
/-- what a method does, by its reading -/
def MutD (g : G) (r : V → List V → Hp → VK → Prop) (f : List D → D → Option (D × D)) : Prop := ∀ (H : Hp) (Fz : Addr → Prop) (a : Addr) (d : D) (vs : List V) (ds : List D) (d' e : D) (Q : VK), OwnC g.K g.sd H Fz a d → AtL g.K g.sd H Fz vs ds → f ds d = some (d', e) →
  (∀ (w : V) (o' : HO), (∀ {H' : Hp}, KF H Fz H' Fz → H' a = some o' → OwnC g.K g.sd H' Fz a d') → At g.K g.sd H Fz w e → Q w (upd H a o')) → r (.ref a) vs H Q
theorem wp_rcv {p : D → Bool} {i : Nat} {Q : Po Unit} {E : Po D} (h : wp (mRcv p i) ρ S Q E) : ∃ d, ρ[i]? = some (some (DV.ow d)) ∧ p d = true ∧ Q () ρ S := by
  unfold wp mRcv at h
  cases e : ρ[i]? with
  | none => rw [e] at h; exact h.elim
  | some x =>
    cases x with
    | none => rw [e] at h; exact h.elim
    | some dv =>
      cases dv with
      | sh d => rw [e] at h; exact h.elim
      | ow d =>
        rw [e] at h
        simp only at h
        by_cases hp : p d = true
        · rw [if_pos hp] at h
          exact ⟨d, rfl, hp, h⟩
        · rw [if_neg hp] at h; exact h.elim
theorem wp_mutM {i : Nat} {f : D → Option (D × D)} {Q : Po DV} {E : Po D} (h : wp (mutM i f) ρ S Q E) : ∃ d d' r, ρ[i]? = some (some (DV.ow d)) ∧ f d = some (d', r) ∧ Q (.sh r) (ρ.set i (some (.ow d'))) S := by
  unfold wp mutM at h
  cases e : ρ[i]? with
  | none => rw [e] at h; exact h.elim
  | some x =>
    cases x with
    | none => rw [e] at h; exact h.elim
    | some dv =>
      cases dv with
      | sh d => rw [e] at h; exact h.elim
      | ow d =>
        rw [e] at h
        simp only at h
        cases ef : f d with
        | none => rw [ef] at h; exact h.elim
        | some q =>
          obtain ⟨d', r⟩ := q
          rw [ef] at h
          exact ⟨d, d', r, rfl, ef, h⟩
theorem meth_run {p : D → Bool} {i : Nat} {ma : M (List Opd)} {f : List D → D → Option (D × D)} {r : V → List V → Hp → VK → Prop} {T : String} (hK : X.K = g.K) (hm : MutD g r f) (hp : ∀ {H Fz a d}, OwnC g.K g.sd H Fz a d → p d = true → tyV g.K T (.ref a) H) :
    tOf g (mMeth p i ma f) σ H Q → tBM X.K T r (tVar i) (tOfA g ma) σ H Q := fun ⟨ρ, S, Fz, I, hw⟩ => by
  unfold mMeth at hw
  rw [wp_bind] at hw
  obtain ⟨d0, e0, p0, hw⟩ := wp_rcv hw
  obtain ⟨a, ea, ca, _⟩ := I.ow i d0 e0
  refine ⟨.ref a, ea, by rw [hK]; exact hp ca p0, ?_⟩
  rw [wp_bind] at hw
  refine ⟨ρ, S, Fz, I, wp_mono hw (fun os ρ1 S1 h1 vs H1 Fz1 I1 k1 a1 => ?_) fun _ _ _ z => z⟩
  rw [wp_bind] at h1
  obtain ⟨ds, ρ2, F2, l, I2, k2, h2⟩ := wp_keep I1 a1 h1
  obtain ⟨d, d', e, hd, hf, q⟩ := wp_mutM h2
  obtain ⟨b, eb, cb, _⟩ := I2.ow i d hd
  rw [ea] at eb
  cases eb
  refine hm H1 F2 a d vs ds d' e Q cb l hf fun w o' c aw => ?_
  obtain ⟨I3, k3⟩ := I2.mut hd ea c
  exact q w _ F2 I3 ((k1.trans k2).trans k3) (aw.kf (k3.kf I2))
theorem ty_lst {a : Addr} {d : D} (c : OwnC g.K g.sd H Fz a d) (p : isOwL d = true) : tyV g.K "list" (.ref a) H := by
  cases c with
  | lst e l => exact .inl ⟨rfl, _, SqL.of e⟩
  | dic e l => cases p
def appF : List D → D → Option (D × D)
  | [x], .lst ds => if ds.length < sizeLine then some (.lst (ds ++ [x]), .non) else none
  | _, _ => none
theorem mut_app : MutD g rAppend appF := fun H Fz a d vs ds d' e Q c l h q => by
  unfold appF at h
  split at h
  · split at h
    · rename_i hz
      cases h
      cases c with
      | lst ea la =>
        cases l with
        | cons ax lx =>
          cases lx
          exact ⟨a, _, _, rfl, rfl, ea, by rw [la.length]; exact hz, q .non _ (fun k e => .lst e ((la.kf k).app (.cons (ax.kf k) .nil))) .non⟩
    · cases h
  · cases h
def extF : List D → D → Option (D × D)
  | [.lst xs], .lst ds => if ds.length + xs.length ≤ sizeLine then some (.lst (ds ++ xs), .non) else none
  | _, _ => none
theorem mut_ext : MutD g rExtend extF := fun H Fz a d vs ds d' e Q c l h q => by
  unfold extF at h
  split at h
  · split at h
    · rename_i hz
      cases h
      cases c with
      | lst ea la =>
        cases l with
        | cons ax lx =>
          cases lx
          cases ax with
          | lst eb fb lb => exact ⟨a, _, _, _, rfl, rfl, ea, eb, by rw [la.length, lb.length]; exact hz, q .non _ (fun k e => .lst e ((la.kf k).app (lb.kf k))) .non⟩
    · cases h
  · cases h
def popF : List D → D → Option (D × D)
  | [], .lst ds => match ds[ds.length - 1]? with
    | some x => some (.lst ds.dropLast, x)
    | none => none
  | _, _ => none
theorem mut_pop : MutD g rPop popF := fun H Fz a d vs ds d' e Q c l h q => by
  unfold popF at h
  split at h
  · split at h
    · rename_i x hx
      cases h
      cases l
      cases c with
      | lst ea la =>
        obtain ⟨w, hw, aw⟩ := la.get hx
        refine ⟨a, _, w, rfl, rfl, ea, by rw [la.length]; exact hw, q w _ (fun k e => .lst e (la.kf k).dropLast) aw⟩
    · cases h
  · cases h
def popAtF : List D → D → Option (D × D)
  | [.int i], .lst ds => if -(2 ^ 63) ≤ i ∧ i < 2 ^ 63 then (match ixN ds.length i with
    | some k => (match ds[k]? with
      | some x => some (.lst (ds.eraseIdx k), x)
      | none => none)
    | none => none) else none
  | _, _ => none
theorem mut_popAt : MutD g rPopAt popAtF := fun H Fz a d vs ds d' e Q c l h q => by
  unfold popAtF at h
  split at h
  · split at h
    · rename_i hb
      split at h
      · rename_i k hk
        split at h
        · rename_i x hx
          cases h
          cases c with
          | lst ea la =>
            cases l with
            | cons ax lx =>
              cases lx
              cases ax
              obtain ⟨w, hw, aw⟩ := la.get hx
              exact ⟨a, _, _, k, w, rfl, rfl, ea, hb.1, hb.2, by rw [la.length]; exact (ixN_seq hk).1, hw, q w _ (fun kf e => .lst e ((la.kf kf).erase k)) aw⟩
        · cases h
      · cases h
    · cases h
  · cases h
def insF : List D → D → Option (D × D)
  | [.int i, x], .lst ds => if ds.length < sizeLine ∧ 0 ≤ i ∧ i < 2 ^ 63 then some (.lst (ds.take i.toNat ++ [x] ++ ds.drop i.toNat), .non) else none
  | _, _ => none
theorem mut_ins : MutD g (fun x vs H Q => ∃ (l : Addr) (xs : List V) (i : Int) (y : V), x = .ref l ∧ vs = [.int i, y] ∧ H l = some (.lst xs) ∧ xs.length < sizeLine ∧ 0 ≤ i ∧ i < 2 ^ 63 ∧ Q .non (upd H l (.lst (xs.take i.toNat ++ [y] ++ xs.drop i.toNat)))) insF := fun H Fz a d vs ds d' e Q c l h q => by
  unfold insF at h
  split at h
  · split at h
    · rename_i hz
      cases h
      cases c with
      | lst ea la =>
        cases l with
        | cons ai lx =>
          cases lx with
          | cons ax ly =>
            cases ly
            cases ai
            exact ⟨a, _, _, _, rfl, rfl, ea, by rw [la.length]; exact hz.1, hz.2.1, hz.2.2, q .non _ (fun k e => .lst e ((((la.kf k).take _).app (.cons (ax.kf k) .nil)).app ((la.kf k).drop _))) .non⟩
    · cases h
  · cases h
/-- x.m(e, ..) of a list in slot i -/
theorem de_methL {name : Str} {id : String} {r : V → List V → Hp → VK → Prop} {f : List D → D → Option (D × D)} {i : Nat} {x : Str} {p apos cpos : Pos} {e : Expr} {es : List Expr} {ma : M (List Opd)} (hK : X.K = g.K) (slot : Slot "list" name id) (hty : typeOf (.builtin id) = pure (.type "method_descriptor")) (hm : MtR X id r) (hf : MutD g r f)
    (ho : PE X (.Name x p) (tVar i)) (ha : DA X g (e :: es) ma) (hbase : attributeBase (.Name x p) name X.env (eval (.Name x p) X.env) = eval (.Name x p) X.env := by rfl)
    (hfew : ((backTo cpos (starEach (e :: es) X.env)).all (fun x => !x.1) && (backToKw cpos (keywordEach [] X.env)).all (fun x => x.1.isSome) && decide ((e :: es).length + ([] : List Keyword).length + (if ([] : List Keyword).isEmpty then 0 else 1) < 30)) = true := by rfl)
    (hline : (apos.endLine == cpos.line) = true := by rfl) (hs : starEach (e :: es) X.env = (false, eval e X.env) :: starEach es X.env := by rfl) (hplain : (backTo cpos (starEach es X.env)).any (·.1) = false := by rfl) :
    DE X g (.Call (.Attribute (.Name x p) name apos) (e :: es) [] cpos) (mMeth isOwL i ma f) :=
  PE.imp (pe_bm PySem.F.plainAttrs_list slot hty hm ho ha hbase hfew hline hs hplain) fun σ H Q h => meth_run hK hf ty_lst h
theorem de_methL0 {name : Str} {id : String} {r : V → List V → Hp → VK → Prop} {f : List D → D → Option (D × D)} {i : Nat} {x : Str} {p apos cpos : Pos} (hK : X.K = g.K) (slot : Slot "list" name id) (hty : typeOf (.builtin id) = pure (.type "method_descriptor")) (hm : MtR X id r) (hf : MutD g r f)
    (ho : PE X (.Name x p) (tVar i)) (hbase : attributeBase (.Name x p) name X.env (eval (.Name x p) X.env) = eval (.Name x p) X.env := by rfl) (hline : (apos.endLine == cpos.line) = true := by rfl) :
    DE X g (.Call (.Attribute (.Name x p) name apos) [] [] cpos) (mMeth isOwL i aNil f) :=
  PE.imp (pe_bm0 PySem.F.plainAttrs_list slot hty hm ho hbase hline) fun σ H Q h => by
    obtain ⟨v, e, ty, ρ, S, Fz, I, hw⟩ := meth_run hK hf ty_lst h
    exact ⟨v, e, ty, hw [] H Fz I Kx.refl .nil⟩
/-! ### sep.join -/
def strsD : List D → Option (List Str)
  | [] => some []
  | .str s :: ds => (strsD ds).map (s :: ·)
  | _ :: _ => none
theorem atL_strsD : ∀ {vs : List V} {ds : List D} {ns : List Str}, AtL g.K g.sd H Fz vs ds → strsD ds = some ns → vs = ns.map V.str ∧ ∀ s ∈ ns, SOk s
  | _, _, ns, .nil, h => by cases h; exact ⟨rfl, fun _ z => nomatch z⟩
  | _, _, ns, .cons (d := d) a l, h => by
    cases d <;> first | cases h | skip
    unfold strsD at h
    obtain ⟨ms, hm, rfl⟩ := Option.map_eq_some_iff.mp h
    cases a with
    | str s ok =>
      obtain ⟨e, f⟩ := atL_strsD l hm
      rw [e]
      exact ⟨rfl, fun t ht => (List.mem_cons.mp ht).elim (fun z => by rw [z]; exact ok) (f t)⟩
def joinS (a : Str) (ys : List Str) : Option DV := if (ys.map (·.length)).sum + ys.length * a.length ≤ 16777216 then some (.sh (.str (Txt.join a ys))) else none
def joinD (a d : D) : Option DV := match a, d with
  | .str a, .lst ds => (strsD ds).bind (joinS a)
  | .str a, .tup ds => (strsD ds).bind (joinS a)
  | _, _ => none
theorem join_len (a : Str) : ∀ ys : List Str, (Str.join a ys).length ≤ (ys.map (·.length)).sum + ys.length * a.length
  | [] => Nat.zero_le _
  | [x] => by
    show x.length ≤ _
    simp only [List.map_cons, List.map_nil, List.sum_cons, List.sum_nil, List.length_cons, List.length_nil]
    omega
  | x :: y :: r => by
    show (x ++ a ++ Str.join a (y :: r)).length ≤ _
    have ih := join_len a (y :: r)
    rw [len_app, len_app]
    simp only [List.map_cons, List.sum_cons, List.length_cons] at ih ⊢
    have : (r.length + 1 + 1) * a.length = (r.length + 1) * a.length + a.length := by rw [Nat.add_mul, Nat.one_mul]
    omega
theorem join_ok {a : Str} (ha : PyData.strOk a = true) : ∀ {ys : List Str}, (∀ s ∈ ys, SOk s) → PyData.strOk (Str.join a ys) = true
  | [], _ => by show PyData.strOk ⟨#[]⟩ = true; simp [PyData.strOk]
  | [x], h => (h x (List.mem_singleton.mpr rfl)).2
  | x :: y :: r, h => strOk_app (strOk_app (h x (List.mem_cons_self ..)).2 ha) (join_ok ha fun s hs => h s (List.mem_cons_of_mem _ hs))
theorem sok_join {a : Str} {ys : List Str} (ha : SOk a) (hy : ∀ s ∈ ys, SOk s) (h : (ys.map (·.length)).sum + ys.length * a.length ≤ 16777216) : SOk (Txt.join a ys) := by
  rw [TL.join_eq]
  exact ⟨Nat.le_trans (join_len a ys) (by rw [sizeLine_eq]; exact h), join_ok ha.2 hy⟩
def mJoin (ma mb : M Opd) : M DV := mOp joinD ma mb
theorem ty_str {s : Str} : tyV g.K "str" (.str s) H := rfl
end
end DL
set_option Elab.async false
set_option linter.all false
set_option maxRecDepth 100000
set_option maxHeartbeats 2000000
/-! generator expressions whose elements may do anything: the frame, the loop -/
namespace GX
open PySem PySem.Spec PyProof.Rows L2

theorem over_loop {A : Around} {elt : Expr} {cs : List Comprehension} {scope : Scope} {pos : Pos} {it acc : Value} {env : Env} : A.over (.compLoop (.GeneratorExp elt cs scope pos) 0 it acc env) [] = A.deeper env := by
  rfl
theorem over_start {A : Around} {elt : Expr} {cs : List Comprehension} {scope : Scope} {pos : Pos} {it acc : Value} {env : Env} : A.over (.compStart (.GeneratorExp elt cs scope pos) 0 it acc env) [] = A.deeper env := by
  rfl

/-- the context of a generator expression's frame: s, H: ahead of its making; fp: the walked iterator's objects; pn: the generator's own object -/
abbrev gx (X : Cx) (A' : Around) (s : Shared) (H : Hp) (cenv : Env) (fp : List Addr) (pn : List (Addr × Obj)) : Cx :=
  { X with A := A', s_0 := s, H_0 := H, env := cenv, outer := X.stack, stack := cenv :: X.stack, ex := fp, fn := fun _ => false, calm := true, pn := pn, xe := fun _ _ => False }
section
variable {X : Cx} {pins : List (Addr × Obj)} {σ : L2.St} {H : Hp} {s : Shared}
theorem gx_start {scope : Scope} {own : List (Str × Nat)} {fp : List Addr} {A' : Around} {C : Addr} {code : Value} {pn cp : List (Addr × Obj)} {s' : Shared} {m0 : Str → Option Value}
    (I : Inv X pins σ H s) (ok : BlkOk X.N X.env.scope scope own) (hcell : ∀ y ∈ scope.names, y.2 ≠ .cell) (hN : X.N.Nodup) (hfp : ∀ b ∈ fp, FpOk X pins H b ∧ b < s.heap.objs.size)
    (hC : s.heap.objs.size ≤ C) (hA : A'.handled = none) (hF : A'.frames = some (genEnv scope (cloFrom X.env.cells scope.names []) C code builtinsNs X.env :: X.stack))
    (os : s'.os = s.os) (bare : AllBare s'.gens) (kp : ∀ b o, s.heap.get? b = some o → s'.heap.get? b = some o) (hn : s'.heap.Ns C m0)
    (hp : ∀ p ∈ pn ++ cp, s'.heap.get? p.1 = some p.2 ∧ s.heap.objs.size ≤ p.1 ∧ p.1 ≠ C ∧ ∀ v, p.2.data ≠ .cell v) :
    Inv (gx X A' s H (genEnv scope (cloFrom X.env.cells scope.names []) C code builtinsNs X.env) fp pn) cp (wipe σ (own.map (·.2))) H s' := by
  have hfree : ∀ y ∈ scope.names, y.2 = .free → ∃ c, X.env.cells.lookup y.1 = some c := fun y hy e => by
    rcases ok.free y hy e with k | k
    · exact I.ok.has _ (.inl k)
    · exact I.ok.has _ (.inr k)
  have cm : ∀ {y c}, (cloFrom X.env.cells scope.names []).lookup y = some c → X.env.cells.lookup y = some c ∧ c < s.heap.objs.size := fun {y c} hl => by
    rcases cloFrom_mem (PySem.mem_of_lookup hl) with hm | ⟨h1, rfl⟩
    · cases hm
    · obtain ⟨c, hc⟩ := hfree _ h1 rfl
      rw [hc]
      obtain ⟨w, z⟩ := I.cell _ _ hc
      exact ⟨rfl, z.lt⟩
  have look : ∀ {y}, scope.names.lookup y = some .free → ∃ c, (cloFrom X.env.cells scope.names []).lookup y = some c ∧ X.env.cells.lookup y = some c := fun {y} hl => by
    have hy : (y, NameKind.free) ∈ scope.names := PySem.mem_of_lookup hl
    obtain ⟨c', e'⟩ := mem_lookup (cloFrom_has (cells := X.env.cells) (acc := []) hy)
    exact ⟨c', e', (cm e').1⟩
  have young : ∀ b, s.heap.objs.size ≤ b → H b = none := fun b hb => I.hok.fresh hb
  have okB : (gx X A' s H (genEnv scope (cloFrom X.env.cells scope.names []) C code builtinsNs X.env) fp pn).Ok := by
    refine ⟨I.ok.mod, ok.kind, I.ok.glob, rfl, hC, fun y z c e1 e2 => I.ok.inj y z c (cm e1).1 (cm e2).1, fun y hy => ?_, fun y c z e => (by cases z), fun _ => hA, hF, .inr ⟨rfl, rfl⟩, fun b hb => ⟨?_, fun y c e z => ?_⟩, I.bs, Nat.le_trans I.ok.bsz I.sz, fun b o e hb => ?_, fun b hb z => ?_, I.stack, I.stkFree⟩
    · rcases hy with hy | hy
      · exact absurd rfl (hcell _ (PySem.mem_of_lookup (show scope.names.lookup y = some .cell from hy)))
      · obtain ⟨c, h1, _⟩ := look (show scope.names.lookup y = some .free from hy)
        exact ⟨c, h1⟩
    · exact Nat.ne_of_lt (Nat.lt_of_lt_of_le (hfp b hb).2 hC)
    · exact (hfp b hb).1.2.2.2.2.1 y c (cm e).1 z
    · rcases (hfp b hb).1.2.2.2.1 with z | z
      · exact I.ok.noex b o e z
      · exact absurd (Nat.lt_of_lt_of_le (Heap.lt_size e) (Nat.le_trans I.ok.bsz z)) (Nat.lt_irrefl _)
    · rcases List.mem_cons.mp (I.stkSub b z) with z | z
      · exact (hfp b hb).1.2.1 z
      · exact (hfp b hb).1.2.2.1 z
  refine ⟨okB, os, bare, Un.kept kp, ⟨m0, hn, fun i y av e1 e2 e3 => ?_⟩, fun y c e => ?_, young C hC, fun y c e => I.freeC y c (cm e).1, fun p hp' => ?_, I.hok.kept kp, by rw [wipe_length]; exact I.len⟩
  · obtain ⟨e2, hne⟩ := wipe_some e2
    have hfr : scope.names.lookup y = some .free := by
      have no : ∀ k, scope.names.lookup y = some k → ¬ (k = .local ∨ k = .cell) := fun k e hh => by
        rcases ok.own _ (PySem.mem_of_lookup e) hh with e' | e'
        · obtain ⟨p, hp, hpy⟩ := List.mem_map.mp e'
          have e3 := ok.ix p hp
          have : p.1 = y := hpy
          rw [this] at e3
          exact hne (List.mem_map.mpr ⟨p, hp, nodup_ix hN e3 e1⟩)
        · exact e' (List.mem_of_getElem? e1)
      have e3 : Vis scope y := e3
      rcases e3 with e3 | e3 | e3
      · exact absurd (.inl rfl) (no _ e3)
      · exact absurd (.inr rfl) (no _ e3)
      · exact e3
    obtain ⟨m, hn, hl⟩ := I.loc
    have hvis : Vis X.env.scope y := (ok.free _ (PySem.mem_of_lookup hfr) rfl).elim (fun k => .inr (.inl k)) (fun k => .inr (.inr k))
    obtain ⟨w, r, q⟩ := hl i y av e1 e2 hvis
    refine ⟨w, r, .inr ⟨.inr hfr, ?_⟩⟩
    obtain ⟨c, h1, h2⟩ := look hfr
    rcases q with ⟨k, _⟩ | ⟨_, c', e', z⟩
    · have k : X.env.scope.names.lookup y = some .local := k
      rcases ok.free _ (PySem.mem_of_lookup hfr) rfl with k' | k' <;> rw [show X.env.scope.names.lookup y = _ from k'] at k <;> cases k
    · rw [h2] at e'; cases e'
      exact ⟨c, h1, z.keeps kp⟩
  · obtain ⟨w, z⟩ := I.cell y c (cm e).1
    exact ⟨w, z.keeps kp⟩
  · obtain ⟨h1, h2, h3, h4⟩ := hp p hp'
    refine ⟨h1, young _ h2, h3, fun z => ?_, h4⟩
    have := I.stkSub _ z
    rcases List.mem_cons.mp this with z | z
    · have := I.lt
      rw [z] at h2
      exact absurd (Nat.lt_of_lt_of_le this h2) (Nat.lt_irrefl _)
    · exact I.nofs h2 z

/-- the consumer has written its own objects -/
theorem woken {cp cp' ip : List (Addr × Obj)} {s' : Shared} (I : Inv X (cp ++ ip) σ H s) (ap : ∀ p ∈ cp, X.s_0.heap.objs.size ≤ p.1) (apart : ∀ p ∈ X.pn ++ ip, p.1 ∉ cp.map (·.1)) (same : cp'.map (·.1) = cp.map (·.1))
    (os : s'.os = s.os) (bare : AllBare s'.gens) (keep : ∀ b o, b ∉ cp.map (·.1) → s.heap.get? b = some o → s'.heap.get? b = some o) (at' : ∀ p ∈ cp', s'.heap.get? p.1 = some p.2 ∧ ∀ v, p.2.data ≠ .cell v) : Inv X (cp' ++ ip) σ H s' := by
  have pin : ∀ b ∈ cp.map (·.1), ∃ p ∈ cp, p.1 = b ∧ s.heap.get? b = some p.2 ∧ H b = none ∧ b ≠ X.env.locals ∧ b ∉ X.fs ∧ ∀ v, p.2.data ≠ .cell v := fun b hb => by
    obtain ⟨p, hp, rfl⟩ := List.mem_map.mp hb
    obtain ⟨h1, h2, h3, h4, h5⟩ := I.pin p (List.mem_append_right _ (List.mem_append_left _ hp))
    exact ⟨p, hp, rfl, h1, h2, h3, h4, h5⟩
  have I0 : Inv X ip σ H s := I.pins_of fun p hp => I.pin p (List.mem_append_right _ (List.mem_append_right _ hp))
  obtain ⟨hh, g, d, t, o⟩ := s'
  have ho : o = s.os := os
  subst ho
  have nt : ∀ b u, H b = some u → b ∉ cp.map (·.1) := fun b u q hb => by
    obtain ⟨p, _, _, _, h, _⟩ := pin b hb
    rw [q] at h; cases h
  have J : Inv X ip σ H { s with heap := hh, gens := g, drawn := d, toks := t } := by
    refine I0.step (g' := g) (t' := t) (d' := d) (ch := cp.map (·.1)) (fun b hb => ?_)
      (fun b ob _ _ hc q _ => keep b ob hc q) (fun b ob _ _ hc q _ => ⟨ob.slots, keep b ob hc q⟩) (fun _ _ _ _ n => n) (fun b ob hc q => ⟨ob, keep b ob hc q⟩)
      (fun _ _ q => q) (fun _ _ _ q => q) (fun b ps q => ⟨#[], by rw [q]; simp⟩) (fun m hm => ?_) (fun b u q => ?_) bare
    · obtain ⟨p, hp, e, h1, _, h3, _, h5⟩ := pin b hb
      refine ⟨.inr (by rw [← e]; exact ap p hp), h3, fun x c hc z => ?_, fun q hq z => ?_⟩
      · obtain ⟨v, oc, ec, dc⟩ := I.cell x c hc
        rw [z, h1] at ec
        cases ec
        exact h5 _ dc
      · exact apart q hq (by rw [z]; exact hb)
    · obtain ⟨ob, es, ep, ho, r⟩ := hm
      exact ⟨ob, es, ep, keep _ ob (fun z => by obtain ⟨_, _, _, _, _, h3, _⟩ := pin _ z; exact h3 rfl) ho, r⟩
    · refine (I0.hok b u q).stay (fun c v hc y => keep c v ?_ y) (fun _ y => y) fun _ _ y => y
      rcases hc with y | y
      · rw [y]; exact nt b u q
      · exact nt c _ y
  refine J.pins_of fun p hp => ?_
  rcases List.mem_append.mp hp with hp | hp
  · obtain ⟨h1, h2⟩ := at' p hp
    obtain ⟨_, _, _, _, h3, h4, h5, _⟩ := pin p.1 (by rw [← same]; exact List.mem_map.mpr ⟨p, hp, rfl⟩)
    exact ⟨h1, h3, h4, h5, h2⟩
  · exact J.pin p (List.mem_append_right _ hp)
end
end GX
set_option Elab.async false
set_option linter.all false
set_option maxRecDepth 100000
set_option maxHeartbeats 2000000
/-! the loop of a generator expression -/
namespace GX
open PySem PySem.Spec PyProof.Rows L2

/-- what the one who drains it keeps (β), and wants: W: ahead of turn i, m turns at most are left; C: an item has come; D: no item is left; Pin: its own objects -/
structure Drain (β : Type) where
  W : β → Nat → Nat → Hp → Prop
  C : β → V → Hp → (β → Hp → Prop) → Prop
  D : β → Hp → Prop
  Pin : β → List (Addr × Obj) → Prop
section
variable {β : Type}
def Turns (J : It) (g : TG) (tt : TT) (te : TE) (σ : L2.St) (vs : List Nat) (Z : Drain β) : Prop := ∀ b i m H, Z.W b i m H → (J.stop i H ∧ Z.D b H) ∨ (J.go i H ∧ ∃ Nx : β → Hp → Prop, (∀ b' H', Nx b' H' → ∃ m', m' < m ∧ Z.W b' (i + 1) m' H') ∧
  ∀ x H', J.yld i H x H' → g x (wipe σ vs) H' fun σ2 H2 => wipe σ2 vs = wipe σ vs ∧ tt σ2 H2 fun k H3 => if k = true then te σ2 H3 fun y H4 => Z.C b y H4 Nx else Nx b H3)
def GYp (X : Cx) (ca : List Addr) (Z : Drain β) : Protocol := fun n s₀ v s kap => ∃ b y H σ2 pl cp, ∃ Nx : β → Hp → Prop, RelV y v ∧ Z.Pin b cp ∧ cp.map (·.1) = ca ∧ Inv X (cp ++ pl) σ2 H s ∧ Z.C b y H Nx ∧
  ∀ b' cp' (s' : Shared), Nx b' H → Z.Pin b' cp' → cp'.map (·.1) = ca → s'.os = s.os → AllBare s'.gens → (∀ a o, a ∉ ca → s.heap.get? a = some o → s'.heap.get? a = some o) → (∀ p ∈ cp', s'.heap.get? p.1 = some p.2 ∧ ∀ v, p.2.data ≠ .cell v) → kap (.send .none) s'
/-- no item is left -/
def GEn (X : Cx) (ca : List Addr) (σ : L2.St) (Z : Drain β) (n : Nat) (s₀ s : Shared) : Prop := ∃ b cp H, Z.Pin b cp ∧ cp.map (·.1) = ca ∧ Inv X cp σ H s ∧ Z.D b H
theorem seg_gx {Z : Drain β} {A : Around} {X : Cx} {J : It} {it : Addr} {fp ca : List Addr} {tn : Nat → Heap → Prop} {tg iter elt : Expr} {ifs : List Expr} {scope : Scope} {pos : Pos} {g : TG} {tt : TT} {te : TE} {σ : L2.St} {vs : List Nat}
    (hA : X.A = A.deeper X.env) (hc : X.calm = true) (hxe : X.xe = fun _ _ => False) (hex : X.ex = fp) (T : Turn X.prog X.w X.K tg J fp it tn) (pg : PG X tg g) (pt : PTs X ifs tt) (pe : PE X elt te) (hco : X.env.scope.isCoroutine = false)
    (young : ∀ a ∈ ca, X.s_0.heap.objs.size ≤ a) (apart : ∀ p ∈ X.pn, p.1 ∉ ca) (hfn : ∀ p ∈ X.pn, p.1 ∉ fp) (hfa : ∀ b ∈ fp, b ∉ ca) (turn : Turns J g tt te σ vs Z) :
    ∀ (m n : Nat) (b : β) (i : Nat) (s₀ s : Shared) (H : Hp) (cp : List (Addr × Obj)), m < n → Z.W b i m H → Z.Pin b cp → cp.map (·.1) = ca → Inv X cp (wipe σ vs) H s → tn i s.heap → (∀ b ∈ fp, H b = none) →
      Seg (model X.prog X.w) A (fun n s₀ r s₁ => r = .ok .next ∧ GEn X ca (wipe σ vs) Z n s₀ s₁) (GYp X ca Z) n s₀ (.compLoop (.GeneratorExp elt [⟨tg, iter, ifs, 0⟩] scope pos) 0 (.ref it) .none X.env)
        ((model X.prog X.w).den (.compLoop (.GeneratorExp elt [⟨tg, iter, ifs, 0⟩] scope pos) 0 (.ref it) .none X.env)) [] s := by
  have stat : ∀ {cp : List (Addr × Obj)} {σ' : L2.St} {H' : Hp} {s' : Shared}, cp.map (·.1) = ca → Inv X cp σ' H' s' → (∀ b ∈ fp, H' b = none) → ∀ b ∈ fp, FpOk X cp H' b := fun {cp σ' H' s'} hcp I' hn b hb => by
    have hbe : b ∈ X.ex := by rw [hex]; exact hb
    refine ⟨hn b hb, (I'.ok.exf b hbe).1, I'.ok.exfs b hbe, .inl hbe, fun x c e => (I'.ok.exf b hbe).2 x c e, fun p hp z => ?_⟩
    rcases List.mem_append.mp hp with hp | hp
    · exact hfn p hp (by rw [z]; exact hb)
    · exact hfa b hb (by rw [← hcp, ← z]; exact List.mem_map.mpr ⟨p, hp, rfl⟩)
  intro m
  induction m using Nat.strongRecOn with
  | ind m ih =>
    intro n b i s₀ s H cp hmn w hpin hcp I st nf
    have over : A.over (.compLoop (.GeneratorExp elt [⟨tg, iter, ifs, 0⟩] scope pos) 0 (.ref it) .none X.env) [] = X.A := by rw [over_loop, hA]
    show Seg _ A _ _ _ s₀ _ ((compTurn (.GeneratorExp elt [⟨tg, iter, ifs, 0⟩] scope pos) 0 (.ref it) .none X.env).onRaise (leaving X.env)) [] s
    rw [compTurn_gen, Sem.onRaise_eq_wrap]
    refine seg_bind_wrap (wpAny_standAt ?_)
    rcases turn b i m H w with ⟨stop, dn⟩ | ⟨go, Nx, hNx, step⟩
    · refine seg_bind_wrap ?_
      rw [over]
      refine thnF (T.done X rfl rfl rfl hc i cp s _ H (fun _ _ => False) I (stat hcp I nf) st stop) fun r s6 ⟨hr, I6⟩ => ?_
      subst hr
      exact seg_end (.ok .next) ⟨rfl, b, cp, H, hpin, hcp, I6, dn⟩
    · refine seg_bind_wrap ?_
      rw [over]
      refine thnF (T.item X rfl rfl rfl hc i cp s _ H (fun _ _ => False) I (stat hcp I nf) st go) fun r s6 ⟨u, hr, h6⟩ => ?_
      subst hr
      refine seg_bind_wrap ?_
      rw [over]
      refine thnF h6 fun _ s7 ⟨x, H7, I7, r7, y7, st7, n7⟩ => ?_
      have I7' := I7.pinned (stat hcp I7 n7) (T.obj _ _ st7)
      refine seg_bind_wrap ?_
      rw [over]
      have r8 := pg.run _ s7 _ H7 x u _ I7' r7 (step x H7 y7)
      rw [hxe] at r8
      refine thnF r8 fun _ s8 ⟨σ8, H8, I8, hw8, q8⟩ => ?_
      refine seg_bind_wrap ?_
      rw [over]
      have r9 := pt.run _ s8 σ8 H8 _ I8 q8
      rw [hxe] at r9
      refine thnF r9 fun k s9 ⟨H9, I9, q9⟩ => ?_
      -- the turn's end
      have fin : ∀ {n' : Nat} {b' : β} {cp' : List (Addr × Obj)} {s₁ s' : Shared} {H' : Hp}, m ≤ n' → cp'.map (·.1) = ca → Z.Pin b' cp' → Inv X (cp' ++ pinsAt fp s7.heap) σ8 H' s' → Nx b' H' →
          Seg (model X.prog X.w) A (fun n s₀ r s₁ => r = .ok .next ∧ GEn X ca (wipe σ vs) Z n s₀ s₁) (GYp X ca Z) n' s₁ (.compLoop (.GeneratorExp elt [⟨tg, iter, ifs, 0⟩] scope pos) 0 (.ref it) .none X.env)
            ((model X.prog X.w).den (.compLoop (.GeneratorExp elt [⟨tg, iter, ifs, 0⟩] scope pos) 0 (.ref it) .none X.env)) [] s' := fun {n' b' cp' s₁ s' H'} hmn' hcp' hpin' I' nx => by
        obtain ⟨m', hm, w'⟩ := hNx b' H' nx
        have pin' : ∀ b ∈ fp, ∀ o, s7.heap.get? b = some o → s'.heap.get? b = some o ∧ H' b = none := fun b hb o e =>
          let z := I'.pin (b, o) (List.mem_append_right _ (List.mem_append_right _ (mem_pinsAt hb e)))
          ⟨z.1, z.2.1⟩
        have hl : (wipe σ vs).length = σ8.length := by rw [← hw8, wipe_length]
        refine ih m' hm n' b' (i + 1) s₁ s' H' cp' (by omega) w' hpin' hcp' ((I'.unpinned (pins := cp')).weak hl (fun j v e => ?_)) (T.keep _ _ _ st7 fun b hb o e => (pin' b hb o e).1) fun b hb => ?_
        · rw [← hw8] at e
          exact (wipe_some e).1
        · obtain ⟨o, e, _⟩ := T.obj _ _ st7 b hb
          exact (pin' b hb o e).2
      cases k with
      | false =>
        simp only [Bool.false_eq_true, if_false] at q9 ⊢
        obtain ⟨m', hm, w'⟩ := hNx b H9 q9
        refine seg_again rfl ?_
        have pin' : ∀ b ∈ fp, ∀ o, s7.heap.get? b = some o → s9.heap.get? b = some o ∧ H9 b = none := fun b hb o e =>
          let z := I9.pin (b, o) (List.mem_append_right _ (List.mem_append_right _ (mem_pinsAt hb e)))
          ⟨z.1, z.2.1⟩
        have hl : (wipe σ vs).length = σ8.length := by rw [← hw8, wipe_length]
        refine ih m' hm n b (i + 1) s₀ s9 H9 cp (by omega) w' hpin hcp ((I9.unpinned (pins := cp)).weak hl (fun j v e => ?_)) (T.keep _ _ _ st7 fun b hb o e => (pin' b hb o e).1) fun b hb => ?_
        · rw [← hw8] at e
          exact (wipe_some e).1
        · obtain ⟨o, e, _⟩ := T.obj _ _ st7 b hb
          exact (pin' b hb o e).2
      | true =>
        simp only [if_true] at q9 ⊢
        obtain ⟨n, rfl⟩ : ∃ n', n = n' + 1 := ⟨n - 1, by omega⟩
        have hy : ∀ v, yieldOut X.env v = yieldValue v := fun v => by simp only [yieldOut, hco, Bool.false_eq_true, if_false]
        simp only [hy]
        rw [Sem.bind_eq_wrap', Sem.bind_eq_wrap', Sem.wrap_wrap, Sem.wrap_wrap]
        refine seg_wrap ?_
        rw [over]
        have r10 := pe.run _ s9 σ8 H9 _ I9 q9
        rw [hxe] at r10
        refine thnF r10 fun z s10 ⟨yv, H10, I10, r, cc⟩ => ?_
        refine seg_at (seg_yield rfl rfl rfl ⟨b, yv, H10, σ8, _, cp, Nx, r, hpin, hcp, I10, cc, fun b' cp' s' nx hpin' hcp' os bare keep at' => ?_⟩)
        refine seg_again rfl (fin (by omega) hcp' hpin' (woken I10 (fun p hp => young _ (by rw [← hcp]; exact List.mem_map.mpr ⟨p, hp, rfl⟩)) (fun p hp z => ?_) (by rw [hcp', hcp]) os bare (by rw [hcp]; exact keep) at') nx)
        rw [hcp] at z
        rcases List.mem_append.mp hp with hp | hp
        · exact apart p hp z
        · exact hfa _ (of_pinsAt hp).1 z
theorem seg_start {Z : Drain β} {A : Around} {X : Cx} {J : It} {it : Addr} {fp ca : List Addr} {tn : Nat → Heap → Prop} {tg iter elt : Expr} {ifs : List Expr} {scope : Scope} {pos : Pos} {g : TG} {tt : TT} {te : TE} {σ : L2.St} {vs : List Nat}
    (hA : X.A = A.deeper X.env) (hc : X.calm = true) (hxe : X.xe = fun _ _ => False) (hex : X.ex = fp) (T : Turn X.prog X.w X.K tg J fp it tn) (pg : PG X tg g) (pt : PTs X ifs tt) (pe : PE X elt te) (hco : X.env.scope.isCoroutine = false)
    (young : ∀ a ∈ ca, X.s_0.heap.objs.size ≤ a) (apart : ∀ p ∈ X.pn, p.1 ∉ ca) (hfn : ∀ p ∈ X.pn, p.1 ∉ fp) (hfa : ∀ b ∈ fp, b ∉ ca) (turn : Turns J g tt te σ vs Z)
    {m n : Nat} {b : β} {s₀ s : Shared} {H : Hp} {cp : List (Addr × Obj)} (hmn : m < n) (w : Z.W b 0 m H) (hpin : Z.Pin b cp) (hcp : cp.map (·.1) = ca) (I : Inv X cp (wipe σ vs) H s) (st : tn 0 s.heap) (nf : ∀ b ∈ fp, H b = none) :
      Seg (model X.prog X.w) A (fun n s₀ r s₁ => r = .ok .next ∧ GEn X ca (wipe σ vs) Z n s₀ s₁) (GYp X ca Z) n s₀ (.compStart (.GeneratorExp elt [⟨tg, iter, ifs, 0⟩] scope pos) 0 (.ref it) .none X.env)
        ((model X.prog X.w).den (.compStart (.GeneratorExp elt [⟨tg, iter, ifs, 0⟩] scope pos) 0 (.ref it) .none X.env)) [] s := by
  have loop := seg_gx (iter := iter) (scope := scope) (pos := pos) hA hc hxe hex T pg pt pe hco young apart hfn hfa turn m n b 0 s₀ s H cp hmn w hpin hcp I st nf
  show Seg _ A _ _ _ s₀ _ ((compStart (.GeneratorExp elt [⟨tg, iter, ifs, 0⟩] scope pos) 0 (.ref it) .none X.env).onRaise (leaving X.env)) [] s
  unfold compStart
  rw [Sem.onRaise_eq_wrap]
  show Seg _ A _ _ _ s₀ _ ((ask >>= _).wrap _ _ _ _) [] s
  refine seg_bind_wrap (wpAny_askSetting ?_)
  split
  · exact seg_again rfl loop
  · first
      | exact seg_bind_wrap (wpAny_rule (seg_bind_wrap (wpAny_standAt (seg_bind_wrap (T.self _ 0 s _ _ st (seg_again rfl loop))))))
      | (refine seg_bind_wrap (wpAny_rule ?_); show Seg _ A _ _ _ s₀ _ ((standAt iter.pos >>= _).wrap _ _ _ _) [] s; exact seg_bind_wrap (wpAny_standAt (seg_bind_wrap (T.self _ 0 s _ _ st (seg_again rfl loop)))))
end
end GX
set_option Elab.async false
set_option linter.all false
set_option maxRecDepth 100000
set_option maxHeartbeats 2000000
/-! the making of a generator expression -/
namespace GX
open PySem PySem.Spec PyProof.Rows L2
section
variable {X : Cx} {pins : List (Addr × Obj)} {σ : L2.St} {H H1 : Hp} {s s1 : Shared}
/-- the making of the code object, in a heap h2 that holds all of s1's -/
theorem code_step {c P : Addr} {ps : Array Value} {gpos : Pos} {scope : Scope} {h2 : Heap} {tk : Nat} {R : Value → Addr → Shared → Prop} {E : Value → Shared → Prop}
    (TB : GxR.TabB X.base X.mg c P) (hcode : X.env.code = .ref c) (I1 : Inv X pins σ H1 s1) (hP : H1 P = some (.tbl ps)) (ht : TriplesOk ps.toList)
    (k2 : ∀ b o, s1.heap.get? b = some o → h2.get? b = some o)
    (hR : ∀ (code : Value) (h3 : Heap) (tk3 : Nat) (ps' : Array Value), Heap.ExtBut P h2 h3 → h2.objs.size ≤ h3.objs.size → h3.get? P = some { cls := .none, data := .fields ps' } →
      (∃ more, ps' = ps ++ more) → TriplesOk ps'.toList → h3.NoLimit → R code builtinsNs { s1 with heap := h3, toks := tk3 }) :
    wpAny (model X.prog X.w) X.A (genexprCode X.env gpos (X.env.qual ++ "<genexpr>") scope) (fun code s₃ => wpAny (model X.prog X.w) X.A (builtinsFor X.env.globals X.env.builtins) (fun bi s₄ => R code bi s₄) E s₃) E { s1 with heap := h2, toks := tk } := by
  have hPs : s1.heap.get? P = some { cls := .none, data := .fields ps } := I1.hok P _ hP
  have hP2 : h2.get? P = some { cls := .none, data := .fields ps } := k2 _ _ hPs
  have cd : PySem.W.CodeHd h2 c P := TB.code.keeps fun b u e => k2 b u (I1.bk b u e)
  have lim2 : h2.NoLimit := I1.nolimit.keeps k2
  have nP : cStatics ≠ P := fun e => by
    obtain ⟨_, ⟨o', es, ep, ho, hd, _⟩, _⟩ := I1.nolimit
    rw [e, hPs] at ho
    cases ho
    cases hd
  have go : ∀ (code : Value) (h3 : Heap) (tk3 : Nat) (ps' : Array Value), Heap.ExtBut P h2 h3 → h2.objs.size ≤ h3.objs.size → h3.get? P = some { cls := .none, data := .fields ps' } →
      (∃ more, ps' = ps ++ more) → TriplesOk ps'.toList →
      wpAny (model X.prog X.w) X.A (builtinsFor X.env.globals X.env.builtins) (fun bi s₄ => R code bi s₄) E { s1 with heap := h3, toks := tk3 } := by
    intro code h3 tk3 ps' hx hsz hP3 hmore ht3
    obtain ⟨bm, ob, e1, e2, e3, e4, e5, e6, e7, e8⟩ := TB.bm
    have keepB : ∀ b u, b ≠ P → s1.heap.get? b = some u → h3.get? b = some u := fun b u hb e => hx b u hb (k2 b u e)
    refine wpAny_builtinsFor (m := X.mg) ?_ e1 e2 (keepB _ _ e4 (I1.bk _ _ e5)) e6 e7 e8 (hR code h3 tk3 ps' hx hsz hP3 hmore ht3 (lim2.extBut hx nP))
    rw [I1.ok.glob]
    exact ((I1.mod.glob.keeps I1.bk).keeps k2).extBut hx TB.gP
  cases hf : codeAmong gpos ps.toList with
  | none =>
    refine wpAny_genexprCodeX hcode (cd.code hP2 ht) (cd.tab hP2) hf fun c' h' tk' hx hge hlt hco' _ htab' _ => ?_
    obtain ⟨o1, vs, f1, tf, fl, tg, inF, tx, tt, op, _, _, _, _, _, _, _, _, _, htr, _⟩ := hco'
    exact go _ h' tk' _ hx (Nat.le_trans hge (Nat.le_of_lt hlt)) htab'.2 ⟨_, rfl⟩ htr
  | some cv =>
    refine wpAny_genexprCode_hit hcode (cd.code hP2 ht) hf ?_
    exact go cv h2 tk ps (Heap.ExtBut.refl _ _) (Nat.le_refl _) hP2 ⟨#[], by simp⟩ ht


/-- a generator that has not begun, its frame's context, and how it goes on -/
def Rdy (X : Cx) (pins : List (Addr × Obj)) (σ : L2.St) (k : Nat) (vs : List Nat) (g : TG) (tt : TT) (te : TE) (J : It) (H : Hp) (a : Addr) (s5 : Shared) : Prop :=
  ∃ (gn : Nat) (c0 : Code) (fp : List Addr) (s4 : Shared) (cenv : Env) (go : Obj), s5.heap.IsGen a gn ∧ s5.gens[gn]? = some (.fresh c0) ∧ s5.heap.get? a = some go ∧ Inv X pins σ H s5 ∧ s4.heap.objs.size ≤ s5.heap.objs.size ∧ s4.os = s5.os ∧
    (∀ A' s' cp σ' H', Inv (gx X A' s4 H cenv fp [(a, go)]) cp σ' H' s' → Inv X pins σ H' s') ∧
    ∀ {β : Type} (Z : Drain β) (A : Around) (ca : List Addr) (cp : List (Addr × Obj)) (s' : Shared) (b : β) (m n : Nat), A.handled = none → A.frames = some X.stack → A.guards = X.A.guards → Room k (A.deeper cenv) → (∀ c ∈ ca, s5.heap.objs.size ≤ c) → s'.os = s5.os → AllBare s'.gens →
      (∀ b o, s5.heap.get? b = some o → s'.heap.get? b = some o) → cp.map (·.1) = ca → (∀ p ∈ cp, s'.heap.get? p.1 = some p.2 ∧ ∀ v, p.2.data ≠ .cell v) → Turns J g tt te σ vs Z → m < n → Z.W b 0 m H → Z.Pin b cp →
      (GenState.fresh c0).Goes (model X.prog X.w) A (fun n s₀ r s₁ => r = .ok .next ∧ GEn (gx X (A.deeper cenv) s4 H cenv fp [(a, go)]) ca (wipe σ vs) Z n s₀ s₁) (GYp (gx X (A.deeper cenv) s4 H cenv fp [(a, go)]) ca Z) n (.send .none) s'
/-- (elt for tg in iter if ..) -/
theorem gx_make {c P : Addr} {tg elt iter : Expr} {gpos : Pos} {ifs : List Expr} {scope : Scope} {own : List (Str × Nat)} {wi : TI} {g : TG} {tt : TT} {te : TE} {k : Nat} {Q' : Value → Shared → Prop} {R : It → Hp → Prop}
    (hr : Room (k + 1) X.A) (hhd : X.A.handled = none) (hN : X.N.Nodup) (TB : GxR.TabB X.base X.mg c P) (hcode : X.env.code = .ref c) (ok : BlkOk X.N X.env.scope scope own) (hcell : ∀ y ∈ scope.names, y.2 ≠ .cell) (hdot : scope.names.lookup (".0" : Str) = some NameKind.local) (hco : scope.isCoroutine = false)
    (hi : PI X tg iter wi) (hs : ∀ v, genFold iter X.env v = pure v)
    (hg : ∀ (A' : Around) (s : Shared) (H : Hp) (C : Addr) (code : Value) (fp : List Addr) (pn : List (Addr × Obj)), Room k A' → A'.guards = X.A.guards → PG (gx X A' s H (genEnv scope (cloFrom X.env.cells scope.names []) C code builtinsNs X.env) fp pn) tg g)
    (ht : ∀ (A' : Around) (s : Shared) (H : Hp) (C : Addr) (code : Value) (fp : List Addr) (pn : List (Addr × Obj)), Room k A' → A'.guards = X.A.guards → PTs (gx X A' s H (genEnv scope (cloFrom X.env.cells scope.names []) C code builtinsNs X.env) fp pn) ifs tt)
    (he : ∀ (A' : Around) (s : Shared) (H : Hp) (C : Addr) (code : Value) (fp : List Addr) (pn : List (Addr × Obj)), Room k A' → A'.guards = X.A.guards → PE (gx X A' s H (genEnv scope (cloFrom X.env.cells scope.names []) C code builtinsNs X.env) fp pn) elt te)
    (I : Inv X pins σ H s) (h : wi σ H fun J H1 => GxR.TabG H1 P ∧ ∀ H2, GxR.Tabbed P H1 H2 → R J H2)
    (hQ : ∀ J H2 a s5, R J H2 → Rdy X pins σ k (own.map (·.2)) g tt te J H2 a s5 → Q' (.ref a) s5) :
    wpAny (model X.prog X.w) X.A (eval (.GeneratorExp elt [⟨tg, iter, ifs, 0⟩] scope gpos) X.env) Q' X.xe s := by
  have hfree : ∀ y ∈ scope.names, y.2 = .free → ∃ c, X.env.cells.lookup y.1 = some c := fun y hy e => by
    rcases ok.free y hy e with k | k
    · exact I.ok.has _ (.inl k)
    · exact I.ok.has _ (.inr k)
  refine wpAny_GeneratorExp_make hco (closure_ok hfree) hcell hdot ok.kind (by have := hr.dp; omega) ?_ hs
  refine thn (hi.run pins s σ H _ I h) fun xv s1 hx => thn hx fun itv s2 h2 => ?_
  obtain ⟨it, fp, tn, J, H2, e, I2, T, st2, f2, ⟨ps, hP, htr⟩, q⟩ := h2
  subst e
  refine ⟨I2.nolimit, ?_⟩
  have hPs : s2.heap.get? P = some { cls := .none, data := .fields ps } := I2.hok P _ hP
  have hPlt : P < s2.heap.objs.size := Heap.lt_size hPs
  refine code_step (s1 := s2) (h2 := s2.heap) (tk := s2.toks) TB hcode I2 hP htr (fun _ _ e => e) fun code h3 tk3 ps' hx3 hsz3 hP3 hmore ht3 lim3 => ?_
  obtain ⟨more, em⟩ := hmore
  intro h6 hn6 hs6
  -- the state ahead of the frame
  generalize hs4 : ({ s2 with heap := h3, toks := tk3 } : Shared) = s4
  have h4 : s4.heap = h3 := by rw [← hs4]
  have I4 : Inv X pins σ (upd H2 P (.tbl ps')) s4 := by
    have J4 := GxR.inv_tab (more := more) (h' := h3) (g' := s2.gens) (d' := s2.drawn) (t' := tk3) I2 hP (fun b o hb e => hx3 b o hb e) (by rw [← em]; exact hP3) I2.bare
    rw [← em] at J4
    rw [← hs4]
    exact J4
  have tab : GxR.Tabbed P H2 (upd H2 P (.tbl ps')) := ⟨⟨ps', upd_same, ht3⟩, fun b hb => upd_ne hb⟩
  generalize hH4 : upd H2 P (.tbl ps') = H4 at I4 tab
  have nP : ∀ b ∈ fp, b ≠ P := fun b hb z => by
    have := (f2 b hb).1
    rw [z, hP] at this; cases this
  have sz2 : ∀ b ∈ fp, b < s2.heap.objs.size := fun b hb => by
    obtain ⟨o, e, _⟩ := T.obj _ _ st2 b hb
    exact Heap.lt_size e
  have f4 : ∀ b ∈ fp, FpOk X pins H4 b ∧ b < s4.heap.objs.size := fun b hb =>
    ⟨⟨by rw [tab.2 b (nP b hb)]; exact (f2 b hb).1, (f2 b hb).2⟩, by rw [h4]; exact Nat.lt_of_lt_of_le (sz2 b hb) hsz3⟩
  have sz6 : h6.objs.size = h3.objs.size + 1 := by rw [hs6.1, Heap.size_push]
  have kp6 : ∀ b o, h3.get? b = some o → h6.get? b = some o := fun b o e => hs6.extBut b o (Nat.ne_of_lt (Heap.lt_size e)) (Heap.get?_push_of_some _ e)
  generalize hgo : ({ cls := .type "generator", data := .fields #[.int s2.gens.size 0, .str "<genexpr>" (tk3 + 1), .str (X.env.qual ++ "<genexpr>") (tk3 + 1 + 1)] } : Obj) = go
  have hgd : ∀ v, go.data ≠ .cell v := fun v z => by rw [← hgo] at z; cases z
  have goAt : (h6.push go).get? h6.objs.size = some go := Heap.get?_push_size _ (by rw [← hgo]; rfl)
  have kp7 : ∀ b o, h3.get? b = some o → (h6.push go).get? b = some o := fun b o e => Heap.get?_push_of_some _ (kp6 b o e)
  have ns7 : (h6.push go).Ns h3.objs.size (fun y => if y = ".0" then some (.ref it) else none) := hn6.push _
  have key : ∀ (s5 : Shared), s5.os = s4.os → s5.heap = h6.push go → s5.gens = s2.gens.push (.fresh (.compStart (.GeneratorExp elt [⟨tg, iter, ifs, 0⟩] scope gpos) 0 (.ref it) .none (genEnv scope (cloFrom X.env.cells scope.names []) h3.objs.size code builtinsNs X.env))) → Q' (.ref h6.objs.size) s5 := by
    intro s5 os5 hh5 hg5
    have bare5 : AllBare s5.gens := by rw [hg5]; exact I2.bare.push rfl
    have kp5 : ∀ b o, s4.heap.get? b = some o → s5.heap.get? b = some o := fun b o e => by rw [hh5]; exact kp7 b o (by rw [← h4]; exact e)
    have I5 : Inv X pins σ H4 s5 := I4.call' (ch := []) os5 (Un.kept kp5) (I4.hok.kept kp5) bare5 fun b hb => absurd hb (by simp)
    refine hQ J H4 h6.objs.size s5 (q _ tab) ⟨s2.gens.size, .compStart (.GeneratorExp elt [⟨tg, iter, ifs, 0⟩] scope gpos) 0 (.ref it) .none (genEnv scope (cloFrom X.env.cells scope.names []) h3.objs.size code builtinsNs X.env), fp, s4, genEnv scope (cloFrom X.env.cells scope.names []) h3.objs.size code builtinsNs X.env, go, ?_, ?_, by rw [hh5]; exact goAt, I5, ?_, os5.symm, fun A' s' cp σ' H' I' => ?_, ?_⟩
    · rw [hh5]
      exact ⟨go, _, _, goAt, by rw [← hgo], by rw [← hgo], by rw [← hgo]⟩
    · rw [hg5]; exact Array.getElem?_push_size ..
    · rw [h4, hh5, Heap.size_push, sz6]; omega
    · exact I4.call' (ch := fp) I'.os I'.base I'.hok I'.bare fun b hb => ⟨(f4 b hb).1.2.2.2.1, (f4 b hb).1.2.1, (f4 b hb).1.2.2.2.2.1, (f4 b hb).1.2.2.2.2.2⟩
    · intro β Z A ca cp s' b m n hA hF hG hR young os' bare' kp' hcp hat turn hmn w hpin
      have e5 : s5.heap.objs.size = h3.objs.size + 1 + 1 := by rw [hh5, Heap.size_push, sz6]
      have g3 : h3.objs.size ≤ s5.heap.objs.size := by rw [e5]; exact Nat.le_trans (Nat.le_succ _) (Nat.le_succ _)
      have g4 : h3.objs.size < s5.heap.objs.size := by rw [e5]; exact Nat.lt_of_lt_of_le (Nat.lt_succ_self _) (Nat.le_succ _)
      have g6 : h6.objs.size < s5.heap.objs.size := by rw [e5, sz6]; exact Nat.lt_succ_self _
      have g2 : s2.heap.objs.size ≤ h6.objs.size := by rw [sz6]; exact Nat.le_trans hsz3 (Nat.le_succ _)
      have kps : ∀ b o, s4.heap.get? b = some o → s'.heap.get? b = some o := fun b o e => kp' b o (kp5 b o e)
      have nsS : s'.heap.Ns h3.objs.size (fun y => if y = ".0" then some (.ref it) else none) := by
        have := ns7
        rw [← hh5] at this
        exact this.keeps kp'
      have hG' : (A.deeper (genEnv scope (cloFrom X.env.cells scope.names []) h3.objs.size code builtinsNs X.env)).guards = X.A.guards := hG
      have I7 := gx_start (A' := A.deeper (genEnv scope (cloFrom X.env.cells scope.names []) h3.objs.size code builtinsNs X.env)) (C := h3.objs.size) (code := code) (pn := [(h6.objs.size, go)]) (cp := cp) (s' := s') I4 ok hcell hN f4 (by rw [h4]; exact Nat.le_refl _) hA
        (by show A.frames.map _ = _; rw [hF]; rfl) (os'.trans os5) bare' kps nsS (fun p hp => ?_)
      · refine ⟨rfl, seg_start (X := gx X (A.deeper (genEnv scope (cloFrom X.env.cells scope.names []) h3.objs.size code builtinsNs X.env)) s4 H4 (genEnv scope (cloFrom X.env.cells scope.names []) h3.objs.size code builtinsNs X.env) fp [(h6.objs.size, go)]) rfl rfl rfl rfl T (hg _ _ _ _ _ _ _ hR hG') (ht _ _ _ _ _ _ _ hR hG') (he _ _ _ _ _ _ _ hR hG') hco
          (fun a ha => ?_) (fun p hp hm => ?_) (fun p hp hm => ?_) (fun b hb hm => ?_) turn hmn w hpin hcp I7 (T.keep _ _ _ st2 fun b hb o e => ?_) fun b hb => (f4 b hb).1.1⟩
        · show s4.heap.objs.size ≤ a
          rw [h4]; exact Nat.le_trans g3 (young a ha)
        · rw [List.mem_singleton.mp hp] at hm
          exact absurd (Nat.lt_of_lt_of_le g6 (young _ hm)) (Nat.lt_irrefl _)
        · rw [List.mem_singleton.mp hp] at hm
          exact absurd (Nat.lt_of_lt_of_le (sz2 _ hm) g2) (Nat.lt_irrefl _)
        · exact absurd (Nat.lt_of_lt_of_le (Nat.lt_of_lt_of_le (sz2 b hb) hsz3) (Nat.le_trans g3 (young b hm))) (Nat.lt_irrefl _)
        · exact kps b o (by rw [h4]; exact hx3 b o (nP b hb) e)
      · rcases List.mem_append.mp hp with hp | hp
        · rw [List.mem_singleton.mp hp]
          refine ⟨kp' _ _ (by rw [hh5]; exact goAt), ?_, ?_, hgd⟩
          · show s4.heap.objs.size ≤ h6.objs.size
            rw [h4, sz6]; exact Nat.le_succ _
          · show h6.objs.size ≠ h3.objs.size
            rw [sz6]; exact Nat.succ_ne_self _
        · have hy := young p.1 (by rw [← hcp]; exact List.mem_map.mpr ⟨p, hp, rfl⟩)
          refine ⟨(hat p hp).1, ?_, ?_, (hat p hp).2⟩
          · rw [h4]; exact Nat.le_trans g3 hy
          · exact Nat.ne_of_gt (Nat.lt_of_lt_of_le g4 hy)
  exact key _ (by rw [← hs4]) (by rw [← hgo, ← hs4]) (by rw [← hs4])
end
end GX
set_option Elab.async false
set_option linter.all false
set_option maxRecDepth 100000
set_option maxHeartbeats 2000000
/-! who drains a generator expression: any, all, tuple, sum -/
namespace GX
open PySem PySem.Spec PyProof.Rows L2
section
variable {X : Cx} {pins : List (Addr × Obj)} {σ : L2.St} {H H1 : Hp} {s s1 : Shared}
theorem tru_same {A : Around} {Q : Bool → Shared → Prop} {E : Value → Shared → Prop} {x : V} {v : Value} {k : Bool} (I : Inv X pins σ H s) (rx : RelV x v) (e : TruV X.K x H k) (q : ∀ t, Q k { s with toks := t }) : wpAny (model X.prog X.w) A (truthy v) Q E s := by
  have hl := line63
  have hs : sizeLine = 16777216 := sizeLine_eq
  have q0 : Q k s := q s.toks
  cases x with
  | non =>
    cases rx
    have e' : k = false := e
    subst e'
    exact truthy_none q0
  | bl b =>
    cases rx
    have e' : k = b := e
    subst e'
    exact wpAny_truthy_bool q0
  | int i =>
    obtain ⟨t, rfl⟩ := rx
    have e' : k = (i != 0) := e
    subst e'
    exact PySem.P.truthy_int q0
  | str y =>
    obtain ⟨t, rfl⟩ := rx
    obtain ⟨hy, e'⟩ : y.length ≤ sizeLine ∧ k = ((y.length : Int) != 0) := e
    subst e'
    exact PySem.P.truthy_str (by omega) (q _)
  | byt y =>
    obtain ⟨t, rfl⟩ := rx
    obtain ⟨hy, e'⟩ : y.size ≤ sizeLine ∧ k = ((y.size : Int) != 0) := e
    subst e'
    exact PySem.W.truthy_bytes (by omega) (q _)
  | ref p =>
    cases rx
    have e' : (∃ xs, SqL X.K H p xs ∧ k = !xs.isEmpty) ∨ (∃ xs, SqT X.K H p xs ∧ k = !xs.isEmpty) ∨ ∃ kvs, H p = some (.dK kvs) ∧ k = !kvs.isEmpty := e
    rcases e' with ⟨xs, hx, e'⟩ | ⟨xs, hx, e'⟩ | ⟨kvs, hx, e'⟩
    · subst e'
      obtain ⟨its, r, pl, hz⟩ := I.list hx
      have hlen := r.length
      exact wpAny_truthy_list pl.isList (by simp only [List.size_toArray]; omega) (by rw [isEmpty_of r]; exact q _)
    · subst e'
      obtain ⟨its, r, pl, hz⟩ := I.tuple hx
      have hlen := r.length
      exact truthy_tuple pl (by simp only [List.size_toArray]; omega) (by rw [isEmpty_of r]; exact q _)
    · subst e'
      obtain ⟨hz, hS, vs, r, m⟩ : kvs.length ≤ sizeLine ∧ (p == sysModules) = false ∧ ∃ vs, KV kvs vs ∧ s.heap.DictOf (mixKind X.prog X.w) p vs := I.hok p _ hx
      have hlen : kvs.length = vs.length := Paired.length r
      exact wpAny_truthy_dict hS m (by omega) (by rw [isEmpty_kv r]; exact q _)
  | _ => exact (show False from e).elim
theorem inv_gens {g' : Array GenState} (I : Inv X pins σ H s) (hg : AllBare g') : Inv X pins σ H { s with gens := g' } :=
  I.call' (s' := { s with gens := g' }) (ch := []) rfl Un.refl I.hok hg fun b hb => absurd hb (by simp)
theorem inv_heap {h' : Heap} (I : Inv X pins σ H s) (k : ∀ b o, s.heap.get? b = some o → h'.get? b = some o) : Inv X pins σ H { s with heap := h' } :=
  I.call' (s' := { s with heap := h' }) (ch := []) rfl (Un.kept k) (I.hok.kept k) I.bare fun b hb => absurd hb (by simp)
theorem room_in {k : Nat} {A : Around} {env : Env} (hr : Room (k + 1) A) (n : Nat) (hn : n ≤ 8) : ∀ A' : Around, A'.handled = A.handled → A'.depth = A.depth → A'.units = A.units + n → Room k (A'.deeper env) := fun A' h1 h2 h3 => by
  obtain ⟨a, b, c⟩ := hr
  refine ⟨by rw [show (A'.deeper env).handled = A'.handled from rfl, h1]; exact a, ?_, ?_⟩
  · show A'.depth + 1 + _ + _ < _
    rw [h2]; omega
  · show A'.units + 3 + _ + _ < _
    rw [h3]; omega
/-- where the drainer stands with the generator -/
structure At' (X : Cx) (a : Addr) (go : Obj) (gn : Nat) (s : Shared) : Prop where
  gen : s.heap.IsGen a gn
  lim : s.heap.NoLimit
theorem at_of {X2 : Cx} {cp : List (Addr × Obj)} {a : Addr} {go : Obj} {gn : Nat} {s5 : Shared} (I : Inv X2 cp σ H s) (hp : X2.pn = [(a, go)]) (h5 : s5.heap.IsGen a gn) (h6 : s5.heap.get? a = some go) : s.heap.IsGen a gn := by
  obtain ⟨e, _⟩ := I.pin (a, go) (List.mem_append_left _ (by rw [hp]; exact List.mem_singleton.mpr rfl))
  obtain ⟨o, nm, qn, ho, r⟩ := h5
  rw [h6] at ho
  cases ho
  exact ⟨go, nm, qn, e, r⟩

/-- what any, all want of an item -/
def DrB (K : PySem.W.Frag) (stop : Bool) (Q : Bool → Hp → Prop) (W : Nat → Nat → Hp → Prop) : Drain Unit :=
  ⟨fun _ => W, fun _ y H Nx => ∃ k, TruV K y H k ∧ if k = stop then Q stop H else Nx () H, fun _ H => Q (!stop) H, fun _ cp => cp = []⟩
theorem any_rdy {k : Nat} {vs : List Nat} {g : TG} {tt : TT} {te : TE} {J : It} {a : Addr} {s5 : Shared} {Q : Bool → Hp → Prop} {W : Nat → Nat → Hp → Prop} {m : Nat} {E : Value → Shared → Prop}
    (hr : Room (k + 1) X.A) (hf : X.A.frames = some X.stack) (hG : Rdy X pins σ k vs g tt te J H a s5) (turn : Turns J g tt te σ vs (DrB X.K true Q W)) (w : W 0 m H) :
    wpAny (model X.prog X.w) X.A (call (.builtin "any") [.ref a]) (EP X pins σ fun v H' => ∃ b, v = .bl b ∧ Q b H') E s5 := by
  obtain ⟨gn, c0, fp, s4, cenv, go, hg5, hgs5, hgo5, I5, hsz, hos, back, goes⟩ := hG
  refine call_function_tree F.kind_any F.plain_any F.entry_any (F.args_any1 _) ?_
  unfold Builtin.«any»
  refine wpAny_bind (m := oneArg "any" _) (wpAny_pure ?_)
  refine wpAny_bind (wpAny_pyIter_gen hg5 ?_)
  refine wpAny_pure ⟨plainId_quiet F.plain_any_loop _, ?_⟩
  have loop : ∀ (n : Nat) (s : Shared) (gs : GenState), s.heap.IsGen a gn → s.heap.NoLimit → s.gens[gn]? = some gs →
      gs.Goes (model X.prog X.w) X.A.in1.in1 (fun n s₀ r s₁ => r = .ok .next ∧ GEn (gx X (X.A.in1.in1.deeper cenv) s4 H cenv fp [(a, go)]) [] (wipe σ vs) (DrB X.K true Q W) n s₀ s₁) (GYp (gx X (X.A.in1.in1.deeper cenv) s4 H cenv fp [(a, go)]) [] (DrB X.K true Q W)) n (.send .none) (s.setGen gn .running) →
      codeAny (model X.prog X.w) X.A (.builtin "any.loop" ⟨[.ref a], []⟩) (fun r s' => ∃ b, r = .ok (.ret (.bool b)) ∧ ∃ H', Inv X pins σ H' s' ∧ Q b H') s := by
    intro n
    induction n with
    | zero =>
      intro s gs hg hl hgs hgo'
      refine codeAny_builtin F.entry_any_loop ?_
      rw [Around.under_plainId F.plain_any_loop _]
      show wpAny _ X.A.in1 (pyNext (.ref a) >>= _) _ _ s
      refine wpAny_bind (wpAny_pyNext_genexpQ (A := X.A.in1) hr.hd hl (by have := hr.dp; show X.A.depth < _; omega) hg hgs hgo' (fun v s₁ gs' hb hv => ?_) (fun s₁ hp h' hk => ?_))
      · obtain ⟨b, y, H7, σ7, pl, cp7, Nx, rv, hpin, hcp, I7, ⟨kk, tk, cc⟩, hk⟩ := hv
        have I8 : Inv X pins σ H7 (s₁.setGen gn gs') := inv_gens (back _ _ _ _ _ I7) (allBare_setGen I7.bare hb)
        refine wpAny_bind (wpAny_holding (tru_same I8 rv tk fun t => ?_))
        refine wpAny_bind (wpAny_letGo ?_)
        cases kk with
        | true =>
          rw [if_pos rfl] at cc
          simp only [Bool.false_eq_true, if_true, if_false]
          exact wpAny_bind (wpAny_rule (wpAny_pure ⟨true, rfl, H7, I8.tok _, cc⟩))
        | false =>
          rw [if_neg (by decide)] at cc
          have hcp0 : cp7 = [] := hpin
          subst hcp0
          exact (hk () [] s₁ cc rfl rfl rfl I7.bare (fun _ _ _ e => e) (fun p hp => absurd hp (by simp))).elim
      · obtain ⟨b, cp7, H7, hpin, hcp, I7, dd⟩ := hp
        have I8 : Inv X pins σ H7 { s₁.setGen gn .finished with heap := h' } := inv_heap (inv_gens (back _ _ _ _ _ I7) (allBare_setGen I7.bare rfl)) hk
        exact wpAny_bind (wpAny_rule (wpAny_pure ⟨false, rfl, H7, I8, dd⟩))
    | succ n ih =>
      intro s gs hg hl hgs hgo'
      have hgl : gn < s.gens.size := (Array.getElem?_eq_some_iff.mp hgs).1
      refine codeAny_builtin F.entry_any_loop ?_
      rw [Around.under_plainId F.plain_any_loop _]
      show wpAny _ X.A.in1 (pyNext (.ref a) >>= _) _ _ s
      refine wpAny_bind (GenW.wpAny_gsz (n := gn + 1) hgl (wpAny_pyNext_genexpQ (A := X.A.in1) hr.hd hl (by have := hr.dp; show X.A.depth < _; omega) hg hgs hgo' (fun v s₁ gs' hb hv => ?_) (fun s₁ hp h' hk => ?_)))
      · intro hsz'
        obtain ⟨b, y, H7, σ7, pl, cp7, Nx, rv, hpin, hcp, I7, ⟨kk, tk, cc⟩, hk⟩ := hv
        have I8 : Inv X pins σ H7 (s₁.setGen gn gs') := inv_gens (back _ _ _ _ _ I7) (allBare_setGen I7.bare hb)
        refine wpAny_bind (wpAny_holding (tru_same I8 rv tk fun t => ?_))
        refine wpAny_bind (wpAny_letGo ?_)
        cases kk with
        | true =>
          rw [if_pos rfl] at cc
          simp only [Bool.false_eq_true, if_true, if_false]
          exact wpAny_bind (wpAny_rule (wpAny_pure ⟨true, rfl, H7, I8.tok _, cc⟩))
        | false =>
          rw [if_neg (by decide)] at cc
          simp only [Bool.false_eq_true, if_true, if_false]
          have hcp0 : cp7 = [] := hpin
          subst hcp0
          have hs1 : gn < s₁.gens.size := by
            have q : (s₁.setGen gn gs').gens.size = s₁.gens.size := GenW.setGen_size _ _ _
            have hsz'' : gn + 1 ≤ (s₁.setGen gn gs').gens.size := hsz'
            omega
          have I9 : Inv X pins σ H7 { s₁.setGen gn gs' with toks := t } := I8.tok _
          refine wpAny_pure ⟨plainId_quiet F.plain_any_loop _, ih _ gs' ?_ I9.nolimit (setGen_at hs1) ?_⟩
          · exact at_of (X2 := gx X (X.A.in1.in1.deeper cenv) s4 H cenv fp [(a, go)]) (s := s₁) (s5 := s5) I7 rfl hg5 hgo5
          · exact hk () [] _ cc rfl rfl rfl (allBare_setGen (s := { s₁.setGen gn gs' with toks := t }) (allBare_setGen I7.bare hb) rfl) (fun _ _ _ e => e) (fun p hp => absurd hp (by simp))
      · intro hsz'
        obtain ⟨b, cp7, H7, hpin, hcp, I7, dd⟩ := hp
        have I8 : Inv X pins σ H7 { s₁.setGen gn .finished with heap := h' } := inv_heap (inv_gens (back _ _ _ _ _ I7) (allBare_setGen I7.bare rfl)) hk
        exact wpAny_bind (wpAny_rule (wpAny_pure ⟨false, rfl, H7, I8, dd⟩))
  refine codeAny_mono (loop (m + 1) s5 (.fresh c0) hg5 I5.nolimit hgs5 ?_) fun r s' hr' => ?_
  · exact goes (DrB X.K true Q W) X.A.in1.in1 [] [] _ () m (m + 1) hr.hd hf rfl (room_in hr 2 (by decide) _ rfl rfl rfl) (fun c hc => absurd hc (by simp)) rfl (allBare_setGen I5.bare rfl) (fun _ _ e => e) rfl (fun p hp => absurd hp (by simp)) turn (Nat.lt_succ_self _) w rfl
  · obtain ⟨b, rfl, H', I', q⟩ := hr'
    exact ⟨.bl b, H', I', rfl, b, rfl, q⟩
theorem all_rdy {k : Nat} {vs : List Nat} {g : TG} {tt : TT} {te : TE} {J : It} {a : Addr} {s5 : Shared} {Q : Bool → Hp → Prop} {W : Nat → Nat → Hp → Prop} {m : Nat} {E : Value → Shared → Prop}
    (hr : Room (k + 1) X.A) (hf : X.A.frames = some X.stack) (hG : Rdy X pins σ k vs g tt te J H a s5) (turn : Turns J g tt te σ vs (DrB X.K false Q W)) (w : W 0 m H) :
    wpAny (model X.prog X.w) X.A (call (.builtin "all") [.ref a]) (EP X pins σ fun v H' => ∃ b, v = .bl b ∧ Q b H') E s5 := by
  obtain ⟨gn, c0, fp, s4, cenv, go, hg5, hgs5, hgo5, I5, hsz, hos, back, goes⟩ := hG
  refine call_function_tree F.kind_all F.plain_all F.entry_all (F.args_all1 _) ?_
  unfold Builtin.«all»
  refine wpAny_bind (m := oneArg "all" _) (wpAny_pure ?_)
  refine wpAny_bind (wpAny_pyIter_gen hg5 ?_)
  refine wpAny_pure ⟨plainId_quiet F.plain_all_loop _, ?_⟩
  have loop : ∀ (n : Nat) (s : Shared) (gs : GenState), s.heap.IsGen a gn → s.heap.NoLimit → s.gens[gn]? = some gs →
      gs.Goes (model X.prog X.w) X.A.in1.in1 (fun n s₀ r s₁ => r = .ok .next ∧ GEn (gx X (X.A.in1.in1.deeper cenv) s4 H cenv fp [(a, go)]) [] (wipe σ vs) (DrB X.K false Q W) n s₀ s₁) (GYp (gx X (X.A.in1.in1.deeper cenv) s4 H cenv fp [(a, go)]) [] (DrB X.K false Q W)) n (.send .none) (s.setGen gn .running) →
      codeAny (model X.prog X.w) X.A (.builtin "all.loop" ⟨[.ref a], []⟩) (fun r s' => ∃ b, r = .ok (.ret (.bool b)) ∧ ∃ H', Inv X pins σ H' s' ∧ Q b H') s := by
    intro n
    induction n with
    | zero =>
      intro s gs hg hl hgs hgo'
      refine codeAny_builtin F.entry_all_loop ?_
      rw [Around.under_plainId F.plain_all_loop _]
      show wpAny _ X.A.in1 (pyNext (.ref a) >>= _) _ _ s
      refine wpAny_bind (wpAny_pyNext_genexpQ (A := X.A.in1) hr.hd hl (by have := hr.dp; show X.A.depth < _; omega) hg hgs hgo' (fun v s₁ gs' hb hv => ?_) (fun s₁ hp h' hk => ?_))
      · obtain ⟨b, y, H7, σ7, pl, cp7, Nx, rv, hpin, hcp, I7, ⟨kk, tk, cc⟩, hk⟩ := hv
        have I8 : Inv X pins σ H7 (s₁.setGen gn gs') := inv_gens (back _ _ _ _ _ I7) (allBare_setGen I7.bare hb)
        refine wpAny_bind (wpAny_holding (tru_same I8 rv tk fun t => ?_))
        refine wpAny_bind (wpAny_letGo ?_)
        cases kk with
        | false =>
          rw [if_pos rfl] at cc
          simp only [Bool.false_eq_true, if_true, if_false]
          exact wpAny_bind (wpAny_rule (wpAny_pure ⟨false, rfl, H7, I8.tok _, cc⟩))
        | true =>
          rw [if_neg (by decide)] at cc
          have hcp0 : cp7 = [] := hpin
          subst hcp0
          exact (hk () [] s₁ cc rfl rfl rfl I7.bare (fun _ _ _ e => e) (fun p hp => absurd hp (by simp))).elim
      · obtain ⟨b, cp7, H7, hpin, hcp, I7, dd⟩ := hp
        have I8 : Inv X pins σ H7 { s₁.setGen gn .finished with heap := h' } := inv_heap (inv_gens (back _ _ _ _ _ I7) (allBare_setGen I7.bare rfl)) hk
        exact wpAny_bind (wpAny_rule (wpAny_pure ⟨true, rfl, H7, I8, dd⟩))
    | succ n ih =>
      intro s gs hg hl hgs hgo'
      have hgl : gn < s.gens.size := (Array.getElem?_eq_some_iff.mp hgs).1
      refine codeAny_builtin F.entry_all_loop ?_
      rw [Around.under_plainId F.plain_all_loop _]
      show wpAny _ X.A.in1 (pyNext (.ref a) >>= _) _ _ s
      refine wpAny_bind (GenW.wpAny_gsz (n := gn + 1) hgl (wpAny_pyNext_genexpQ (A := X.A.in1) hr.hd hl (by have := hr.dp; show X.A.depth < _; omega) hg hgs hgo' (fun v s₁ gs' hb hv => ?_) (fun s₁ hp h' hk => ?_)))
      · intro hsz'
        obtain ⟨b, y, H7, σ7, pl, cp7, Nx, rv, hpin, hcp, I7, ⟨kk, tk, cc⟩, hk⟩ := hv
        have I8 : Inv X pins σ H7 (s₁.setGen gn gs') := inv_gens (back _ _ _ _ _ I7) (allBare_setGen I7.bare hb)
        refine wpAny_bind (wpAny_holding (tru_same I8 rv tk fun t => ?_))
        refine wpAny_bind (wpAny_letGo ?_)
        cases kk with
        | false =>
          rw [if_pos rfl] at cc
          simp only [Bool.false_eq_true, if_true, if_false]
          exact wpAny_bind (wpAny_rule (wpAny_pure ⟨false, rfl, H7, I8.tok _, cc⟩))
        | true =>
          rw [if_neg (by decide)] at cc
          simp only [Bool.false_eq_true, if_true, if_false]
          have hcp0 : cp7 = [] := hpin
          subst hcp0
          have hs1 : gn < s₁.gens.size := by
            have q : (s₁.setGen gn gs').gens.size = s₁.gens.size := GenW.setGen_size _ _ _
            have hsz'' : gn + 1 ≤ (s₁.setGen gn gs').gens.size := hsz'
            omega
          have I9 : Inv X pins σ H7 { s₁.setGen gn gs' with toks := t } := I8.tok _
          refine wpAny_pure ⟨plainId_quiet F.plain_all_loop _, ih _ gs' ?_ I9.nolimit (setGen_at hs1) ?_⟩
          · exact at_of (X2 := gx X (X.A.in1.in1.deeper cenv) s4 H cenv fp [(a, go)]) (s := s₁) (s5 := s5) I7 rfl hg5 hgo5
          · exact hk () [] _ cc rfl rfl rfl (allBare_setGen (s := { s₁.setGen gn gs' with toks := t }) (allBare_setGen I7.bare hb) rfl) (fun _ _ _ e => e) (fun p hp => absurd hp (by simp))
      · intro hsz'
        obtain ⟨b, cp7, H7, hpin, hcp, I7, dd⟩ := hp
        have I8 : Inv X pins σ H7 { s₁.setGen gn .finished with heap := h' } := inv_heap (inv_gens (back _ _ _ _ _ I7) (allBare_setGen I7.bare rfl)) hk
        exact wpAny_bind (wpAny_rule (wpAny_pure ⟨true, rfl, H7, I8, dd⟩))
  refine codeAny_mono (loop (m + 1) s5 (.fresh c0) hg5 I5.nolimit hgs5 ?_) fun r s' hr' => ?_
  · exact goes (DrB X.K false Q W) X.A.in1.in1 [] [] _ () m (m + 1) hr.hd hf rfl (room_in hr 2 (by decide) _ rfl rfl rfl) (fun c hc => absurd hc (by simp)) rfl (allBare_setGen I5.bare rfl) (fun _ _ e => e) rfl (fun p hp => absurd hp (by simp)) turn (Nat.lt_succ_self _) w rfl
  · obtain ⟨b, rfl, H', I', q⟩ := hr'
    exact ⟨.bl b, H', I', rfl, b, rfl, q⟩
end
end GX
set_option Elab.async false
set_option linter.all false
set_option maxRecDepth 100000
set_option maxHeartbeats 2000000
/-! a generator expression's items, collected: tuple, list -/
namespace GX
open PySem PySem.Spec PyProof.Rows L2
section
variable {X : Cx} {pins : List (Addr × Obj)} {σ : L2.St} {H H1 : Hp} {s s1 : Shared}
/-- what a collector keeps and wants: S its list -/
def DrC (S : Addr) (Q : List V → Hp → Prop) (W : List V → Nat → Nat → Hp → Prop) : Drain (List V) :=
  ⟨W, fun ys y H Nx => ys.length < sizeLine ∧ Nx (ys ++ [y]) H, Q, fun ys cp => ∃ acc c, cp = [(S, lstObj acc c)] ∧ Vals ys acc.toList ∧ ys.length ≤ sizeLine⟩
theorem extend_rdy {vs : List Nat} {a S : Addr} {gn : Nat} {go : Obj} {cenv : Env} {fp : List Addr} {s4 s5 : Shared} {A A2 : Around} {Q : List V → Hp → Prop} {W : List V → Nat → Nat → Hp → Prop} {res : Value}
    (hd : A.handled = none) (hdp : A.depth < recursionLimit) (hg5 : s5.heap.IsGen a gn) (hgo5 : s5.heap.get? a = some go) (hSa : S ≠ a) (hSc : S ≠ cStatics)
    (back : ∀ A' s' cp σ' H', Inv (gx X A' s4 H cenv fp [(a, go)]) cp σ' H' s' → Inv X pins σ H' s') :
    ∀ (n : Nat) (s : Shared) (gs : GenState), s.heap.IsGen a gn → s.heap.NoLimit → s.gens[gn]? = some gs →
      gs.Goes (model X.prog X.w) A.in1.in1 (fun n s₀ r s₁ => r = .ok .next ∧ GEn (gx X A2 s4 H cenv fp [(a, go)]) [S] (wipe σ vs) (DrC S Q W) n s₀ s₁) (GYp (gx X A2 s4 H cenv fp [(a, go)]) [S] (DrC S Q W)) n (.send .none) (s.setGen gn .running) →
      codeAny (model X.prog X.w) A (.builtin "list.extend.loop" ⟨[.ref S, .ref a, res], []⟩) (fun r s' => r = .ok (.ret res) ∧ ∃ ys acc c H', s'.heap.get? S = some (lstObj acc c) ∧ Vals ys acc.toList ∧ ys.length ≤ sizeLine ∧ Inv X pins σ H' s' ∧ Q ys H') s := by
  intro n
  induction n with
  | zero =>
    intro s gs hg hl hgs hgo'
    refine codeAny_builtin F.entry_extend_loop ?_
    rw [Around.under_plainId F.plain_extend_loop _]
    show wpAny _ A.in1 (pyNext (.ref a) >>= _) _ _ s
    refine wpAny_bind (wpAny_pyNext_genexpQ (A := A.in1) hd hl hdp hg hgs hgo' (fun v s₁ gs' hb hv => ?_) (fun s₁ hp h' hk => ?_))
    · obtain ⟨ys, y, H7, σ7, pl, cp7, Nx, rv, ⟨acc, c, ecp, ra, hyl⟩, hcp, I7, ⟨hlt, cc⟩, hk⟩ := hv
      subst ecp
      have eS : s₁.heap.get? S = some (lstObj acc c) := (I7.pin (S, lstObj acc c) (List.mem_append_right _ List.mem_cons_self)).1
      obtain ⟨c', eS'⟩ : ∃ c', (s₁.heap.update S (Obj.mapSeq (·.push v))).get? S = some (lstObj (acc.push v) c') := ⟨_, Heap.get?_update_self _ eS rfl⟩
      refine (hk (ys ++ [y]) [(S, lstObj (acc.push v) c')] { s₁ with heap := s₁.heap.update S (Obj.mapSeq (·.push v)) } cc ⟨_, _, rfl, ?_, ?_⟩ rfl rfl I7.bare (fun b o hb e => ?_) (fun p hp => ?_)).elim
      · rw [Array.toList_push]; exact ra.append (.cons rv .nil)
      · rw [List.length_append, List.length_singleton]; exact hlt
      · exact (Heap.get?_update_other _ _ (fun z => hb (List.mem_singleton.mpr z.symm))).trans e
      · rw [List.mem_singleton.mp hp]
        exact ⟨eS', fun v z => by cases z⟩
    · obtain ⟨ys, cp7, H7, ⟨acc, c, ecp, ra, hyl⟩, hcp, I7, dd⟩ := hp
      subst ecp
      have eS : s₁.heap.get? S = some (lstObj acc c) := (I7.pin (S, lstObj acc c) (List.mem_append_right _ List.mem_cons_self)).1
      exact wpAny_pure ⟨rfl, ys, acc, c, H7, hk _ _ eS, ra, hyl, inv_heap (inv_gens (back _ _ _ _ _ I7) (allBare_setGen I7.bare rfl)) hk, dd⟩
  | succ n ih =>
    intro s gs hg hl hgs hgo'
    have hgl : gn < s.gens.size := (Array.getElem?_eq_some_iff.mp hgs).1
    refine codeAny_builtin F.entry_extend_loop ?_
    rw [Around.under_plainId F.plain_extend_loop _]
    show wpAny _ A.in1 (pyNext (.ref a) >>= _) _ _ s
    refine wpAny_bind (GenW.wpAny_gsz (n := gn + 1) hgl (wpAny_pyNext_genexpQ (A := A.in1) hd hl hdp hg hgs hgo' (fun v s₁ gs' hb hv => ?_) (fun s₁ hp h' hk => ?_)))
    · intro hsz'
      obtain ⟨ys, y, H7, σ7, pl, cp7, Nx, rv, ⟨acc, c, ecp, ra, hyl⟩, hcp, I7, ⟨hlt, cc⟩, hk⟩ := hv
      subst ecp
      have eS : s₁.heap.get? S = some (lstObj acc c) := (I7.pin (S, lstObj acc c) (List.mem_append_right _ List.mem_cons_self)).1
      obtain ⟨c', eS'⟩ : ∃ c', (s₁.heap.update S (Obj.mapSeq (·.push v))).get? S = some (lstObj (acc.push v) c') := ⟨_, Heap.get?_update_self _ eS rfl⟩
      have hsz : acc.size < sizeLine := by
        have e1 := ra.length
        have e2 : acc.toList.length = acc.size := by simp
        omega
      have oth : ∀ b o, b ≠ S → s₁.heap.get? b = some o → (s₁.heap.update S (Obj.mapSeq (·.push v))).get? b = some o := fun b o hb e => (Heap.get?_update_other _ _ (Ne.symm hb)).trans e
      have hs1 : gn < s₁.gens.size := by
        have q : (s₁.setGen gn gs').gens.size = s₁.gens.size := GenW.setGen_size _ _ _
        have hsz'' : gn + 1 ≤ (s₁.setGen gn gs').gens.size := hsz'
        omega
      show wpAny _ A.in1 (updateSeq S (·.push v) >>= _) _ _ _
      refine wpAny_bind ?_
      refine wpAny_updateSeq eS rfl (wpAny_pure ⟨plainId_quiet F.plain_extend_loop _, ?_⟩) (Nat.le_of_lt hsz) (by show (acc.push v).size ≤ sizeLine + 1; rw [Array.size_push]; omega)
      refine ih { s₁.setGen gn gs' with heap := s₁.heap.update S (Obj.mapSeq (·.push v)) } gs' ?_ ?_ (setGen_at hs1) ?_
      · obtain ⟨o, nm, qn, ho, r⟩ := at_of (X2 := gx X A2 s4 H cenv fp [(a, go)]) (s := s₁) (s5 := s5) I7 rfl hg5 hgo5
        exact ⟨o, nm, qn, oth a o (Ne.symm hSa) ho, r⟩
      · obtain ⟨mc, hns, hnn⟩ := I7.nolimit
        exact ⟨mc, hns.at' fun o e => oth _ o (Ne.symm hSc) e, hnn⟩
      · refine hk (ys ++ [y]) [(S, lstObj (acc.push v) c')] _ cc ⟨_, _, rfl, ?_, ?_⟩ rfl rfl (allBare_setGen (s := { s₁.setGen gn gs' with heap := s₁.heap.update S (Obj.mapSeq (·.push v)) }) (allBare_setGen I7.bare hb) rfl) (fun b o hb e => ?_) (fun p hp => ?_)
        · rw [Array.toList_push]; exact ra.append (.cons rv .nil)
        · rw [List.length_append, List.length_singleton]; exact hlt
        · exact oth b o (fun z => hb (List.mem_singleton.mpr z)) e
        · rw [List.mem_singleton.mp hp]
          exact ⟨eS', fun v z => by cases z⟩
    · intro hsz'
      obtain ⟨ys, cp7, H7, ⟨acc, c, ecp, ra, hyl⟩, hcp, I7, dd⟩ := hp
      subst ecp
      have eS : s₁.heap.get? S = some (lstObj acc c) := (I7.pin (S, lstObj acc c) (List.mem_append_right _ List.mem_cons_self)).1
      exact wpAny_pure ⟨rfl, ys, acc, c, H7, hk _ _ eS, ra, hyl, inv_heap (inv_gens (back _ _ _ _ _ I7) (allBare_setGen I7.bare rfl)) hk, dd⟩
/-- the walk of a collector -/
theorem collect_rdy {k : Nat} {vs : List Nat} {g : TG} {tt : TT} {te : TE} {J : It} {a : Addr} {s5 : Shared} {A : Around} {Q : List V → Hp → Prop} {W : List V → Nat → Nat → Hp → Prop} {m j : Nat} {E : Value → Shared → Prop}
    (hr : Room (k + 1) X.A) (hf : X.A.frames = some X.stack) (hA : A.handled = X.A.handled) (hAf : A.frames = X.A.frames) (hAg : A.guards = X.A.guards) (hAd : A.depth = X.A.depth) (hAu : A.units = X.A.units + j) (hj : j + 3 ≤ 8)
    (hG : Rdy X pins σ k vs g tt te J H a s5) (turn : ∀ S, Turns J g tt te σ vs (DrC S Q W)) (w : W [] 0 m H) :
    wpAny (model X.prog X.w) A (collect (.ref a)) (fun us s' => ∃ ys H', Vals ys us ∧ ys.length ≤ sizeLine ∧ Inv X pins σ H' s' ∧ Q ys H') E s5 := by
  obtain ⟨gn, c0, fp, s4, cenv, go, hg5, hgs5, hgo5, I5, hsz, hos, back, goes⟩ := hG
  have hSa : s5.heap.objs.size ≠ a := fun z => by
    have := Heap.lt_size hgo5
    rw [z] at this
    exact Nat.lt_irrefl _ this
  have hSc : s5.heap.objs.size ≠ cStatics := let ⟨_, hn, _⟩ := I5.nolimit; Nat.ne_of_gt hn.lt
  unfold collect
  refine wpAny_bind (wpAny_runValue (codeAny_builtin F.entry_proto_collect ?_))
  rw [Around.under_plainId F.plain_proto_collect _]
  show wpAny _ A.in1 (newList [] >>= fun l => again (.builtin "list.__iadd__" ⟨[l, .ref a], []⟩)) _ _ s5
  refine wpAny_bind (wpAny_newObj_type ?_)
  refine wpAny_pure ⟨plainId_quiet F.plain_list_iadd _, codeAny_builtin F.entry_list_iadd ?_⟩
  rw [Around.under_plainId F.plain_list_iadd _]
  have k1 : ∀ b o, s5.heap.get? b = some o → (s5.heap.push { cls := .type "list", data := .seq ([] : List Value).toArray }).get? b = some o := fun b o e => Heap.get?_push_of_some _ e
  show wpAny _ A.in1 (Builtin.List.listExtendWith (.ref s5.heap.objs.size) (.ref a) (.ref s5.heap.objs.size)) _ _ _
  unfold Builtin.List.listExtendWith
  have gty : ∀ {h : Heap}, (∀ b o, s5.heap.get? b = some o → h.get? b = some o) → h.IsGen a gn := fun {h} q => hg5.keeps q
  refine wpAny_bind (wpAny_typeOf (Heap.IsGen.typeIs (s := { s5 with heap := _ }) (gty k1)) ?_)
  have h1 : Builtin.List.listSameRef (.ref s5.heap.objs.size) (.ref a) = false := by simp [Builtin.List.listSameRef, hSa]
  have h2 : (Value.type "generator" == Value.type "list") = false := by decide
  have h3 : (Value.type "generator" == Value.type "tuple") = false := by decide
  simp only [h1, h2, h3, Bool.or_false, Bool.false_eq_true, if_false]
  refine wpAny_bind (wpAny_pyIter_gen (s := { s5 with heap := _ }) (gty k1) ?_)
  refine wpAny_bind (wpAny_holding ?_)
  unfold Builtin.List.listLengthHint
  refine wpAny_bind (wpAny_specialOf (Heap.IsGen.typeIs (s := { s5 with heap := _ }) (gty k1)) F.gen_no_len ?_)
  show wpAny _ A.in1 (specialOf (Value.ref a) (Str.ofString "__length_hint__") >>= _) _ _ _
  refine wpAny_bind (wpAny_specialOf (Heap.IsGen.typeIs (s := { s5 with heap := _ }) (gty k1)) F.gen_no_hint ?_)
  refine wpAny_pure ?_
  show wpAny _ A.in1 (rule "list.extend.makes-room" >>= fun _ => Builtin.List.listTouch (.ref s5.heap.objs.size) >>= fun _ =>
    again (.builtin "list.extend.loop" ⟨[.ref s5.heap.objs.size, .ref a, .ref s5.heap.objs.size], []⟩)) _ _ _
  refine wpAny_bind (wpAny_rule ?_)
  have hS₁ : (s5.heap.push { cls := .type "list", data := .seq ([] : List Value).toArray }).get? s5.heap.objs.size = some { cls := .type "list", data := .seq ([] : List Value).toArray } := Heap.get?_push_size _ rfl
  refine wpAny_bind ?_
  show wpAny _ A.in1 (updateSeq s5.heap.objs.size (·.push .none) >>= fun _ => updateSeq s5.heap.objs.size (·.pop)) _ _ _
  refine wpAny_bind (wpAny_updateSeq hS₁ rfl ?_)
  have hS₂ := Heap.get?_update_self (Obj.mapSeq (·.push Value.none)) hS₁ rfl
  refine wpAny_updateSeq (hz := by seq_fits) hS₂ rfl ?_
  have hS₃ := Heap.get?_update_self (Obj.mapSeq (·.pop)) hS₂ rfl
  have up : ∀ (h : Heap) (f : Obj → Obj), (∀ b o, s5.heap.get? b = some o → h.get? b = some o) → ∀ b o, s5.heap.get? b = some o → (h.update s5.heap.objs.size f).get? b = some o := fun h f q b o e =>
    (Heap.get?_update_other _ _ (Ne.symm (Nat.ne_of_lt (Heap.lt_size e)))).trans (q b o e)
  have k4 := up _ (Obj.mapSeq (·.pop)) (up _ (Obj.mapSeq (·.push Value.none)) k1)
  refine wpAny_pure ⟨plainId_quiet F.plain_extend_loop _, ?_⟩
  refine codeAny_mono (extend_rdy (X := X) (pins := pins) (σ := σ) (H := H) (vs := vs) (A := A) (A2 := A.in1.in1.deeper cenv) (gn := gn) (go := go) (cenv := cenv) (fp := fp) (s4 := s4) (s5 := s5) (Q := Q) (W := W) (hA.trans hr.hd) (by rw [hAd]; have := hr.dp; omega) hg5 hgo5 hSa hSc back (m + 1) _ (.fresh c0) (gty k4) (I5.nolimit.keeps k4) hgs5 ?_) fun r s' hr' => ?_
  · exact goes (DrC s5.heap.objs.size Q W) A.in1.in1 [s5.heap.objs.size] [(s5.heap.objs.size, _)] _ [] m (m + 1) (hA.trans hr.hd) (hAf.trans hf) hAg (room_in hr (j + 2) (by omega) _ hA hAd (by show A.units + 1 + 1 = _; rw [hAu]; omega)) (fun c hc => by rw [List.mem_singleton.mp hc]; exact Nat.le_refl _) rfl
      (allBare_setGen (s := { s5 with heap := _ }) I5.bare rfl) k4 rfl (fun p hp => by rw [List.mem_singleton.mp hp]; exact ⟨hS₃, fun v z => by cases z⟩) (turn _) (Nat.lt_succ_self _) w ⟨_, _, rfl, .nil, Nat.zero_le _⟩
  · obtain ⟨rfl, ys, acc, c, H', eS, ra, hyl, I', q⟩ := hr'
    show wpAny _ A (load s5.heap.objs.size >>= _) _ _ s'
    refine wpAny_bind (wpAny_load eS ?_)
    exact wpAny_pure ⟨ys, H', ra, hyl, I', q⟩
end
end GX
set_option Elab.async false
set_option linter.all false
set_option maxRecDepth 100000
set_option maxHeartbeats 2000000
/-! tuple(generator expression), list(..), any(..), all(..) as expressions -/
namespace GX
open PySem PySem.Spec PyProof.Rows L2
open AutoSeq1 (wpAny_loadPart')
section
variable {X : Cx} {pins : List (Addr × Obj)} {σ : L2.St} {H H1 : Hp} {s s1 : Shared}
theorem tuple_rdy {k : Nat} {vs : List Nat} {g : TG} {tt : TT} {te : TE} {J : It} {a : Addr} {s5 : Shared} {Q : VK} {W : List V → Nat → Nat → Hp → Prop} {m : Nat} {E : Value → Shared → Prop}
    (hr : Room (k + 1) X.A) (hf : X.A.frames = some X.stack) (hG : Rdy X pins σ k vs g tt te J H a s5)
    (turn : ∀ S, Turns J g tt te σ vs (DrC S (fun ys H => ∀ q, H q = none → Q (.ref q) (upd H q (.tup ys))) W)) (w : W [] 0 m H) :
    wpAny (model X.prog X.w) X.A (call (.type "tuple") [.ref a]) (EP X pins σ Q) E s5 := by
  have hG' := hG
  obtain ⟨gn, c0, fp, s4, cenv, go, hg5, hgs5, hgo5, I5, hsz, hos, back, goes⟩ := hG'
  refine callType_codes (Q₁ := fun obj s₁ => s₁.TypeIs obj "tuple" ∧ EP X pins σ Q obj s₁) F.called_tuple (F.typeCall_tuple_1 _) F.entry_object_init ?_ fun obj s₁ h₁ => ?_
  · refine codeAny_of_tree ?_
    show wpAny _ X.A.in1.in1 (do checkBuiltinCall "tuple.__new__" ⟨[.type "tuple", .ref a], []⟩; again (.builtin "tuple.__new__" ⟨[.type "tuple", .ref a], []⟩)) _ _ s5
    refine wpAny_bind (wpAny_of_eq (F.newCall_tuple_1 _) (wpAny_pure ⟨plainId_quiet F.plain_tuple_new _, codeAny_builtin F.entry_tuple_new ?_⟩))
    rw [Around.under_plainId F.plain_tuple_new _]
    have hsub := sub_tuple_self
    have hinit := init_tuple_lookup
    have hmh := madeHere_tuple
    have hTI := hg5.typeIs
    have col : ∀ {Q2 : List Value → Shared → Prop} {E2 : Value → Shared → Prop}, (∀ us s', (∃ ys H', Vals ys us ∧ ys.length ≤ sizeLine ∧ Inv X pins σ H' s' ∧ ∀ q, H' q = none → Q (.ref q) (upd H' q (.tup ys))) → Q2 us s') → wpAny (model X.prog X.w) X.A.in1.in1 (collect (.ref a)) Q2 E2 s5 := fun {Q2 E2} h =>
      wpAny_mono (collect_rdy (j := 2) (E := E2) hr hf rfl rfl rfl rfl rfl (by decide) hG turn w) h fun _ _ z => z
    wp_walk using wpAny_typeOf hTI, col
    rintro us s' ⟨ys, H', ra, hyl, I', q⟩
    have fr : H' s'.heap.objs.size = none := I'.hok.fresh (Nat.le_refl _)
    show wpAny _ _ (Builtin.Tuple.tupleExact us.toArray >>= fun v => ret v) _ _ _
    unfold Builtin.Tuple.tupleExact
    refine wpAny_bind (wpAny_newObj_type ?_ (by show us.toArray.size ≤ sizeLine; rw [List.size_toArray, ← ra.length]; exact hyl))
    refine wpAny_pure ⟨⟨_, Heap.get?_push_size _ rfl, rfl⟩, .ref s'.heap.objs.size, upd H' s'.heap.objs.size (.tup ys), I'.laid (t' := s'.toks) (fun b u e => Heap.get?_push_of_some _ e) (Nat.le_refl _) ?_, rfl, q _ fr⟩
    exact ⟨hyl, us, ra, ⟨_, Heap.get?_push_size _ rfl, rfl, _, rfl⟩⟩
  · exact ⟨h₁.1, F.args_object_init_2 obj _, object_init_meets F.called_tuple.init.lookup F.called_tuple.made (by decide) X.prog X.w X.A.in1 _ s₁ ⟨h₁.1, rfl, h₁.2⟩⟩
/-! ### the expressions -/
theorem boot_tup : bootBuiltins "tuple" = some (.type "tuple") := by decide +kernel
theorem boot_all' : bootBuiltins "all" = some (.builtin "all") := by decide +kernel
/-- the frame's readings, in every context that may run it -/
structure GxRd (X : Cx) (k : Nat) (scope : Scope) (own : List (Str × Nat)) (tg elt : Expr) (ifs : List Expr) (g : TG) (tt : TT) (te : TE) : Prop where
  hg : ∀ (A' : Around) (s : Shared) (H : Hp) (C : Addr) (code : Value) (fp : List Addr) (pn : List (Addr × Obj)), Room k A' → A'.guards = X.A.guards → PG (gx X A' s H (genEnv scope (cloFrom X.env.cells scope.names []) C code builtinsNs X.env) fp pn) tg g
  ht : ∀ (A' : Around) (s : Shared) (H : Hp) (C : Addr) (code : Value) (fp : List Addr) (pn : List (Addr × Obj)), Room k A' → A'.guards = X.A.guards → PTs (gx X A' s H (genEnv scope (cloFrom X.env.cells scope.names []) C code builtinsNs X.env) fp pn) ifs tt
  he : ∀ (A' : Around) (s : Shared) (H : Hp) (C : Addr) (code : Value) (fp : List Addr) (pn : List (Addr × Obj)), Room k A' → A'.guards = X.A.guards → PE (gx X A' s H (genEnv scope (cloFrom X.env.cells scope.names []) C code builtinsNs X.env) fp pn) elt te
/-- its scope -/
structure GxS (X : Cx) (scope : Scope) (own : List (Str × Nat)) : Prop where
  ok : BlkOk X.N X.env.scope scope own
  cell : ∀ y ∈ scope.names, y.2 ≠ .cell
  dot : scope.names.lookup (".0" : Str) = some NameKind.local
  co : scope.isCoroutine = false
/-- where its code object is kept -/
structure GxC (X : Cx) (P : Addr) : Prop where
  at' : ∃ c, GxR.TabB X.base X.mg c P ∧ X.env.code = .ref c
section
variable {P : Addr} {tg elt iter : Expr} {p pos gpos : Pos} {ifs : List Expr} {scope : Scope} {own : List (Str × Nat)} {wi : TI} {g : TG} {tt : TT} {te : TE} {k : Nat}
def tTupX (P : Addr) (wi : TI) (g : TG) (tt : TT) (te : TE) (vs : List Nat) : TE := fun σ H Q => wi σ H fun J H1 => GxR.TabG H1 P ∧ ∀ H2, GxR.Tabbed P H1 H2 → ∃ W m, W [] 0 m H2 ∧ ∀ S, Turns J g tt te σ vs (DrC S (fun ys H => ∀ q, H q = none → Q (.ref q) (upd H q (.tup ys))) W)
theorem pe_tupX (hr : Room (k + 1) X.A) (hN : X.N.Nodup) (GC : GxC X P) (GS : GxS X scope own) (hi : PI X tg iter wi) (R : GxRd X k scope own tg elt ifs g tt te) (hg : Gl X "tuple") (hm : X.mg "tuple" = none)
    (hs : ∀ v, genFold iter X.env v = pure v := by intro _; rfl)
    (he : starEach [.GeneratorExp elt [⟨tg, iter, ifs, 0⟩] scope gpos] X.env = [(false, eval (.GeneratorExp elt [⟨tg, iter, ifs, 0⟩] scope gpos) X.env)] := by rfl) :
    PE X (.Call (.Name "tuple" p) [.GeneratorExp elt [⟨tg, iter, ifs, 0⟩] scope gpos] [] pos) (tTupX P wi g tt te (own.map (·.2))) := by
  refine ⟨fun pins s σ H Q I h => ?_⟩
  obtain ⟨c, TB, hcode⟩ := GC.at'
  refine wpAny_Call_Name_kw (ld_blt I hg hm boot_tup ?_)
  refine PyProof.Rows.callWith_type1 ?_ he (by rfl)
  rw [he]
  show wpAny _ _ (spliced ((false, eval (.GeneratorExp elt [⟨tg, iter, ifs, 0⟩] scope gpos) X.env) :: backTo pos ([] : List (Bool × Sem Value)))) _ _ s
  refine Calls.spliced_cons (gx_make (k := k) hr hr.hd hN TB hcode GS.ok GS.cell GS.dot GS.co hi hs R.hg R.ht R.he I h fun J H2 a s5 ⟨W, m, w, turn⟩ G => Calls.spliced_nil ?_)
  exact tuple_rdy hr I.ok.frames G turn w
def tBoolX (K : PySem.W.Frag) (stop : Bool) (P : Addr) (wi : TI) (g : TG) (tt : TT) (te : TE) (vs : List Nat) : TE := fun σ H Q => wi σ H fun J H1 => GxR.TabG H1 P ∧ ∀ H2, GxR.Tabbed P H1 H2 → ∃ W m, W 0 m H2 ∧ Turns J g tt te σ vs (DrB K stop (fun b H => Q (.bl b) H) W)
theorem pe_anyX (hr : Room (k + 1) X.A) (hN : X.N.Nodup) (GC : GxC X P) (GS : GxS X scope own) (hi : PI X tg iter wi) (R : GxRd X k scope own tg elt ifs g tt te) (hg : Gl X "any") (hm : X.mg "any" = none)
    (hs : ∀ v, genFold iter X.env v = pure v := by intro _; rfl)
    (he : starEach [.GeneratorExp elt [⟨tg, iter, ifs, 0⟩] scope gpos] X.env = (false, eval (.GeneratorExp elt [⟨tg, iter, ifs, 0⟩] scope gpos) X.env) :: starEach [] X.env := by rfl) :
    PE X (.Call (.Name "any" p) [.GeneratorExp elt [⟨tg, iter, ifs, 0⟩] scope gpos] [] pos) (tBoolX X.K true P wi g tt te (own.map (·.2))) := by
  refine ⟨fun pins s σ H Q I h => ?_⟩
  obtain ⟨c, TB, hcode⟩ := GC.at'
  refine wpAny_Call_Name_kw (ld_blt I hg hm boot_any ?_)
  refine PyProof.Rows.callWith_builtin1 ?_ he (by rfl)
  rw [he]
  show wpAny _ _ (spliced ((false, eval (.GeneratorExp elt [⟨tg, iter, ifs, 0⟩] scope gpos) X.env) :: backTo pos (starEach [] X.env))) _ _ s
  refine Calls.spliced_cons (gx_make (k := k) hr hr.hd hN TB hcode GS.ok GS.cell GS.dot GS.co hi hs R.hg R.ht R.he I h fun J H2 a s5 ⟨W, m, w, turn⟩ G => Calls.spliced_nil ?_)
  exact wpAny_mono (any_rdy hr I.ok.frames G turn w) (fun u s' ⟨v, H', I', r, b, e, q⟩ => ⟨v, H', I', r, by rw [e]; exact q⟩) fun _ _ z => z
theorem pe_allX (hr : Room (k + 1) X.A) (hN : X.N.Nodup) (GC : GxC X P) (GS : GxS X scope own) (hi : PI X tg iter wi) (R : GxRd X k scope own tg elt ifs g tt te) (hg : Gl X "all") (hm : X.mg "all" = none)
    (hs : ∀ v, genFold iter X.env v = pure v := by intro _; rfl)
    (he : starEach [.GeneratorExp elt [⟨tg, iter, ifs, 0⟩] scope gpos] X.env = (false, eval (.GeneratorExp elt [⟨tg, iter, ifs, 0⟩] scope gpos) X.env) :: starEach [] X.env := by rfl) :
    PE X (.Call (.Name "all" p) [.GeneratorExp elt [⟨tg, iter, ifs, 0⟩] scope gpos] [] pos) (tBoolX X.K false P wi g tt te (own.map (·.2))) := by
  refine ⟨fun pins s σ H Q I h => ?_⟩
  obtain ⟨c, TB, hcode⟩ := GC.at'
  refine wpAny_Call_Name_kw (ld_blt I hg hm boot_all' ?_)
  refine PyProof.Rows.callWith_builtin1 ?_ he (by rfl)
  rw [he]
  show wpAny _ _ (spliced ((false, eval (.GeneratorExp elt [⟨tg, iter, ifs, 0⟩] scope gpos) X.env) :: backTo pos (starEach [] X.env))) _ _ s
  refine Calls.spliced_cons (gx_make (k := k) hr hr.hd hN TB hcode GS.ok GS.cell GS.dot GS.co hi hs R.hg R.ht R.he I h fun J H2 a s5 ⟨W, m, w, turn⟩ G => Calls.spliced_nil ?_)
  exact wpAny_mono (all_rdy hr I.ok.frames G turn w) (fun u s' ⟨v, H', I', r, b, e, q⟩ => ⟨v, H', I', r, by rw [e]; exact q⟩) fun _ _ z => z
end
end
end GX
set_option Elab.async false
set_option linter.all false
set_option maxRecDepth 100000
set_option maxHeartbeats 2000000
/-! generator expressions over data -/
namespace DL
open PySem PySem.Spec PyProof.Rows L2
section
variable {X : Cx} {g : G} {ρ ρ' ρ0 ρ1 ρ2 : Env} {S S1 S2 S' : Src} {σ σ' : L2.St} {H H1 H2 H' : Hp} {Fz Fz1 Fz2 Fz' : Addr → Prop} {Q : VK} {v : V}
/-- a code object's table has grown -/
theorem SI.tbl (I : SI g ρ S σ H Fz) {P : Addr} (hP : P ∈ g.T) (t : GxR.Tabbed P H H1) : SI g ρ S σ H1 Fz ∧ Kx g ρ ρ σ H Fz H1 Fz ∧ KF H Fz H1 Fz := by
  obtain ⟨ps, e0, _⟩ := I.tab P hP
  obtain ⟨⟨ps', e1, ht⟩, oth⟩ := t
  have xP : g.ex P := .inr (.inr hP)
  have ne : ∀ {a o}, H a = some o → (∀ q, o ≠ .tbl q) → a ≠ P := fun e n z => by
    rw [z, e0] at e; cases e; exact n _ rfl
  have k : KF H Fz H1 Fz := by
    refine ⟨fun _ h => h, fun p o f e => ?_, fun p zs e => ?_, fun p e => ?_⟩
    · rw [oth p (fun z => I.fzx p f (by rw [z]; exact xP))]; exact e
    · rw [oth p (ne e fun q z => by cases z)]; exact e
    · by_cases z : p = P
      · rw [z, e1] at e; cases e
      · rw [oth p z] at e; exact e
  refine ⟨⟨I.len, fun i d h => ?_, fun i d h => ?_, I.dis, ⟨?_, ?_, I.src.l0, I.src.m0, I.src.t0, I.src.c0, I.src.len⟩, I.fzx, fun p f z => I.fzt p f (k.new p z), fun p o e x => ?_, I.fz0, I.fzn, fun t ht => ?_⟩, ⟨fun p o e n x => ?_, k.new, fun _ h => h, fun _ _ _ h => .inl h, fun _ h => h⟩, k⟩
  · obtain ⟨w, ew, aw⟩ := I.sh i d h
    exact ⟨w, ew, aw.kf k⟩
  · obtain ⟨a, ea, ca, r⟩ := I.ow i d h
    refine ⟨a, ea, ca.kf k fun o ho => ?_, r⟩
    rw [oth a (fun z => r.2.1 (by rw [z]; exact xP))]; exact ho
  · rw [oth g.sd (ne I.src.hd fun q z => by cases z)]; exact I.src.hd
  · rw [oth g.cl (ne I.src.hc fun q z => by cases z)]; exact I.src.hc
  · rw [oth p (fun z => x (by rw [z]; exact xP))]; exact I.ext p o e x
  · by_cases z : t = P
    · rw [z]; exact ⟨ps', e1, by assumption⟩
    · obtain ⟨qs, eq, r⟩ := I.tab t ht
      exact ⟨qs, by rw [oth t z]; exact eq, r⟩
  · rw [oth p (fun z => x (by rw [z]; exact xP))]; exact e
/-- the tuple of a generator expression -/
def mTg (vs : List Nat) (mi : M (List D)) (t : D → M Unit) (c : M Bool) (e : M DV) : M DV := mi >>= fun ds => inBlk vs (fun acc => .sh (.tup acc)) (lcGo vs t c e ds [])
/-- any (stop: true), all (stop: false) -/
def gxGo (stop : Bool) (vs : List Nat) (t : D → M Unit) (c : M Bool) (e : M DV) : List D → M Bool
  | [] => pure (!stop)
  | d :: ds => wipeM vs >>= fun _ => t d >>= fun _ => c >>= fun k => if k = true then e >>= fun r => M.of (truD r.d) >>= fun b => (if b = stop then pure stop else gxGo stop vs t c e ds) else gxGo stop vs t c e ds
def mAg (stop : Bool) (vs : List Nat) (mi : M (List D)) (t : D → M Unit) (c : M Bool) (e : M DV) : M DV := mi >>= fun ds => inBlk vs (fun b => .sh (.bl b)) (gxGo stop vs t c e ds)
theorem tg_run {P : Addr} {mi : M (List D)} {t : D → M Unit} {mc : M Bool} {me : M DV} {sl vs : List Nat} (hP : P ∈ g.T) (hsl : ∀ i ∈ sl, i ∈ vs) (ht : NoX t) :
    tOf g (mTg vs mi t mc me) σ H Q → GX.tTupX P (tOfI g mi) (tOfG g.nx sl t) (tOfT g.nx mc) (tOf g.nx me) vs σ H Q := fun ⟨ρ, S, Fz, I, hw⟩ => by
  unfold mTg at hw
  rw [wp_bind] at hw
  refine ⟨ρ, S, Fz, I, wp_mono hw (fun ds ρ0 S0 h0 J Ha Fz1 Ia ka ok => ?_) fun _ _ _ z => z⟩
  refine ⟨let ⟨ps, e, r⟩ := Ia.tab P hP; ⟨ps, e, r⟩, fun H1 tb => ?_⟩
  obtain ⟨I1, kt, kft⟩ := Ia.tbl hP tb
  have k1 := ka.trans kt
  have ok1 : ItOk g J ds H1 Fz1 := ⟨fun H Fz i k => ok.goes H Fz i (kft.trans k), fun H Fz i d x H' k => ok.yields H Fz i d x H' (kft.trans k), fun H Fz k => ok.stops H Fz (kft.trans k)⟩
  have h0 := wp_inBlk h0
  refine ⟨fun ys i m H2 => m = ds.length - i ∧ i ≤ ds.length ∧ ∃ ρ2 S2 Fz2 ds2, SI g (wipeE ρ2 vs) S2 (L2.wipe σ vs) H2 Fz2 ∧ Kp g (OwnA (wipeE ρ0 vs) (L2.wipe σ vs)) H1 Fz1 H2 Fz2 ∧
      (∀ a, OwnA (wipeE ρ2 vs) (L2.wipe σ vs) a → OwnA (wipeE ρ0 vs) (L2.wipe σ vs) a) ∧ AtL g.K g.sd H2 Fz2 ys ds2 ∧
      wp (lcGo vs t mc me (ds.drop i) ds2) ρ2 S2 (fun a ρ' S' => ∀ v H' Fz', SI g (restE ρ0 vs ρ') S' σ H' Fz' → Kx g ρ (restE ρ0 vs ρ') σ H Fz H' Fz' → VAt g (restE ρ0 vs ρ') σ H H' Fz' v (.sh (.tup a)) → Q v H') (fun _ _ _ => False),
    _, ⟨rfl, Nat.zero_le _, ρ0, S0, Fz1, [], I1.wipe vs, Kp.refl, fun _ h => h, .nil, h0⟩, fun L ys i m H2 ⟨hm, hle, ρ2, S2, Fz2, ds2, I2, k2, ow2, l2, w2⟩ => ?_⟩
  have kf2 : KF H1 Fz1 H2 Fz2 := k2.kf (I1.wipe vs) fun _ z => z
  by_cases hlt : i < ds.length
  · obtain ⟨d, hd⟩ : ∃ d, ds[i]? = some d := ⟨ds[i], List.getElem?_eq_getElem hlt⟩
    refine .inr ⟨ok1.goes H2 Fz2 i kf2 hlt, fun ys' H' => i + 1 ≤ ds.length ∧ ∃ ρ2 S2 Fz2 ds2, SI g (wipeE ρ2 vs) S2 (L2.wipe σ vs) H' Fz2 ∧ Kp g (OwnA (wipeE ρ0 vs) (L2.wipe σ vs)) H1 Fz1 H' Fz2 ∧
      (∀ a, OwnA (wipeE ρ2 vs) (L2.wipe σ vs) a → OwnA (wipeE ρ0 vs) (L2.wipe σ vs) a) ∧ AtL g.K g.sd H' Fz2 ys' ds2 ∧
      wp (lcGo vs t mc me (ds.drop (i + 1)) ds2) ρ2 S2 (fun a ρ' S' => ∀ v H' Fz', SI g (restE ρ0 vs ρ') S' σ H' Fz' → Kx g ρ (restE ρ0 vs ρ') σ H Fz H' Fz' → VAt g (restE ρ0 vs ρ') σ H H' Fz' v (.sh (.tup a)) → Q v H') (fun _ _ _ => False),
      fun ys' H' z => ⟨_, by omega, rfl, z⟩, fun x H3 y => ?_⟩
    obtain ⟨nw, ax⟩ := ok1.yields H2 Fz2 i d x H3 kf2 hd y
    rw [List.drop_eq_getElem_cons hlt] at w2
    have ed : ds[i] = d := by rw [List.getElem?_eq_getElem hlt] at hd; exact Option.some.inj hd
    rw [ed] at w2
    unfold lcGo at w2
    rw [wp_bind] at w2
    have w3 := w2
    change wp _ (wipeE ρ2 vs) S2 _ _ at w3
    rw [wp_bind] at w3
    refine ⟨wipeE ρ2 vs, S2, Fz2, d, (I2.grow nw).nx, ax, wp_mono (ht d _ _ _ _ w3) (fun _ ρ4 S4 h4 σ4 I4 off => ?_) fun _ _ _ z => z⟩
    have wo := wipe_off off hsl
    refine ⟨wo, ?_⟩
    rw [wp_bind] at h4
    refine ⟨ρ4, S4, Fz2, I4, wp_mono h4 (fun k ρ5 S5 h5 H5 Fz5 I5 k5 => ?_) fun _ _ _ z => z.elim⟩
    have own4 : ∀ a, OwnA ρ4 σ4 a → OwnA (wipeE ρ0 vs) (L2.wipe σ vs) a := fun a z => ow2 a (off.own a z)
    have kp5 : Kp g (OwnA (wipeE ρ0 vs) (L2.wipe σ vs)) H1 Fz1 H5 Fz5 := k2.trans ((Kp.ofNew nw).trans (k5.unx.kp own4))
    have own5 : ∀ a, OwnA ρ5 σ4 a → OwnA (wipeE ρ0 vs) (L2.wipe σ vs) a := fun a z => own4 a (k5.own a z)
    have l5 : AtL g.K g.sd H5 Fz5 ys ds2 := l2.kf (nw.kf.trans (k5.unx.kf (I4.unx)))
    cases k with
    | false =>
      refine iteF ⟨hlt, ρ5, S5, Fz5, ds2, by rw [← wo]; exact I5.unx.wipe vs, kp5, fun a z => own5 a (by rw [← wo] at z; exact z.wipe), l5, h5⟩
    | true =>
      rw [if_pos rfl, wp_bind] at h5
      refine iteT ⟨ρ5, S5, Fz5, I5, wp_mono h5 (fun r ρ6 S6 h6 v H6 Fz6 I6 k6 a6 => ?_) fun _ _ _ z => z.elim⟩
      obtain ⟨F7, I7, k7, a7⟩ := share I6 k6 a6 (fun p z => I5.n0 z)
      have own6 : ∀ a, OwnA ρ6 σ4 a → OwnA (wipeE ρ0 vs) (L2.wipe σ vs) a := fun a z => own5 a (k7.own a z)
      have kp7 : Kp g (OwnA (wipeE ρ0 vs) (L2.wipe σ vs)) H1 Fz1 H6 F7 := kp5.trans (k7.unx.kp own5)
      have l7 : AtL g.K g.sd H6 F7 ys ds2 := l5.kf (k7.unx.kf I5.unx)
      by_cases hz : ds2.length < sizeLine
      · rw [if_pos hz] at h6
        exact ⟨by rw [l7.length]; exact hz, hlt, ρ6, S6, F7, ds2 ++ [r.d], by rw [← wo]; exact I7.unx.wipe vs, kp7, fun a z => own6 a (by rw [← wo] at z; exact z.wipe), l7.app (.cons a7 .nil), h6⟩
      · rw [if_neg hz] at h6; exact h6.elim
  · have e : i = ds.length := by omega
    subst e
    rw [List.drop_length] at w2
    obtain ⟨I3, k3⟩ := I1.rest I2 k2 ow2
    refine .inl ⟨ok1.stops H2 Fz2 kf2, fun q nq => ?_⟩
    have n2 : New H2 (upd H2 q (.tup ys)) := New.upd1 nq
    exact fin_new I3 (k1.trans k3) w2 n2 (.tup upd_same (l2.kf n2.kf))
theorem ag_run {P : Addr} {stop : Bool} {mi : M (List D)} {t : D → M Unit} {mc : M Bool} {me : M DV} {sl vs : List Nat} (hK : X.K = g.K) (hP : P ∈ g.T) (hsl : ∀ i ∈ sl, i ∈ vs) (ht : NoX t) :
    tOf g (mAg stop vs mi t mc me) σ H Q → GX.tBoolX X.K stop P (tOfI g mi) (tOfG g.nx sl t) (tOfT g.nx mc) (tOf g.nx me) vs σ H Q := fun ⟨ρ, S, Fz, I, hw⟩ => by
  unfold mAg at hw
  rw [wp_bind] at hw
  refine ⟨ρ, S, Fz, I, wp_mono hw (fun ds ρ0 S0 h0 J Ha Fz1 Ia ka ok => ?_) fun _ _ _ z => z⟩
  refine ⟨let ⟨ps, e, r⟩ := Ia.tab P hP; ⟨ps, e, r⟩, fun H1 tb => ?_⟩
  obtain ⟨I1, kt, kft⟩ := Ia.tbl hP tb
  have k1 := ka.trans kt
  have ok1 : ItOk g J ds H1 Fz1 := ⟨fun H Fz i k => ok.goes H Fz i (kft.trans k), fun H Fz i d x H' k => ok.yields H Fz i d x H' (kft.trans k), fun H Fz k => ok.stops H Fz (kft.trans k)⟩
  have h0 := wp_inBlk h0
  refine ⟨fun i m H2 => m = ds.length - i ∧ i ≤ ds.length ∧ ∃ ρ2 S2 Fz2, SI g (wipeE ρ2 vs) S2 (L2.wipe σ vs) H2 Fz2 ∧ Kp g (OwnA (wipeE ρ0 vs) (L2.wipe σ vs)) H1 Fz1 H2 Fz2 ∧
      (∀ a, OwnA (wipeE ρ2 vs) (L2.wipe σ vs) a → OwnA (wipeE ρ0 vs) (L2.wipe σ vs) a) ∧
      wp (gxGo stop vs t mc me (ds.drop i)) ρ2 S2 (fun a ρ' S' => ∀ v H' Fz', SI g (restE ρ0 vs ρ') S' σ H' Fz' → Kx g ρ (restE ρ0 vs ρ') σ H Fz H' Fz' → VAt g (restE ρ0 vs ρ') σ H H' Fz' v (.sh (.bl a)) → Q v H') (fun _ _ _ => False),
    _, ⟨rfl, Nat.zero_le _, ρ0, S0, Fz1, I1.wipe vs, Kp.refl, fun _ h => h, h0⟩, fun _ i m H2 ⟨hm, hle, ρ2, S2, Fz2, I2, k2, ow2, w2⟩ => ?_⟩
  have kf2 : KF H1 Fz1 H2 Fz2 := k2.kf (I1.wipe vs) fun _ z => z
  by_cases hlt : i < ds.length
  · obtain ⟨d, hd⟩ : ∃ d, ds[i]? = some d := ⟨ds[i], List.getElem?_eq_getElem hlt⟩
    refine .inr ⟨ok1.goes H2 Fz2 i kf2 hlt, fun _ H' => i + 1 ≤ ds.length ∧ ∃ ρ2 S2 Fz2, SI g (wipeE ρ2 vs) S2 (L2.wipe σ vs) H' Fz2 ∧ Kp g (OwnA (wipeE ρ0 vs) (L2.wipe σ vs)) H1 Fz1 H' Fz2 ∧
      (∀ a, OwnA (wipeE ρ2 vs) (L2.wipe σ vs) a → OwnA (wipeE ρ0 vs) (L2.wipe σ vs) a) ∧
      wp (gxGo stop vs t mc me (ds.drop (i + 1))) ρ2 S2 (fun a ρ' S' => ∀ v H' Fz', SI g (restE ρ0 vs ρ') S' σ H' Fz' → Kx g ρ (restE ρ0 vs ρ') σ H Fz H' Fz' → VAt g (restE ρ0 vs ρ') σ H H' Fz' v (.sh (.bl a)) → Q v H') (fun _ _ _ => False),
      fun _ H' z => ⟨_, by omega, rfl, z⟩, fun x H3 y => ?_⟩
    obtain ⟨nw, ax⟩ := ok1.yields H2 Fz2 i d x H3 kf2 hd y
    rw [List.drop_eq_getElem_cons hlt] at w2
    have ed : ds[i] = d := by rw [List.getElem?_eq_getElem hlt] at hd; exact Option.some.inj hd
    rw [ed] at w2
    unfold gxGo at w2
    rw [wp_bind] at w2
    have w3 := w2
    change wp _ (wipeE ρ2 vs) S2 _ _ at w3
    rw [wp_bind] at w3
    refine ⟨wipeE ρ2 vs, S2, Fz2, d, (I2.grow nw).nx, ax, wp_mono (ht d _ _ _ _ w3) (fun _ ρ4 S4 h4 σ4 I4 off => ?_) fun _ _ _ z => z⟩
    have wo := wipe_off off hsl
    refine ⟨wo, ?_⟩
    rw [wp_bind] at h4
    refine ⟨ρ4, S4, Fz2, I4, wp_mono h4 (fun k ρ5 S5 h5 H5 Fz5 I5 k5 => ?_) fun _ _ _ z => z.elim⟩
    have own4 : ∀ a, OwnA ρ4 σ4 a → OwnA (wipeE ρ0 vs) (L2.wipe σ vs) a := fun a z => ow2 a (off.own a z)
    have kp5 : Kp g (OwnA (wipeE ρ0 vs) (L2.wipe σ vs)) H1 Fz1 H5 Fz5 := k2.trans ((Kp.ofNew nw).trans (k5.unx.kp own4))
    have own5 : ∀ a, OwnA ρ5 σ4 a → OwnA (wipeE ρ0 vs) (L2.wipe σ vs) a := fun a z => own4 a (k5.own a z)
    cases k with
    | false =>
      refine iteF ⟨hlt, ρ5, S5, Fz5, by rw [← wo]; exact I5.unx.wipe vs, kp5, fun a z => own5 a (by rw [← wo] at z; exact z.wipe), h5⟩
    | true =>
      rw [if_pos rfl, wp_bind] at h5
      refine iteT ⟨ρ5, S5, Fz5, I5, wp_mono h5 (fun r ρ6 S6 h6 v H6 Fz6 I6 k6 a6 => ?_) fun _ _ _ z => z.elim⟩
      rw [wp_bind] at h6
      obtain ⟨b, eb, h6⟩ := wp_of.mp h6
      obtain ⟨F7, I7, k7, a7⟩ := share I6 k6 a6 (fun p z => I5.n0 z)
      have own6 : ∀ a, OwnA ρ6 σ4 a → OwnA (wipeE ρ0 vs) (L2.wipe σ vs) a := fun a z => own5 a (k7.own a z)
      have kp7 : Kp g (OwnA (wipeE ρ0 vs) (L2.wipe σ vs)) H1 Fz1 H6 F7 := kp5.trans (k7.unx.kp own5)
      have I8 : SI g (wipeE ρ6 vs) S6 (L2.wipe σ vs) H6 F7 := by rw [← wo]; exact I7.unx.wipe vs
      refine ⟨b, by rw [hK]; exact tru_of (g := g) (.inl a7) eb, ?_⟩
      by_cases hb : b = stop
      · rw [if_pos hb] at h6
        rw [if_pos hb]
        obtain ⟨I3, k3⟩ := I1.rest I8 kp7 (fun a z => own6 a (by rw [← wo] at z; exact z.wipe))
        exact h6 _ H6 F7 I3 (k1.trans k3) (.bl _)
      · rw [if_neg hb] at h6
        rw [if_neg hb]
        exact ⟨hlt, ρ6, S6, F7, I8, kp7, fun a z => own6 a (by rw [← wo] at z; exact z.wipe), h6⟩
  · have e : i = ds.length := by omega
    subst e
    rw [List.drop_length] at w2
    obtain ⟨I3, k3⟩ := I1.rest I2 k2 ow2
    exact .inl ⟨ok1.stops H2 Fz2 kf2, w2 _ H2 Fz2 I3 (k1.trans k3) (.bl _)⟩
/-- the frame's runs, in every context that may run it -/
structure GxD (X : Cx) (g : G) (k : Nat) (scope : Scope) (tg elt : Expr) (ifs : List Expr) (sl : List Nat) (t : D → M Unit) (mc : M Bool) (me : M DV) : Prop where
  hg : ∀ (A' : Around) (s : Shared) (H : Hp) (C : Addr) (code : Value) (fp : List Addr) (pn : List (Addr × Obj)), Room k A' → A'.guards = X.A.guards → DG (GX.gx X A' s H (genEnv scope (cloFrom X.env.cells scope.names []) C code builtinsNs X.env) fp pn) g.nx tg sl t
  ht : ∀ (A' : Around) (s : Shared) (H : Hp) (C : Addr) (code : Value) (fp : List Addr) (pn : List (Addr × Obj)), Room k A' → A'.guards = X.A.guards → DTs (GX.gx X A' s H (genEnv scope (cloFrom X.env.cells scope.names []) C code builtinsNs X.env) fp pn) g.nx ifs mc
  he : ∀ (A' : Around) (s : Shared) (H : Hp) (C : Addr) (code : Value) (fp : List Addr) (pn : List (Addr × Obj)), Room k A' → A'.guards = X.A.guards → DE (GX.gx X A' s H (genEnv scope (cloFrom X.env.cells scope.names []) C code builtinsNs X.env) fp pn) g.nx elt me
section
variable {P : Addr} {tg elt iter : Expr} {p pos gpos : Pos} {ifs : List Expr} {scope : Scope} {own : List (Str × Nat)} {mi : M (List D)} {t : D → M Unit} {mc : M Bool} {me : M DV} {sl : List Nat} {k : Nat}
theorem de_tupX (hr : Room (k + 1) X.A) (hN : X.N.Nodup) (hP : P ∈ g.T) (GC : GX.GxC X P) (GS : GX.GxS X scope own) (hi : DI X g tg iter mi) (hsl : ∀ i ∈ sl, i ∈ own.map (·.2)) (ht : NoX t) (R : GxD X g k scope tg elt ifs sl t mc me) (hg : Gl X "tuple") (hm : X.mg "tuple" = none)
    (hs : ∀ v, genFold iter X.env v = pure v := by intro _; rfl)
    (he : starEach [.GeneratorExp elt [⟨tg, iter, ifs, 0⟩] scope gpos] X.env = [(false, eval (.GeneratorExp elt [⟨tg, iter, ifs, 0⟩] scope gpos) X.env)] := by rfl) :
    DE X g (.Call (.Name "tuple" p) [.GeneratorExp elt [⟨tg, iter, ifs, 0⟩] scope gpos] [] pos) (mTg (own.map (·.2)) mi t mc me) :=
  PE.imp (GX.pe_tupX (own := own) hr hN GC GS hi ⟨R.hg, R.ht, R.he⟩ hg hm hs he) fun σ H Q h => tg_run hP hsl ht h
theorem de_anyX (hK : X.K = g.K) (hr : Room (k + 1) X.A) (hN : X.N.Nodup) (hP : P ∈ g.T) (GC : GX.GxC X P) (GS : GX.GxS X scope own) (hi : DI X g tg iter mi) (hsl : ∀ i ∈ sl, i ∈ own.map (·.2)) (ht : NoX t) (R : GxD X g k scope tg elt ifs sl t mc me) (hg : Gl X "any") (hm : X.mg "any" = none)
    (hs : ∀ v, genFold iter X.env v = pure v := by intro _; rfl)
    (he : starEach [.GeneratorExp elt [⟨tg, iter, ifs, 0⟩] scope gpos] X.env = (false, eval (.GeneratorExp elt [⟨tg, iter, ifs, 0⟩] scope gpos) X.env) :: starEach [] X.env := by rfl) :
    DE X g (.Call (.Name "any" p) [.GeneratorExp elt [⟨tg, iter, ifs, 0⟩] scope gpos] [] pos) (mAg true (own.map (·.2)) mi t mc me) :=
  PE.imp (GX.pe_anyX (own := own) hr hN GC GS hi ⟨R.hg, R.ht, R.he⟩ hg hm hs he) fun σ H Q h => ag_run hK hP hsl ht h
theorem de_allX (hK : X.K = g.K) (hr : Room (k + 1) X.A) (hN : X.N.Nodup) (hP : P ∈ g.T) (GC : GX.GxC X P) (GS : GX.GxS X scope own) (hi : DI X g tg iter mi) (hsl : ∀ i ∈ sl, i ∈ own.map (·.2)) (ht : NoX t) (R : GxD X g k scope tg elt ifs sl t mc me) (hg : Gl X "all") (hm : X.mg "all" = none)
    (hs : ∀ v, genFold iter X.env v = pure v := by intro _; rfl)
    (he : starEach [.GeneratorExp elt [⟨tg, iter, ifs, 0⟩] scope gpos] X.env = (false, eval (.GeneratorExp elt [⟨tg, iter, ifs, 0⟩] scope gpos) X.env) :: starEach [] X.env := by rfl) :
    DE X g (.Call (.Name "all" p) [.GeneratorExp elt [⟨tg, iter, ifs, 0⟩] scope gpos] [] pos) (mAg false (own.map (·.2)) mi t mc me) :=
  PE.imp (GX.pe_allX (own := own) hr hN GC GS hi ⟨R.hg, R.ht, R.he⟩ hg hm hs he) fun σ H Q h => ag_run hK hP hsl ht h
end
end
end DL
set_option Elab.async false
set_option linter.all false
set_option maxRecDepth 100000
set_option maxHeartbeats 1000000
/-! texts' methods, sorted, *, repr, walks of texts -/
namespace DL
open PySem PySem.Spec PyProof.Rows L2
section
variable {X : Cx} {g : G} {ρ ρ' ρ0 ρ1 ρ2 : Env} {S S1 S2 S' : Src} {σ σ' : L2.St} {H H1 H2 H' : Hp} {Fz Fz1 Fz2 Fz' : Addr → Prop} {Q : VK} {v : V}
/-! ### a text's method with one argument -/
def strO : D → Option Str
  | .str s => some s
  | _ => none
def mM1 (op : Str → D → Option DV) (ma mb : M Opd) : M DV := ma >>= fun a => res a >>= fun x => M.of (strO x) >>= fun s => mb >>= fun b => res b >>= fun y => M.of (op s y)
def mM0 (op : Str → Option DV) (ma : M Opd) : M DV := ma >>= fun a => res a >>= fun x => M.of (strO x) >>= fun s => M.of (op s)
def MtD (g : G) (r : V → List V → Hp → VK → Prop) (op : Str → D → Option DV) : Prop := ∀ (H : Hp) (Fz : Addr → Prop) (s : Str) (y : V) (dy : D) (dv : DV) (Q : VK), SOk s → Cont g H Fz y dy → op s dy = some dv → (∀ v H', New H H' → RV g H H' Fz v dv → Q v H') → r (.str s) [y] H Q
def Mt0D (g : G) (r : V → List V → Hp → VK → Prop) (op : Str → Option DV) : Prop := ∀ (H : Hp) (Fz : Addr → Prop) (s : Str) (dv : DV) (Q : VK), SOk s → op s = some dv → (∀ v H', New H H' → RV g H H' Fz v dv → Q v H') → r (.str s) [] H Q
theorem strO_eq {d : D} {s : Str} (h : strO d = some s) : d = .str s := by
  cases d <;> first | cases h; done | skip
  cases h; rfl
theorem m1_run {r : V → List V → Hp → VK → Prop} {op : Str → D → Option DV} {ma mb : M Opd} (hm : MtD g r op) : tOf g (mM1 op ma mb) σ H Q → tM1 r (tOfO g ma) (tOfO g mb) σ H Q := fun ⟨ρ, S, Fz, I, hw⟩ => by
  unfold mM1 at hw
  rw [wp_bind] at hw
  refine ⟨ρ, S, Fz, I, wp_mono hw (fun o1 ρ1 S1 h1 v1 H1 Fz1 I1 k1 a1 => ?_) fun _ _ _ z => z⟩
  rw [wp_bind] at h1
  obtain ⟨dx, cx, h1⟩ := wp_res I1 a1 h1
  rw [wp_bind] at h1
  obtain ⟨s, es, h1⟩ := wp_of.mp h1
  rw [strO_eq es] at cx
  obtain ⟨rfl, ok⟩ := c_str cx
  refine ⟨⟨s, rfl⟩, ?_⟩
  rw [wp_bind] at h1
  refine ⟨ρ1, S1, Fz1, I1, wp_mono h1 (fun o2 ρ2 S2 h2 v2 H2 Fz2 I2 k2 a2 => ?_) fun _ _ _ z => z.mono (k1.kf I)⟩
  rw [wp_bind] at h2
  obtain ⟨dy, cy, h2⟩ := wp_res I2 a2 h2
  obtain ⟨dv, e, q⟩ := wp_of.mp h2
  exact hm H2 Fz2 s v2 dy dv Q ok cy e fun v H' n rv => fin_new I2 (k1.trans k2) q n rv
theorem m0_run {r : V → List V → Hp → VK → Prop} {op : Str → Option DV} {ma : M Opd} (hm : Mt0D g r op) : tOf g (mM0 op ma) σ H Q → tM0 r (tOfO g ma) σ H Q := fun ⟨ρ, S, Fz, I, hw⟩ => by
  unfold mM0 at hw
  rw [wp_bind] at hw
  refine ⟨ρ, S, Fz, I, wp_mono hw (fun o1 ρ1 S1 h1 v1 H1 Fz1 I1 k1 a1 => ?_) fun _ _ _ z => z⟩
  rw [wp_bind] at h1
  obtain ⟨dx, cx, h1⟩ := wp_res I1 a1 h1
  rw [wp_bind] at h1
  obtain ⟨s, es, h1⟩ := wp_of.mp h1
  rw [strO_eq es] at cx
  obtain ⟨rfl, ok⟩ := c_str cx
  obtain ⟨dv, e, q⟩ := wp_of.mp h1
  exact ⟨⟨s, rfl⟩, hm H1 Fz1 s dv Q ok e fun v H' n rv => fin_new I1 k1 q n rv⟩
def joinO (a : Str) (d : D) : Option DV := match d with
  | .lst ds => (strsD ds).bind (joinS a)
  | .tup ds => (strsD ds).bind (joinS a)
  | _ => none
def rJoin (K : PySem.W.Frag) : V → List V → Hp → VK → Prop := fun x xs H Q => ∃ a p, ∃ ys : List Str, x = .str a ∧ xs = [.ref p] ∧ (SqL K H p (ys.map V.str) ∨ SqT K H p (ys.map V.str)) ∧ (ys.map (·.length)).sum + ys.length * a.length ≤ 16777216 ∧ Q (.str (Txt.join a ys)) H
theorem mtd_join : MtD g (rJoin g.K) joinO := fun H Fz s y dy dv Q ok cy e q => by
  unfold joinO at e
  split at e
  · rename_i ds
    obtain ⟨ys, hy, e⟩ := Option.bind_eq_some_iff.mp e
    unfold joinS at e
    split at e
    · rename_i hz
      cases e
      obtain ⟨p, xs, rfl, ep, l⟩ := c_lst cy
      obtain ⟨ex, hk⟩ := atL_strsD l hy
      subst ex
      exact ⟨s, p, ys, rfl, rfl, .inl (SqL.of ep), hz, q _ H New.refl (.str _ (sok_join ok hk hz))⟩
    · cases e
  · rename_i ds
    obtain ⟨ys, hy, e⟩ := Option.bind_eq_some_iff.mp e
    unfold joinS at e
    split at e
    · rename_i hz
      cases e
      obtain ⟨p, xs, rfl, ep, l⟩ := c_tup cy
      obtain ⟨ex, hk⟩ := atL_strsD l hy
      subst ex
      exact ⟨s, p, ys, rfl, rfl, .inr ep, hz, q _ H New.refl (.str _ (sok_join ok hk hz))⟩
    · cases e
  · cases e
theorem de_join {o e : Expr} {apos pos : Pos} {ma mb : M Opd} (hK : X.K = g.K) (ho : DO X g o ma) (he : DO X g e mb) (hs : starEach [e] X.env = [(false, eval e X.env)] := by rfl)
    (hbase : attributeBase o "join" X.env (eval o X.env) = eval o X.env := by rfl) (hline : (apos.endLine == pos.line) = true := by rfl) : DE X g (.Call (.Attribute o "join" apos) [e] [] pos) (mM1 joinO ma mb) :=
  PE.imp (pe_join ho he hs hbase hline) fun σ H Q h => m1_run (r := rJoin X.K) (by rw [hK]; exact mtd_join) h
/-! ### list(xs), sorted(xs) -/
def lstF' : D → Option DV
  | .lst ds => some (.ow (.lst ds))
  | .tup ds => some (.ow (.lst ds))
  | _ => none
theorem bui_lst : BuiD g (fun xs H Q => ∃ p ys, xs = [.ref p] ∧ (SqL g.K H p ys ∨ SqT g.K H p ys) ∧ ∀ l, H l = none → Q (.ref l) (upd H l (.lst ys))) (op1 lstF') := fun H Fz vs ds dv Q c e q => by
  match ds, e with
  | [d], e =>
    obtain ⟨v, rfl, k1⟩ := cl1 c
    clear c
    cases d <;> cases e
    · obtain ⟨a, xs, rfl, ea, l⟩ := c_tup k1
      exact ⟨a, xs, rfl, .inr ea, fun p np => q _ _ (rv_lst np l).1 (rv_lst np l).2⟩
    · obtain ⟨a, xs, rfl, ea, l⟩ := c_lst k1
      exact ⟨a, xs, rfl, .inl (SqL.of ea), fun p np => q _ _ (rv_lst np l).1 (rv_lst np l).2⟩
def sortZ (ns : List Int) : List Int := ns.mergeSort fun a b => decide (a ≤ b)
theorem sortZ_eq {ns ys : List Int} (p : ys.Perm ns) (s : ys.Pairwise (· ≤ ·)) : ys = sortZ ns := by
  refine List.Perm.eq_of_pairwise (le := (· ≤ ·)) (fun a b _ _ h1 h2 => by omega) s ?_ (p.trans (List.mergeSort_perm ns _).symm)
  have := List.pairwise_mergeSort (le := fun a b : Int => decide (a ≤ b)) (fun a b c h1 h2 => by simp only [decide_eq_true_eq] at *; omega) (fun a b => by simp only [Bool.or_eq_true, decide_eq_true_eq]; omega) ns
  exact this.imp fun h => by simpa using h
/-- the order of texts -/
def leSt (a b : Str) : Bool := !decide (b.cps.toList < a.cps.toList)
def sortT (ns : List Str) : List Str := ns.mergeSort leSt
theorem leSt_iff {a b : Str} : leSt a b = true ↔ a.cps.toList ≤ b.cps.toList := by
  unfold leSt
  rw [Bool.not_eq_true', decide_eq_false_iff_not]
  exact Iff.rfl
theorem leSt_anti {a b : Str} (h1 : leSt a b = true) (h2 : leSt b a = true) : a = b := by
  have := List.le_antisymm (leSt_iff.mp h1) (leSt_iff.mp h2)
  obtain ⟨⟨x⟩⟩ := a
  obtain ⟨⟨y⟩⟩ := b
  have e : x = y := this
  rw [e]
theorem leSt_trans {a b c : Str} (h1 : leSt a b = true) (h2 : leSt b c = true) : leSt a c = true := leSt_iff.mpr (List.le_trans (leSt_iff.mp h1) (leSt_iff.mp h2))
theorem leSt_total {a b : Str} : (leSt a b || leSt b a) = true := by
  rw [Bool.or_eq_true, leSt_iff, leSt_iff]
  exact List.le_total ..
theorem rising_all : ∀ (l : List Str) (p : Str), risingS p l = true → (p :: l).Pairwise (fun a b => leSt a b = true)
  | [], p, _ => List.pairwise_singleton ..
  | x :: r, p, h => by
    unfold risingS at h
    rw [Bool.and_eq_true, Bool.not_eq_true', ltCps_eq] at h
    have ih := rising_all r x h.2
    have px : leSt p x = true := by unfold leSt; rw [h.1]; rfl
    refine List.pairwise_cons.mpr ⟨fun y hy => ?_, ih⟩
    rcases List.mem_cons.mp hy with rfl | hy
    · exact px
    · exact leSt_trans px ((List.pairwise_cons.mp ih).1 y hy)
theorem sortT_eq {ns ys : List Str} (p : ys.Perm ns) (s : sortedS ys = true) : ys = sortT ns := by
  refine List.Perm.eq_of_pairwise (le := fun a b => leSt a b = true) (fun a b _ _ h1 h2 => leSt_anti h1 h2) ?_ ?_ (p.trans (List.mergeSort_perm ns _).symm)
  · cases ys with
    | nil => exact .nil
    | cons x r => exact rising_all r x s
  · exact List.pairwise_mergeSort (le := leSt) (fun a b c h1 h2 => leSt_trans h1 h2) (fun a b => leSt_total) ns
def sortF : D → Option DV
  | .lst ds => if ds.length < 64 then (match intsD ds with
      | some ns => some (.ow (.lst ((sortZ ns).map D.int)))
      | none => (strsD ds).map fun ns => .ow (.lst ((sortT ns).map D.str))) else none
  | _ => none
theorem atL_ints : ∀ ns : List Int, AtL g.K g.sd H Fz (ns.map V.int) (ns.map D.int)
  | [] => .nil
  | n :: ns => .cons (.int n) (atL_ints ns)
theorem atL_strs : ∀ {ns : List Str}, (∀ s ∈ ns, SOk s) → AtL g.K g.sd H Fz (ns.map V.str) (ns.map D.str)
  | [], _ => .nil
  | n :: ns, h => .cons (.str n (h n (List.mem_cons_self ..))) (atL_strs fun s hs => h s (List.mem_cons_of_mem _ hs))
def rSortA (K : PySem.W.Frag) : List V → Hp → VK → Prop := fun vs H Q => rSorted K vs H Q ∨ rSortedS K vs H Q
theorem cr_sortA : CallR X (.builtin "sorted") (rSortA X.K) := cr_sorted.or cr_sortedS
theorem bui_sort : BuiD g (rSortA g.K) (op1 sortF) := fun H Fz vs ds dv Q c e q => by
  match ds, e with
  | [d], e =>
    obtain ⟨v, rfl, k1⟩ := cl1 c
    clear c
    cases d <;> first | (cases e; done) | skip
    rename_i ds
    unfold op1 sortF at e
    simp only at e
    split at e
    · rename_i hz
      obtain ⟨a, xs, rfl, ea, l⟩ := c_lst k1
      split at e
      · rename_i ns hn
        cases e
        have ex := atL_intsD l hn
        subst ex
        have hl : ns.length = ds.length := by have := l.length; rw [List.length_map] at this; exact this
        refine .inl ⟨a, ns, rfl, SqL.of ea, by rw [hl]; exact hz, fun ns' p hp hs np => ?_⟩
        rw [sortZ_eq hp hs]
        have rv := rv_lst (g := g) (Fz := Fz) np (atL_ints (sortZ ns))
        exact q _ _ rv.1 rv.2
      · obtain ⟨ns, hn, e⟩ := Option.map_eq_some_iff.mp e
        cases e
        obtain ⟨ex, hk⟩ := atL_strsD l hn
        subst ex
        have hl : ns.length = ds.length := by have := l.length; rw [List.length_map] at this; exact this
        refine .inr ⟨a, ns, rfl, SqL.of ea, by rw [hl]; exact hz, fun ns' p hp hs np => ?_⟩
        have es := sortT_eq hp hs
        rw [es]
        have hk' : ∀ s ∈ sortT ns, SOk s := fun s h => hk s (hp.mem_iff.mp (by rw [es]; exact h))
        have rv := rv_lst (g := g) (Fz := Fz) np (atL_strs hk')
        exact q _ _ rv.1 rv.2
    · cases e
/-! ### products -/
def mulD (a b : D) : Option DV := match a, b with
  | .int i, .int j => if i.natAbs.log2 + j.natAbs.log2 < 1000000 then some (.sh (.int (i * j))) else none
  | .lst ds, .int k => if -(2 ^ 63) ≤ k ∧ k < 2 ^ 63 ∧ ds.length * k.toNat ≤ sizeLine then some (.ow (.lst (List.replicate k.toNat ds).flatten)) else none
  | .tup ds, .int k => if ds ≠ [] ∧ 2 ≤ k ∧ k ≤ 1000 ∧ ds.length ≤ 1000 then some (.sh (.tup (List.replicate k.toNat ds).flatten)) else none
  | _, _ => none
def rMulA (K : PySem.W.Frag) : R2 := fun x y H Q => (rI CMulW fun i j => .int (i * j)) x y H Q ∨ (rRep x y H Q ∨ rRepT K x y H Q)
theorem op_mulA : OpR X (binaryOp .Mult) (rMulA X.K) := op_mulW.or (op_rep.or op_repT)
theorem atL_rep {vs : List V} {ds : List D} (l : AtL g.K g.sd H Fz vs ds) : ∀ n : Nat, AtL g.K g.sd H Fz (List.replicate n vs).flatten (List.replicate n ds).flatten
  | 0 => .nil
  | n + 1 => by
    rw [List.replicate_succ, List.replicate_succ, List.flatten_cons, List.flatten_cons]
    exact l.app (atL_rep l n)
theorem o2_mul (hK : X.K = g.K) : Op2 X g (rMulA X.K) mulD := fun H Fz x y dx dy dv Q cx cy e q => by
  rw [hK]
  unfold mulD at e
  split at e
  · split at e
    · rename_i hc
      cases e
      exact .inl ⟨_, _, c_int cx, c_int cy, hc, q _ H New.refl (.int _)⟩
    · cases e
  · split at e
    · rename_i hc
      cases e
      obtain ⟨a, xs, rfl, ea, l⟩ := c_lst cx
      exact .inr (.inl ⟨a, _, xs, rfl, c_int cy, ea, hc.1, hc.2.1, by rw [l.length]; exact hc.2.2, fun p np => q _ _ (rv_lst np (atL_rep l _)).1 (rv_lst np (atL_rep l _)).2⟩)
    · cases e
  · split at e
    · rename_i hc
      cases e
      obtain ⟨a, xs, rfl, ea, l⟩ := c_tup cx
      refine .inr (.inr ⟨a, _, xs, rfl, c_int cy, ea, ?_, hc.2.1, hc.2.2.1, by rw [l.length]; exact hc.2.2.2, fun p np => q _ _ (rv_tup np (atL_rep l _)).1 (rv_tup np (atL_rep l _)).2⟩)
      intro z
      subst z
      cases l
      exact hc.1 rfl
    · cases e
  · cases e
/-! ### a text walked -/
def sgn (c : Nat) : D := .str ⟨#[c]⟩
def signsD (s : Str) : List D := s.cps.toList.map sgn
def mSt (m : M Opd) : M (List D) := m >>= fun o => res o >>= fun d => M.of ((strO d).map signsD)
theorem itOk_str {s : Str} (ok : SOk s) : ItOk g (Its s) (signsD s) H1 Fz1 := by
  have hl : (signsD s).length = s.cps.size := by unfold signsD; rw [List.length_map, Array.length_toList]
  refine ⟨fun H Fz i k hi => by rw [hl] at hi; exact hi, fun H Fz i d x H' k hd y => ?_, fun H Fz k => by rw [hl]; exact Nat.le_refl _⟩
  obtain ⟨rfl, c, hc, rfl⟩ := y
  unfold signsD at hd
  rw [List.getElem?_map] at hd
  obtain ⟨c', hc', rfl⟩ := Option.map_eq_some_iff.mp hd
  rw [Array.getElem?_toList, hc] at hc'
  cases hc'
  exact ⟨New.refl, .str _ (sok1 ok (Array.mem_toList_iff.mpr (Array.mem_of_getElem? hc)))⟩
theorem di_str {tg e : Expr} {m : M Opd} (h : DO X g e m) : DI X g tg e (mSt m) :=
  PI.imp (pi_str h) fun σ H R ⟨ρ, S, Fz, I, hw⟩ => by
    unfold mSt at hw
    rw [wp_bind] at hw
    refine ⟨ρ, S, Fz, I, wp_mono hw (fun o ρ1 S1 h1 v1 H1 Fz1 I1 k1 a1 => ?_) fun _ _ _ z => z⟩
    rw [wp_bind] at h1
    obtain ⟨d, c, h1⟩ := wp_res I1 a1 h1
    obtain ⟨ds, e, q⟩ := wp_of.mp h1
    obtain ⟨s, es, rfl⟩ := Option.map_eq_some_iff.mp e
    rw [strO_eq es] at c
    obtain ⟨rfl, ok⟩ := c_str c
    exact ⟨s, rfl, q _ H1 Fz1 I1 k1 (itOk_str ok)⟩
end
end DL
set_option Elab.async false
set_option linter.all false
set_option maxRecDepth 100000
set_option maxHeartbeats 1000000
/-! repr of data -/
namespace DL
open PySem PySem.Spec PyProof.Rows L2
/-! ### the signs of a shown datum -/
def okC (c : Nat) : Prop := c < 0x110000
theorem strOk_iff {x : Str} : PyData.strOk x = true ↔ ∀ c ∈ x.cps.toList, c < 0x110000 := by
  unfold PyData.strOk
  rw [← Array.all_toList, List.all_eq_true]
  exact ⟨fun h c hc => of_decide_eq_true (h c hc), fun h c hc => decide_eq_true (h c hc)⟩
theorem strOk_ofString (s : String) : PyData.strOk (Str.ofString s) = true := by
  rw [strOk_iff, Str.ofString_eq_toList]
  intro c hc
  obtain ⟨ch, _, rfl⟩ := List.mem_map.mp hc
  have := ch.valid
  unfold UInt32.isValidChar Nat.isValidChar at this
  show ch.val.toNat < _
  omega
theorem digit_lt : ∀ n : Nat, n < 16 → (Nat.digitChar n).toNat < 0x110000
  | 0, _ => by decide | 1, _ => by decide | 2, _ => by decide | 3, _ => by decide | 4, _ => by decide | 5, _ => by decide | 6, _ => by decide | 7, _ => by decide
  | 8, _ => by decide | 9, _ => by decide | 10, _ => by decide | 11, _ => by decide | 12, _ => by decide | 13, _ => by decide | 14, _ => by decide | 15, _ => by decide
  | n + 16, h => by omega
theorem char_lt (ch : Char) : ch.toNat < 0x110000 := by
  have := ch.valid
  unfold UInt32.isValidChar Nat.isValidChar at this
  show ch.val.toNat < _
  omega
theorem reprChar_lt {q c : Nat} (hc : c < 0x110000) : ∀ x ∈ Builtin.Str.reprChar q c, x < 0x110000 := by
  intro x hx
  have hex : ∀ (w : Nat) (d : List Nat), (∀ y ∈ d, y < 0x110000) → ∀ y ∈ List.replicate w 48 ++ d, y < 0x110000 := fun w d hd y hy => by
    rcases List.mem_append.mp hy with h | h
    · rw [(List.mem_replicate.mp h).2]; decide
    · exact hd y h
  have dg : ∀ y ∈ (Nat.toDigits 16 c).map Char.toNat, y < 0x110000 := fun y hy => by
    obtain ⟨ch, _, rfl⟩ := List.mem_map.mp hy
    exact char_lt ch
  unfold Builtin.Str.reprChar at hx
  simp only at hx
  have two : ∀ a b : Nat, a < 0x110000 → b < 0x110000 → ∀ y ∈ [a, b], y < 0x110000 := fun a b ha hb y hy => by
    rcases List.mem_cons.mp hy with rfl | hy
    · exact ha
    · rw [List.mem_singleton.mp hy]; exact hb
  split at hx
  · exact two 92 c (by decide) hc x hx
  · split at hx
    · exact two 92 110 (by decide) (by decide) x hx
    · split at hx
      · exact two 92 114 (by decide) (by decide) x hx
      · split at hx
        · exact two 92 116 (by decide) (by decide) x hx
        · split at hx
          · rw [List.mem_singleton.mp hx]; exact hc
          · have key : ∀ (a b : Nat) (w : Nat), a < 0x110000 → b < 0x110000 → x ∈ [a, b] ++ (List.replicate w 48 ++ (Nat.toDigits 16 c).map Char.toNat) → x < 0x110000 := fun a b w ha hb h => by
              rcases List.mem_append.mp h with h | h
              · exact two a b ha hb x h
              · exact hex w _ dg x h
            split at hx
            · exact key _ _ _ (by decide) (by decide) hx
            · split at hx
              · exact key _ _ _ (by decide) (by decide) hx
              · exact key _ _ _ (by decide) (by decide) hx
theorem strOk_repr {x : Str} (h : PyData.strOk x = true) : PyData.strOk (reprText x) = true := by
  rw [strOk_iff] at h ⊢
  have hq : reprQuote x < 0x110000 := by unfold reprQuote; split <;> decide
  unfold reprText
  show ∀ c ∈ ((x.cps.foldl (fun out c => out ++ (Builtin.Str.reprChar (reprQuote x) c).toArray) #[reprQuote x]).push (reprQuote x)).toList, _
  rw [← Array.foldl_toList]
  have key : ∀ (l : List Nat) (acc : Array Nat), (∀ c ∈ l, c < 0x110000) → (∀ c ∈ acc.toList, c < 0x110000) → ∀ c ∈ (l.foldl (fun out c => out ++ (Builtin.Str.reprChar (reprQuote x) c).toArray) acc).toList, c < 0x110000 := by
    intro l
    induction l with
    | nil => intro acc _ ha; exact ha
    | cons d l ih =>
      intro acc hl ha
      rw [List.foldl_cons]
      refine ih _ (fun c hc => hl c (List.mem_cons_of_mem _ hc)) fun c hc => ?_
      rw [Array.toList_append] at hc
      rcases List.mem_append.mp hc with h1 | h1
      · exact ha c h1
      · exact reprChar_lt (hl d (List.mem_cons_self ..)) c (by simpa using h1)
  intro c hc
  rw [Array.toList_push] at hc
  rcases List.mem_append.mp hc with h1 | h1
  · exact key x.cps.toList _ h (fun c hc => by simp at hc; rw [hc]; exact hq) c h1
  · rw [List.mem_singleton.mp h1]; exact hq
theorem strOk_join {sep : Str} (hs : PyData.strOk sep = true) : ∀ {ts : List Str}, (∀ t ∈ ts, PyData.strOk t = true) → PyData.strOk (Str.join sep ts) = true
  | [], _ => by show PyData.strOk ⟨#[]⟩ = true; simp [PyData.strOk]
  | [x], h => h x (List.mem_singleton.mpr rfl)
  | x :: y :: r, h => by
    show PyData.strOk (x ++ sep ++ Str.join sep (y :: r)) = true
    exact strOk_app (strOk_app (h x (List.mem_cons_self ..)) hs) (strOk_join hs fun t ht => h t (List.mem_cons_of_mem _ ht))
theorem strOk_textFrom : ∀ {ts : List Str} {k : Nat} {acc : Str}, PyData.strOk acc = true → (∀ t ∈ ts, PyData.strOk t = true) → PyData.strOk (textFrom k acc ts) = true
  | [], _, _, h, _ => h
  | t :: ts, k, acc, h, ht => by
    unfold textFrom
    refine strOk_textFrom (strOk_app (strOk_app h ?_) (ht t (List.mem_cons_self ..))) fun u hu => ht u (List.mem_cons_of_mem _ hu)
    exact strOk_ofString _
mutual
theorem shown_ok : ∀ d : PyData, d.canLay0 = true → PyData.strOk d.shown = true
  | .none, _ => strOk_ofString _
  | .bool b, _ => by cases b <;> exact strOk_ofString _
  | .int i, _ => strOk_ofString _
  | .str x, h => strOk_repr (by simpa [PyData.canLay0] using h)
  | .list xs, h => by
    unfold PyData.shown listText
    refine strOk_app (strOk_textFrom (strOk_ofString _) (shown_oks xs (by simpa [PyData.canLay0] using h))) (strOk_ofString _)
  | .tuple xs, h => by
    unfold PyData.shown tupleText
    refine strOk_app (strOk_app (strOk_ofString _) (strOk_join (strOk_ofString _) (shown_oks xs (by simpa [PyData.canLay0] using h)))) ?_
    exact strOk_ofString _
  | .dict _, h => by simp [PyData.canLay0] at h
theorem shown_oks : ∀ ds : List PyData, PyData.canLayAll0 ds = true → ∀ t ∈ PyData.shownAll ds, PyData.strOk t = true
  | [], _, _, ht => by simp [PyData.shownAll] at ht
  | d :: ds, h, t, ht => by
    unfold PyData.canLayAll0 at h
    rw [Bool.and_eq_true] at h
    unfold PyData.shownAll at ht
    rcases List.mem_cons.mp ht with rfl | ht
    · exact shown_ok d h.1
    · exact shown_oks ds h.2 t ht
end
section
variable {X : Cx} {g : G} {ρ ρ' ρ0 ρ1 ρ2 : Env} {S S1 S2 S' : Src} {σ σ' : L2.St} {H H1 H2 H' : Hp} {Fz Fz1 Fz2 Fz' : Addr → Prop} {Q : VK} {v : V}
def rRepr (K : PySem.W.Frag) : List V → Hp → VK → Prop := fun xs H Q => ∃ x d, xs = [x] ∧ Dp K H x d ∧ d.showable = true ∧ d.hasDict = false ∧ d.shown.length ≤ sizeLine ∧ d.depth ≤ 64 ∧ Q (.str d.shown) H
theorem cr_repr (ga : X.A.guards = some []) (hu : X.A.units + 80 < cLine) : CallR X (.builtin "repr") (rRepr X.K) := by
  intro pins s σ H xs us Q I r h
  obtain ⟨x, d, rfl, dp, hs, hd, hz, hdp, q⟩ := h
  have hx := dp
  cases r with
  | cons r1 r2 =>
    cases r2
    rename_i u
    cases x with
    | ref p =>
      cases r1
      obtain ⟨as, rd⟩ := Dp.reads I d _ _ dp rfl
      exact repr_of_reads' (h₀ := s.heap) rd hs (PyData.noDict_hsm hd) ga (by omega) (fun _ _ e => e) (fun h' u tk k => ⟨.str _, H, I.kept (t' := tk) k, ⟨u, rfl⟩, q⟩) hz
    | non =>
      cases r1
      cases dp
      exact PySem.P.repr_of_none ⟨.str _, H, I.tok _, ⟨_, rfl⟩, q⟩
    | bl b =>
      cases r1
      cases dp
      exact PySem.P.repr_of_bool ⟨.str _, H, I.tok _, ⟨_, rfl⟩, q⟩
    | int i =>
      obtain ⟨t, rfl⟩ := r1
      cases dp
      exact PySem.P.repr_of_int (by simpa [PyData.showable] using hs) ⟨.str _, H, I.tok _, ⟨_, rfl⟩, q⟩
    | str y =>
      obtain ⟨t, rfl⟩ := r1
      cases dp
      exact PySem.P.repr_of_str ⟨.str _, H, I.tok _, ⟨_, rfl⟩, q⟩ hz
    | _ => cases dp
def shownD (d : D) : Str := (toP d).shown
def reprF (d : D) : Option DV := if nd d = true ∧ (toP d).showable = true ∧ (shownD d).length ≤ sizeLine ∧ dep d ≤ 64 then some (.sh (.str (shownD d))) else none
theorem bui_repr : BuiD g (rRepr g.K) (op1 reprF) := fun H Fz vs ds dv Q c e q => by
  match ds, e with
  | [d], e =>
    obtain ⟨v, rfl, k1⟩ := cl1 c
    clear c
    unfold op1 reprF at e
    simp only at e
    split at e
    · rename_i h
      cases e
      obtain ⟨dp, cl⟩ := k1.dp h.1
      refine ⟨v, toP d, rfl, dp, h.2.1, PyData.hasDict_of_canLay _ cl, h.2.2.1, ?_, q _ H New.refl (.str _ ⟨h.2.2.1, shown_ok _ cl⟩)⟩
      rcases dep_toP d with z | z
      · rw [z]; exact h.2.2.2
      · rw [h.1] at z; cases z
    · cases e
end
end DL
set_option Elab.async false
set_option linter.all false
set_option maxRecDepth 100000
set_option maxHeartbeats 1000000
/-! dicts; stores into own objects; two names at once; the module's tables -/
namespace DL
open PySem PySem.Spec PyProof.Rows L2
def putD (ds : List (Key × D)) (k : Key) (d : D) : List (Key × D) := if (ds.any fun p => decide (p.1 = k)) = true then ds.map (fun p => if p.1 = k then (p.1, d) else p) else ds ++ [(k, d)]
def mergeD (ds more : List (Key × D)) : List (Key × D) := more.foldl (fun acc p => putD acc p.1 p.2) ds
section
variable {X : Cx} {g : G} {ρ ρ' ρ0 ρ1 ρ2 : Env} {S S1 S2 S' : Src} {σ σ' : L2.St} {H H1 H2 H' : Hp} {Fz Fz1 Fz2 Fz' : Addr → Prop} {Q : VK} {v : V}
theorem atK_app : ∀ {vs : List (Key × V)} {ds : List (Key × D)} {ws : List (Key × V)} {es : List (Key × D)}, AtK g.K g.sd H Fz vs ds → AtK g.K g.sd H Fz ws es → AtK g.K g.sd H Fz (vs ++ ws) (ds ++ es)
  | _, _, _, _, .nil, h => h
  | _, _, _, _, .cons a l, h => .cons a (atK_app l h)
theorem atK_any {k : Key} : ∀ {vs : List (Key × V)} {ds : List (Key × D)}, AtK g.K g.sd H Fz vs ds → (vs.any fun p => decide (p.1 = k)) = ds.any fun p => decide (p.1 = k)
  | _, _, .nil => rfl
  | _, _, .cons (k := j) a l => by rw [List.any_cons, List.any_cons, atK_any l]
theorem atK_set {k : Key} {w : V} {d : D} (h : At g.K g.sd H Fz w d) : ∀ {vs : List (Key × V)} {ds : List (Key × D)}, AtK g.K g.sd H Fz vs ds → AtK g.K g.sd H Fz (vs.map fun p => if p.1 = k then (p.1, w) else p) (ds.map fun p => if p.1 = k then (p.1, d) else p)
  | _, _, .nil => .nil
  | _, _, .cons (k := j) a l => by
    rw [List.map_cons, List.map_cons]
    by_cases e : j = k
    · rw [if_pos (show (j, _).1 = k from e), if_pos (show (j, _).1 = k from e)]
      exact .cons h (atK_set h l)
    · rw [if_neg (show ¬ (j, _).1 = k from e), if_neg (show ¬ (j, _).1 = k from e)]
      exact .cons a (atK_set h l)
theorem atK_put {k : Key} {w : V} {d : D} (h : At g.K g.sd H Fz w d) {vs : List (Key × V)} {ds : List (Key × D)} (l : AtK g.K g.sd H Fz vs ds) : AtK g.K g.sd H Fz (putK vs k w) (putD ds k d) := by
  unfold putK putD
  rw [atK_any l]
  split
  · exact atK_set h l
  · exact atK_app l (.cons h .nil)
theorem atK_merge : ∀ {ws : List (Key × V)} {es : List (Key × D)} {vs : List (Key × V)} {ds : List (Key × D)}, AtK g.K g.sd H Fz ws es → AtK g.K g.sd H Fz vs ds → AtK g.K g.sd H Fz (mergeK vs ws) (mergeD ds es)
  | _, _, _, _, .nil, h => h
  | _, _, vs, ds, .cons (k := k) (v := w) (d := d) a l, h => by
    show AtK _ _ _ _ (mergeK (putK vs k w) _) (mergeD (putD ds k d) _)
    exact atK_merge l (atK_put a h)
/-- an object that is nobody's own and not frozen is written -/
theorem SI.sideO (I : SI g ρ S σ H Fz) {p : Addr} {o o' : HO} (e : H p = some o) (nt : ∀ xs, o ≠ .tup xs) (nf : ¬ Fz p) (no : ¬ OwnA ρ σ p) (nx : ¬ g.ex p) (n0 : g.H0 p = none) : SI g ρ S σ (upd H p o') Fz ∧ KF H Fz (upd H p o') Fz := by
  have k : KF H Fz (upd H p o') Fz := by
    refine ⟨fun _ h => h, fun a o f h => by rw [upd_ne (fun z => nf (by rw [← z]; exact f))]; exact h, fun a zs h => by rw [upd_ne (fun z => by rw [z, e] at h; cases h; exact nt _ rfl)]; exact h, fun a h => ?_⟩
    by_cases z : a = p
    · rw [z, upd_same] at h; cases h
    · rw [upd_ne z] at h; exact h
  have ne : ∀ {a : Addr}, g.ex a → a ≠ p := fun h z => nx (by rw [← z]; exact h)
  refine ⟨⟨I.len, fun i d h => ?_, fun i d h => ?_, I.dis, ⟨?_, ?_, I.src.l0, I.src.m0, I.src.t0, I.src.c0, I.src.len⟩, I.fzx, fun a f h => I.fzt a f (k.new a h), fun a o h x => ?_, I.fz0, I.fzn, fun t h => ?_⟩, k⟩
  · obtain ⟨v, ev, av⟩ := I.sh i d h
    exact ⟨v, ev, av.kf k⟩
  · obtain ⟨a, ea, ca, r⟩ := I.ow i d h
    refine ⟨a, ea, ca.kf k fun o ho => ?_, r⟩
    rw [upd_ne (fun z => no ⟨i, d, h, by rw [← z]; exact ea⟩)]; exact ho
  · rw [upd_ne (ne (.inl rfl))]; exact I.src.hd
  · rw [upd_ne (ne (.inr (.inl rfl)))]; exact I.src.hc
  · rw [upd_ne (fun z => by rw [z, n0] at h; cases h)]; exact I.ext a o h x
  · obtain ⟨ps, e1, r⟩ := I.tab t h
    exact ⟨ps, by rw [upd_ne (ne (.inr (.inr h)))]; exact e1, r⟩
/-! ### {k: v, ..} -/
inductive VPs (g : G) (σ : L2.St) (H : Hp) (Fz : Addr → Prop) : List (V × V) → List (Opd × Opd) → Prop
  | nil : VPs g σ H Fz [] []
  | cons {v w : V} {vs : List (V × V)} {o q : Opd} {os : List (Opd × Opd)} : VO g σ H Fz v o → VO g σ H Fz w q → VPs g σ H Fz vs os → VPs g σ H Fz ((v, w) :: vs) ((o, q) :: os)
theorem VPs.fst {ps : List (V × V)} {os : List (Opd × Opd)} (h : VPs g σ H Fz ps os) : VOs g σ H Fz (ps.map (·.1)) (os.map (·.1)) := by
  induction h with
  | nil => exact .nil
  | cons a _ _ ih => exact .cons a ih
theorem VPs.snd {ps : List (V × V)} {os : List (Opd × Opd)} (h : VPs g σ H Fz ps os) : VOs g σ H Fz (ps.map (·.2)) (os.map (·.2)) := by
  induction h with
  | nil => exact .nil
  | cons _ a _ ih => exact .cons a ih
def tOfPs (g : G) (m : M (List (Opd × Opd))) : L2.St → Hp → (List (V × V) → Hp → Prop) → Prop := fun σ H Q => ∃ ρ S Fz, SI g ρ S σ H Fz ∧ wp m ρ S (fun r ρ' S' => ∀ vs H' Fz', SI g ρ' S' σ H' Fz' → Kx g ρ ρ' σ H Fz H' Fz' → VPs g σ H' Fz' vs r → Q vs H') (XE g H Fz)
def DPs (X : Cx) (g : G) (pos : Pos) (keys : List (Option Expr)) (values : List Expr) (m : M (List (Opd × Opd))) : Prop := ∃ trs, PPs X pos keys values trs ∧ ∀ σ H Q, tOfPs g m σ H Q → tPairs trs σ H Q
def pNil : M (List (Opd × Opd)) := pure []
def pCons (mk mv : M Opd) (ms : M (List (Opd × Opd))) : M (List (Opd × Opd)) := mk >>= fun a => mv >>= fun b => ms >>= fun r => pure ((a, b) :: r)
theorem dps_nil {pos : Pos} : DPs X g pos [] [] pNil := ⟨[], pps_nil, fun σ H Q ⟨ρ, S, Fz, I, hw⟩ => hw [] H Fz I Kx.refl .nil⟩
theorem dps_cons {pos : Pos} {k v : Expr} {ks : List (Option Expr)} {vs : List Expr} {mk mv : M Opd} {ms : M (List (Opd × Opd))} (hk : DO X g k mk) (hv : DO X g v mv) (hr : DPs X g pos ks vs ms) : DPs X g pos (some k :: ks) (v :: vs) (pCons mk mv ms) := by
  obtain ⟨trs, hp, ht⟩ := hr
  refine ⟨(tOfO g mk, tOfO g mv) :: trs, pps_cons hk hv hp, fun σ H Q ⟨ρ, S, Fz, I, hw⟩ => ?_⟩
  unfold pCons at hw
  rw [wp_bind] at hw
  refine ⟨ρ, S, Fz, I, wp_mono hw (fun o1 ρ1 S1 h1 v1 H1 Fz1 I1 k1 a1 => ?_) fun _ _ _ z => z⟩
  rw [wp_bind] at h1
  refine ⟨ρ1, S1, Fz1, I1, wp_mono h1 (fun o2 ρ2 S2 h2 v2 H2 Fz2 I2 k2 a2 => ?_) fun _ _ _ z => z.mono (k1.kf I)⟩
  rw [wp_bind] at h2
  refine ht σ H2 _ ⟨ρ2, S2, Fz2, I2, wp_mono h2 (fun os ρ3 S3 h3 ws H3 Fz3 I3 k3 a3 => ?_) fun _ _ _ z => z.mono ((k1.trans k2).kf I)⟩
  exact h3 _ H3 Fz3 I3 ((k1.trans k2).trans k3) (.cons ((a1.kx I1 k2).kx I2 k3) (a2.kx I2 k3) a3)
def keysD : List D → Option (List Key)
  | [] => some []
  | d :: ds => (keyD d).bind fun k => (keysD ds).map (k :: ·)
def dispD (ks ds : List D) : Option DV := (keysD ks).bind fun kk => if kk.length = ds.length ∧ kk.length ≤ 15 then some (.ow (.dic (mergeD [] (kk.zip ds)))) else none
def mDisp (ms : M (List (Opd × Opd))) : M DV := ms >>= fun ps => resL (ps.map (·.1)) >>= fun ks => keepM (ps.map (·.2)) >>= fun ds => M.of (dispD ks ds)
theorem contL_keys : ∀ {vs : List V} {ds : List D} {ks : List Key}, ContL g H Fz vs ds → keysD ds = some ks → vs = ks.map kV
  | _, _, ks, .nil, h => by cases h; rfl
  | _, _, ks, .cons a l, h => by
    unfold keysD at h
    obtain ⟨k, hk, h⟩ := Option.bind_eq_some_iff.mp h
    obtain ⟨r, hr, rfl⟩ := Option.map_eq_some_iff.mp h
    rw [c_key a hk, contL_keys l hr]; rfl
theorem zip_pairs : ∀ {ps : List (V × V)} {ks : List Key}, ps.map (·.1) = ks.map kV → ps = (ks.zip (ps.map (·.2))).map fun kv => (kV kv.1, kv.2)
  | [], [], _ => rfl
  | p :: ps, k :: ks, h => by
    rw [List.map_cons, List.map_cons] at h
    injection h with h1 h2
    rw [List.map_cons, List.zip_cons_cons, List.map_cons, ← zip_pairs h2, ← h1]
theorem atK_zip : ∀ {ks : List Key} {vs : List V} {ds : List D}, AtL g.K g.sd H Fz vs ds → AtK g.K g.sd H Fz (ks.zip vs) (ks.zip ds)
  | [], _, _, _ => by rw [List.zip_nil_left, List.zip_nil_left]; exact .nil
  | _ :: _, _, _, .nil => by rw [List.zip_nil_right, List.zip_nil_right]; exact .nil
  | k :: ks, _, _, .cons a l => by rw [List.zip_cons_cons, List.zip_cons_cons]; exact .cons a (atK_zip l)
theorem de_disp {pos : Pos} {keys : List (Option Expr)} {values : List Expr} {ms : M (List (Opd × Opd))} (h : DPs X g pos keys values ms) (hall : keys.all (·.isSome) = true := by rfl) (hl : keys.length = values.length := by rfl) (h0 : keys ≠ [] := by exact fun z => nomatch z) (h15 : keys.length ≤ 15 := by decide) :
    DE X g (.Dict keys values pos) (mDisp ms) := by
  obtain ⟨trs, hp, ht⟩ := h
  refine PE.imp (pe_disp hp hall hl h0 h15) fun σ H Q ⟨ρ, S, Fz, I, hw⟩ => fun p np => ?_
  unfold mDisp at hw
  rw [wp_bind] at hw
  have nO : ¬ OwnA ρ σ p := I.nO np
  have nF : ¬ Fz p := I.nF np
  have nX : ¬ g.ex p := I.nex np
  have n1 : New H (upd H p (.dK [])) := New.upd1 np
  refine ht σ _ _ ⟨ρ, S, Fz, I.grow n1, wp_mono hw (fun os ρ1 S1 h1 ps H1 Fz1 I1 k1 a1 => ?_) fun _ _ _ z => z.mono n1.kf⟩
  have e1 : H1 p = some (.dK []) := k1.keep p _ upd_same nO nX
  have nF1 : ¬ Fz1 p := fun z => (k1.fz p _ upd_same z).elim nF nO
  have nO1 : ¬ OwnA ρ1 σ p := fun z => nO (k1.own p z)
  refine ⟨e1, ?_⟩
  rw [wp_bind] at h1
  obtain ⟨ks, cs, h1⟩ := wp_resL I1 a1.fst h1
  rw [wp_bind] at h1
  obtain ⟨ds, ρ2, F2, l, I2, k2, h2⟩ := wp_keep I1 a1.snd h1
  obtain ⟨dv, e, q⟩ := wp_of.mp h2
  unfold dispD at e
  obtain ⟨kk, hk, e⟩ := Option.bind_eq_some_iff.mp e
  split at e
  · rename_i hz
    cases e
    have ek := contL_keys cs hk
    have e2 : H1 p = some (.dK []) := e1
    have nF2 : ¬ F2 p := fun z => (k2.fz p _ e1 z).elim nF1 nO1
    have nO2 : ¬ OwnA ρ2 σ p := fun z => nO1 (k2.own p z)
    obtain ⟨I3, kf3⟩ := I2.sideO (o' := .dK (mergeK [] (kk.zip (ps.map (·.2))))) e1 (fun _ z => by cases z) nF2 nO2 nX (I.n0 np)
    refine ⟨kk.zip (ps.map (·.2)), zip_pairs ek, ?_, ?_⟩
    · rw [List.length_zip]; omega
    · have k12 := k1.trans k2
      have kall : Kx g ρ ρ2 σ H Fz (upd H1 p (.dK (mergeK [] (kk.zip (ps.map (·.2)))))) F2 := by
        refine ⟨fun a o ea na xa => ?_, fun a ea => ?_, k12.sub, fun a o ea fa => ?_, k12.own⟩
        · have : a ≠ p := ne_of_none ea np
          rw [upd_ne this]
          exact k12.keep a o (by rw [upd_ne this]; exact ea) na xa
        · by_cases z : a = p
          · rw [z]; exact np
          · rw [upd_ne z] at ea
            have := k12.new a ea
            rw [upd_ne z] at this
            exact this
        · have : a ≠ p := ne_of_none ea np
          exact k12.fz a o (by rw [upd_ne this]; exact ea) fa
      refine q _ _ F2 I3 kall ⟨p, rfl, .dic upd_same ?_, nF2, nO2, nX, np⟩
      exact (atK_merge (atK_zip l) .nil).kf kf3
  · cases e
/-- {} -/
theorem de_disp0 {pos : Pos} : DE X g (.Dict [] [] pos) (pure (.ow (.dic []))) := PE.imp pe_dnewK fun σ H Q ⟨ρ, S, Fz, I, hw⟩ => fun p np =>
  fin_new (r := .ow (.dic [])) I Kx.refl hw (New.upd1 np) ⟨p, rfl, .dic upd_same .nil, np⟩
/-! ### d.get -/
def isDicM (o : Opd) : M Unit := res o >>= fun d => M.of (match d with | .dic _ => some () | _ => none)
def getF (d k z : D) : Option DV := match d with
  | .dic ds => (keyD k).map fun kk => .sh ((getD ds kk).getD z)
  | _ => none
def mGet1 (mo mk : M Opd) : M DV := mo >>= fun o => isDicM o >>= fun _ => mk >>= fun k => res o >>= fun d => res k >>= fun kd => M.of (getF d kd .non)
def mGet2 (mo mk mz : M Opd) : M DV := mo >>= fun o => isDicM o >>= fun _ => mk >>= fun k => mz >>= fun z => res o >>= fun d => res k >>= fun kd => keepM [z] >>= fun zs => M.of (match zs with | [zd] => getF d kd zd | _ => none)
theorem isDic_of {o : Opd} (I : SI g ρ S σ H Fz) (a : VO g σ H Fz v o) {Q : Po Unit} {E : Po D} (h : wp (isDicM o) ρ S Q E) : (∃ p, v = .ref p ∧ IsD H p) ∧ Q () ρ S := by
  unfold isDicM at h
  rw [wp_bind] at h
  obtain ⟨d, c, h⟩ := wp_res I a h
  obtain ⟨u, e, q⟩ := wp_of.mp h
  cases d <;> first | (cases e; done) | skip
  obtain ⟨p, kvs, rfl, ep, l⟩ := c_dic c
  exact ⟨⟨p, rfl, .inl ⟨kvs, .inl ep⟩⟩, q⟩
theorem getF_at {p : Addr} {w z : V} {d k zd : D} {dv : DV} (c : Cont g H Fz (.ref p) d) (ck : Cont g H Fz w k) (az : At g.K g.sd H Fz z zd) (e : getF d k zd = some dv) : ∃ o, DGet H p w o ∧ ∃ r, dv = .sh r ∧ At g.K g.sd H Fz (o.getD z) r := by
  unfold getF at e
  cases d <;> first | (cases e; done) | skip
  obtain ⟨kk, hk, rfl⟩ := Option.map_eq_some_iff.mp e
  obtain ⟨a, kvs, ea, ep, l⟩ := c_dic c
  cases ea
  refine ⟨valV kvs kk, by rw [c_key ck hk]; exact DGet.k ep, _, rfl, ?_⟩
  have q := atK_get (k := kk) l
  rename_i ds
  cases hd : getD ds kk with
  | none => rw [q.2 hd]; exact az
  | some x => obtain ⟨y, hy, ay⟩ := q.1 x hd; rw [hy]; exact ay
theorem de_get1 {o e : Expr} {apos cpos : Pos} {mo mk : M Opd} {k : Nat} (hr : Room k X.A) (ho : DO X g o mo) (he : DO X g e mk) (m : M1 X o "get" apos e cpos := by exact ⟨rfl, rfl, rfl, rfl⟩) : DE X g (.Call (.Attribute o "get" apos) [e] [] cpos) (mGet1 mo mk) :=
  PE.imp (pe_dget1 (hu_of hr) ho he m) fun σ H Q ⟨ρ, S, Fz, I, hw⟩ => by
    unfold mGet1 at hw
    rw [wp_bind] at hw
    refine ⟨ρ, S, Fz, I, wp_mono hw (fun o1 ρ1 S1 h1 v1 H1 Fz1 I1 k1 a1 => ?_) fun _ _ _ z => z⟩
    rw [wp_bind] at h1
    obtain ⟨⟨p, rfl, hd⟩, h1⟩ := isDic_of I1 a1 h1
    refine ⟨p, rfl, hd, ?_⟩
    rw [wp_bind] at h1
    refine ⟨ρ1, S1, Fz1, I1, wp_mono h1 (fun o2 ρ2 S2 h2 v2 H2 Fz2 I2 k2 a2 => ?_) fun _ _ _ z => z.mono (k1.kf I)⟩
    rw [wp_bind] at h2
    obtain ⟨d, c, h2⟩ := wp_res I2 (a1.kx I1 k2) h2
    rw [wp_bind] at h2
    obtain ⟨kd, ck, h2⟩ := wp_res I2 a2 h2
    obtain ⟨dv, e, q⟩ := wp_of.mp h2
    obtain ⟨ov, hg, r, rfl, ar⟩ := getF_at (z := .non) c ck .non e
    exact ⟨ov, hg, q _ H2 Fz2 I2 (k1.trans k2) ar⟩
theorem de_get2 {o e f : Expr} {apos cpos : Pos} {mo mk mz : M Opd} {k : Nat} (hr : Room k X.A) (ho : DO X g o mo) (he : DO X g e mk) (hf : DO X g f mz) (m : M2 X o "get" apos e f cpos := by exact ⟨rfl, rfl, rfl, rfl⟩) : DE X g (.Call (.Attribute o "get" apos) [e, f] [] cpos) (mGet2 mo mk mz) :=
  PE.imp (pe_dget2 (hu_of hr) ho he hf m) fun σ H Q ⟨ρ, S, Fz, I, hw⟩ => by
    unfold mGet2 at hw
    rw [wp_bind] at hw
    refine ⟨ρ, S, Fz, I, wp_mono hw (fun o1 ρ1 S1 h1 v1 H1 Fz1 I1 k1 a1 => ?_) fun _ _ _ z => z⟩
    rw [wp_bind] at h1
    obtain ⟨⟨p, rfl, hd⟩, h1⟩ := isDic_of I1 a1 h1
    refine ⟨p, rfl, hd, ?_⟩
    rw [wp_bind] at h1
    refine ⟨ρ1, S1, Fz1, I1, wp_mono h1 (fun o2 ρ2 S2 h2 v2 H2 Fz2 I2 k2 a2 => ?_) fun _ _ _ z => z.mono (k1.kf I)⟩
    rw [wp_bind] at h2
    refine ⟨ρ2, S2, Fz2, I2, wp_mono h2 (fun o3 ρ3 S3 h3 v3 H3 Fz3 I3 k3 a3 => ?_) fun _ _ _ z => z.mono ((k1.trans k2).kf I)⟩
    rw [wp_bind] at h3
    obtain ⟨d, c, h3⟩ := wp_res I3 ((a1.kx I1 k2).kx I2 k3) h3
    rw [wp_bind] at h3
    obtain ⟨kd, ck, h3⟩ := wp_res I3 (a2.kx I2 k3) h3
    rw [wp_bind] at h3
    obtain ⟨zs, ρ4, F4, l, I4, k4, h4⟩ := wp_keep I3 (.cons a3 .nil) h3
    obtain ⟨dv, e, q⟩ := wp_of.mp h4
    cases l with
    | cons az l =>
      cases l
      have kf4 := k4.kf I3
      have c4 : Cont g H3 F4 (.ref p) d := by
        rcases c with c | ⟨b, eb, c⟩
        · exact .inl (c.kf kf4)
        · exact .inr ⟨b, eb, c.kf kf4 fun _ h => h⟩
      have ck4 : Cont g H3 F4 v2 kd := by
        rcases ck with c | ⟨b, eb, c⟩
        · exact .inl (c.kf kf4)
        · exact .inr ⟨b, eb, c.kf kf4 fun _ h => h⟩
      obtain ⟨ov, hg, r, rfl, ar⟩ := getF_at c4 ck4 az e
      exact ⟨ov, hg, q _ H3 F4 I4 ((k1.trans k2).trans (k3.trans k4)) ar⟩
end
end DL
set_option Elab.async false
set_option linter.all false
set_option maxRecDepth 100000
set_option maxHeartbeats 1000000
/-! two names at once; stores into own objects; the module's tables -/
namespace DL
open PySem PySem.Spec PyProof.Rows L2
section
variable {X : Cx} {g : G} {ρ ρ' ρ0 ρ1 ρ2 : Env} {S S1 S2 S' : Src} {σ σ' : L2.St} {H H1 H2 H' : Hp} {Fz Fz1 Fz2 Fz' : Addr → Prop} {Q : VK} {v : V}
/-! ### a, b = e, f -/
theorem VAt.kx {Hs : Hp} {r : DV} (I1 : SI g ρ1 S1 σ H1 Fz1) (k : Kx g ρ1 ρ2 σ H1 Fz1 H2 Fz2) (a : VAt g ρ1 σ Hs H1 Fz1 v r) : VAt g ρ2 σ Hs H2 Fz2 v r := by
  cases r with
  | sh d => exact At.kf (k.kf I1) a
  | ow d =>
    obtain ⟨p, e, c, nf, no, nx, hn⟩ := a
    refine ⟨p, e, c.kf (k.kf I1) (fun o h => k.keep p o h no nx), fun z => ?_, fun z => no (k.own p z), nx, hn⟩
    cases ho : H1 p with
    | none => exact c.trk ho
    | some o => exact (k.fz p o ho z).elim nf no
def mPar (i j : Nat) (m1 m2 : M DV) : M Fl := m1 >>= fun r1 => m2 >>= fun r2 => mSet i r1 >>= fun _ => mSet j r2 >>= fun _ => pure .nx
theorem par_run {i j : Nat} {m1 m2 : M DV} {D : Ends} (hij : i ≠ j) : tOfS g (mPar i j m1 m2) D σ H → tPar i j (tCons (tOf g m1) (tCons (tOf g m2) tNil)) D σ H := fun ⟨ρ, S, Fz, I, hw⟩ => by
  unfold mPar at hw
  rw [wp_bind] at hw
  refine ⟨ρ, S, Fz, I, wp_mono hw (fun r1 ρ1 S1 h1 v1 H1 Fz1 I1 k1 a1 => ?_) fun _ _ _ z => z⟩
  rw [wp_bind] at h1
  refine ⟨ρ1, S1, Fz1, I1, wp_mono h1 (fun r2 ρ2 S2 h2 v2 H2 Fz2 I2 k2 a2 => ?_) fun _ _ _ z => z.mono (k1.kf I)⟩
  refine ⟨v1, v2, rfl, ?_⟩
  have b1 := a1.kx I1 k2
  have J1 := I2.put (i := i) b1 fun p z => I.n0 z
  refine h2 _ H2 Fz2 (J1.put (i := j) (r := r2) (v := v2) (Hs := H1) ?_ fun p z => I1.n0 z) ((k1.trans k2).kf I)
  cases r2 with
  | sh d => exact a2
  | ow d =>
    obtain ⟨p, e, c, nf, no, nx, hn⟩ := a2
    refine ⟨p, e, c, nf, fun ⟨l, d', hl, hs⟩ => ?_, nx, hn⟩
    rcases get_set hl with ⟨rfl, q1, l1⟩ | ⟨ne, q1⟩
    · cases q1
      rw [set_same (by rw [← I2.len]; exact l1)] at hs
      cases hs
      obtain ⟨q, eq, c1, _⟩ := a1
      cases eq
      exact c1.trk hn
    · rw [set_diff ne] at hs
      exact no ⟨l, d', q1, hs⟩
theorem ds_par {i j : Nat} {x y : Str} {a b : Expr} {m1 m2 : M DV} {px py pt : Pos} {kt k2 pt2} (hc : X.calm = true) (hN : X.N.Nodup) (hi : X.N[i]? = some x) (hj : X.N[j]? = some y) (hij : i ≠ j)
    (hx : X.env.scope.names.lookup x = some .local) (hy : X.env.scope.names.lookup y = some .local) (ha : DE X g a m1) (hb : DE X g b m2)
    (hw : swappedStores [.Tuple [.Name x px, .Name y py] kt pt] (.Tuple [a, b] k2 pt2) X.env = pure (some [x, y]) := by rfl)
    (hs : swapsWithSole [.Tuple [.Name x px, .Name y py] kt pt] (.Tuple [a, b] k2 pt2) pos.line X.env = pure false := by rfl) (hq : starEach [a, b] X.env = (false, eval a X.env) :: starEach [b] X.env := by rfl) (hq2 : starEach [b] X.env = (false, eval b X.env) :: starEach [] X.env := by rfl) :
    DS X g (.Assign [.Tuple [.Name x px, .Name y py] kt pt] (.Tuple [a, b] k2 pt2) pos) (mPar i j m1 m2) :=
  PS.imp (ps_par hc hN hi hj hij hx hy (pa_cons ha (pa_cons hb pa_nil hq2) hq) hw hs) fun D σ H h => par_run hij h
/-! ### targets that write own objects -/
def tOfH (g : G) (t : D → M Unit) : TG := fun v σ H Q => ∃ ρ S Fz d, SI g ρ S σ H Fz ∧ At g.K g.sd H Fz v d ∧ wp (t d) ρ S (fun _ ρ' S' => ∀ σ' H' Fz', SI g ρ' S' σ' H' Fz' → KF H Fz H' Fz' → Q σ' H') (fun _ _ _ => False)
def tOfHs (g : G) (t : List D → M Unit) : TGs := fun vs σ H Q => ∃ ρ S Fz ds, SI g ρ S σ H Fz ∧ AtL g.K g.sd H Fz vs ds ∧ wp (t ds) ρ S (fun _ ρ' S' => ∀ σ' H' Fz', SI g ρ' S' σ' H' Fz' → KF H Fz H' Fz' → Q σ' H') (fun _ _ _ => False)
def DH (X : Cx) (g : G) (e : Expr) (t : D → M Unit) : Prop := PG X e (tOfH g t)
def DHs (X : Cx) (g : G) (es : List Expr) (t : List D → M Unit) : Prop := PGs X es (tOfHs g t)
theorem dh_of {e : Expr} {sl : List Nat} {t : D → M Unit} (h : DG X g e sl t) : DH X g e t := PG.imp h fun v σ H Q ⟨ρ, S, Fz, d, I, a, hw⟩ => ⟨ρ, S, Fz, d, I, a, wp_mono hw (fun _ ρ' S' q σ' I' _ => q σ' H Fz I' KF.refl) fun _ _ _ z => z⟩
theorem dhs_nil : DHs X g [] gNl := PGs.imp pgs_nil fun v σ H Q ⟨ρ, S, Fz, ds, I, a, hw⟩ => by
  cases a with
  | nil => exact ⟨rfl, hw σ H Fz I KF.refl⟩
  | cons _ _ => exact hw.elim
theorem dhs_cons {e : Expr} {es : List Expr} {t : D → M Unit} {u : List D → M Unit} (h : DH X g e t) (hs : DHs X g es u) (hq : (assignEach (e :: es) X.env).map (·.2) = assign e X.env :: (assignEach es X.env).map (·.2) := by rfl) : DHs X g (e :: es) (gCn t u) :=
  PGs.imp (pgs_cons h hs hq) fun v σ H Q ⟨ρ, S, Fz, ds, I, a, hw⟩ => by
    cases a with
    | nil => exact hw.elim
    | cons a l =>
      unfold gCn at hw
      rw [wp_bind] at hw
      refine ⟨_, _, rfl, ρ, S, Fz, _, I, a, wp_mono hw (fun _ ρ1 S1 h1 σ1 H1 Fz1 I1 k1 => ?_) fun _ _ _ z => z⟩
      exact ⟨ρ1, S1, Fz1, _, I1, l.kf k1, wp_mono h1 (fun _ ρ2 S2 h2 σ2 H2 Fz2 I2 k2 => h2 σ2 H2 Fz2 I2 (k1.trans k2)) fun _ _ _ z => z⟩
theorem dh_tup {es : List Expr} {k : Nat} {pos : Pos} {u : List D → M Unit} {n : Nat} (hK : X.K = g.K) (hc : X.calm = true) (h : DHs X g es u) (hn : (assignEach es X.env).length = n := by rfl) (hst : (assignEach es X.env).findIdx? (·.1) = none := by rfl) : DH X g (.Tuple es k pos) (gTp n u) :=
  PG.imp (pg_tup hc h hn hst) fun v σ H Q ⟨ρ, S, Fz, d, I, a, hw⟩ => by
    cases d with
    | tup ds =>
      unfold gTp at hw
      obtain ⟨b, xs, rfl, q, l⟩ := tup_of a
      by_cases e : ds.length = n
      · simp only [if_pos e] at hw
        exact ⟨b, xs, rfl, by rw [hK]; exact q, by rw [l.length]; exact e, ρ, S, Fz, ds, I, l, hw⟩
      · simp only [if_neg e] at hw
        exact hw.elim
    | _ => exact hw.elim
def rSetA : TSet := fun o i v H Q => rSetD o i v H Q ∨ rSetL o i v H Q
theorem set_any (hu : X.A.units + 1 < cLine) : PSet X rSetA := fun pins s σ H o i v ov iv u Q I ro ri rv h => h.elim (set_dict hu pins s σ H o i v ov iv u Q I ro ri rv) (set_list pins s σ H o i v ov iv u Q I ro ri rv)
/-- an own object with k's place exchanged -/
def putO (k d own : D) : Option D := match own with
  | .dic ds => if ds.length < sizeLine then (keyD k).map fun kk => .dic (putD ds kk d) else none
  | .lst ds => (match k with
    | .int i => (ixN ds.length i).map fun j => .lst (ds.set j d)
    | _ => none)
  | _ => none
def isOw : D → Bool
  | .lst _ => true
  | .dic _ => true
  | _ => false
def exO (f : D → Option D) (i : Nat) : M Unit := fun ρ S => match ρ[i]? with
  | some (some (.ow d)) => (match f d with
    | some d' => some (.ok () (ρ.set i (some (.ow d'))) S)
    | none => none)
  | _ => none
def gSb (i : Nat) (mk : M Opd) : D → M Unit := fun d => mRcv isOw i >>= fun _ => mk >>= fun o => res o >>= fun k => exO (putO k d) i
theorem wp_exO {f : D → Option D} {i : Nat} {Q : Po Unit} {E : Po D} (h : wp (exO f i) ρ S Q E) : ∃ d d', ρ[i]? = some (some (DV.ow d)) ∧ f d = some d' ∧ Q () (ρ.set i (some (.ow d'))) S := by
  unfold wp exO at h
  cases e : ρ[i]? with
  | none => rw [e] at h; exact h.elim
  | some x =>
    cases x with
    | none => rw [e] at h; exact h.elim
    | some dv =>
      cases dv with
      | sh d => rw [e] at h; exact h.elim
      | ow d =>
        rw [e] at h
        simp only at h
        cases ef : f d with
        | none => rw [ef] at h; exact h.elim
        | some d' => rw [ef] at h; exact ⟨d, d', rfl, ef, h⟩
theorem put_of {i : Nat} {d k own d' : D} {a : Addr} {w : V} (I : SI g ρ S σ H Fz) (h : ρ[i]? = some (some (DV.ow own))) (hs : σ[i]? = some (some (V.ref a))) (av : At g.K g.sd H Fz v d) (ck : Cont g H Fz w k) (e : putO k d own = some d') {Q : Hp → Prop}
    (q : ∀ H', SI g (ρ.set i (some (.ow d'))) S σ H' Fz → Kx g ρ (ρ.set i (some (.ow d'))) σ H Fz H' Fz → Q H') : rSetA (.ref a) w v H Q := by
  obtain ⟨b, eb, cb, nf, nx, n0⟩ := I.ow i own h
  rw [hs] at eb
  cases eb
  cases cb with
  | lst ea l =>
    unfold putO at e
    simp only at e
    split at e
    · obtain ⟨j, hj, rfl⟩ := Option.map_eq_some_iff.mp e
      refine .inr ⟨a, _, _, j, rfl, c_int ck, ea, by rw [l.length]; exact hj, ?_⟩
      obtain ⟨I2, k2⟩ := I.mut (o' := .lst _) h hs (fun {H'} kf e => .lst e ((l.kf kf).set j (av.kf kf)))
      exact q _ I2 k2
    · cases e
  | @dic kvs ds ea l =>
    unfold putO at e
    simp only at e
    split at e
    · rename_i hz
      obtain ⟨kk, hk, rfl⟩ := Option.map_eq_some_iff.mp e
      have hl := l.length
      refine .inl ⟨a, upd H a (.dK (putK kvs kk v)), rfl, ?_, ?_⟩
      · rw [c_key ck hk]
        exact DPut.k ea (by rw [hl]; exact hz)
      · obtain ⟨I2, k2⟩ := I.mut (o' := .dK _) h hs (fun {H'} kf e => .dic e (atK_put (k := kk) (av.kf kf) (l.kf kf)))
        exact q _ I2 k2
    · cases e
theorem rcv_at {p : D → Bool} {i : Nat} {Q : Po Unit} {E : Po D} (I : SI g ρ S σ H Fz) (h : wp (mRcv p i) ρ S Q E) : ∃ a, σ[i]? = some (some (V.ref a)) ∧ Q () ρ S := by
  obtain ⟨d, e, _, q⟩ := wp_rcv h
  obtain ⟨a, ea, _⟩ := I.ow i d e
  exact ⟨a, ea, q⟩
/-- x[e] = .., x an own dict or list -/
theorem dh_sub {x : Str} {i : Nat} {p pos : Pos} {e : Expr} {mk : M Opd} {k : Nat} (hr : Room k X.A) (ho : PE X (.Name x p) (tVar i)) (he : DO X g e mk)
    (ha : ∀ v, assign (.Subscript (.Name x p) e pos) X.env v = (do
      let ov ← holding [v] (eval (.Name x p) X.env)
      let iv ← holding [v, ov] (eval e X.env)
      standAt pos
      holding [v, ov, iv] (setItem ov iv v)
      release [v, ov, iv] []) := by intro _; rfl) : DH X g (.Subscript (.Name x p) e pos) (gSb i mk) :=
  PG.imp (pg_sub ho he (set_any (hu_of hr)) ha) fun v σ H Q ⟨ρ, S, Fz, d, I, a, hw⟩ => by
    unfold gSb at hw
    rw [wp_bind] at hw
    obtain ⟨b, eb, hw⟩ := rcv_at I hw
    refine ⟨.ref b, eb, ?_⟩
    rw [wp_bind] at hw
    refine ⟨ρ, S, Fz, I, wp_mono hw (fun o1 ρ1 S1 h1 v1 H1 Fz1 I1 k1 a1 => ?_) fun _ _ _ z => z.elim⟩
    rw [wp_bind] at h1
    obtain ⟨kd, ck, h1⟩ := wp_res I1 a1 h1
    obtain ⟨own, d', e1, e2, q⟩ := wp_exO h1
    exact put_of I1 e1 eb (a.kf (k1.kf I)) ck e2 fun H' I' k' => q σ H' Fz1 I' ((k1.kf I).trans (k'.kf I1))
/-- a target that writes own objects -/
def mAsgH (m : M DV) (t : D → M Unit) : M Fl := m >>= fun r => t r.d >>= fun _ => pure .nx
def NoXH (t : D → M Unit) : Prop := NoX t
theorem ds_asgH {tg e : Expr} {pos : Pos} {m : M DV} {t : D → M Unit} (he : DE X g e m) (hg : DH X g tg t) (ht : NoX t) (hs : swapsWithSole [tg] e pos.line X.env = pure false := by rfl) (hw : swappedStores [tg] e X.env = pure none := by rfl)
    (h1 : (assignEach [tg] X.env).map (·.2) = [assign tg X.env] := by rfl) : DS X g (.Assign [tg] e pos) (mAsgH m t) := PS.imp (ps_asg he hg hs hw h1) fun D σ H ⟨ρ, S, Fz, I, hw⟩ => by
  unfold mAsgH at hw
  rw [wp_bind] at hw
  refine ⟨ρ, S, Fz, I, wp_mono hw (fun r ρ1 S1 h1 v H1 Fz1 I1 k1 a1 => ?_) fun _ _ _ z => z⟩
  rw [wp_bind] at h1
  obtain ⟨F2, I2, k2, a2⟩ := share I1 k1 a1 (fun p z => I.n0 z)
  exact ⟨ρ1, S1, F2, r.d, I2, a2, wp_mono (ht _ _ _ _ _ h1) (fun _ ρ2 S2 h2 σ' H' Fz' I' k' => h2 σ' H' Fz' I' ((k2.kf I).trans k')) fun _ _ _ z => z⟩
/-! ### the module's tables -/
structure KTab (K : PySem.W.Frag) (w : World) (sd : Addr) (d : Addr) (tb : List (Str × D)) : Prop where
  kd : ∃ es n, KDict K w d es n
  look : ∀ z : Str, (∃ dz, tb.lookup z = some dz ∧ ∃ u0 v0, PySem.W.nsIn K d z = some (some u0) ∧ RelV v0 u0 ∧ ∀ H Fz, At K sd H Fz v0 dz) ∨ (tb.lookup z = none ∧ PySem.W.nsIn K d z = some none)
/-- an operand that is the module's own name: it is told apart -/
def inKF (neg : Bool) (tb : List (Str × D)) (x : D) : Option DV := (strO x).map fun z => .sh (.bl (if neg then !(tb.lookup z).isSome else (tb.lookup z).isSome))
def ixKF (tb : List (Str × D)) (x : D) : Option DV := (strO x).bind fun z => (tb.lookup z).map .sh
def mK1 (f : D → Option DV) (ma : M Opd) : M DV := ma >>= fun a => res a >>= fun x => M.of (f x)
theorem k1_run {f : D → Option DV} {ma : M Opd} {r : V → Hp → VK → Prop} (h : ∀ H Fz x dx dv (Q : VK), Cont g H Fz x dx → f dx = some dv → (∀ v H', New H H' → RV g H H' Fz v dv → Q v H') → r x H Q) : tOf g (mK1 f ma) σ H Q → tOfO g ma σ H (fun x H1 => r x H1 Q) := fun ⟨ρ, S, Fz, I, hw⟩ => by
  unfold mK1 at hw
  rw [wp_bind] at hw
  refine ⟨ρ, S, Fz, I, wp_mono hw (fun o1 ρ1 S1 h1 v1 H1 Fz1 I1 k1 a1 => ?_) fun _ _ _ z => z⟩
  rw [wp_bind] at h1
  obtain ⟨dx, cx, h1⟩ := wp_res I1 a1 h1
  obtain ⟨dv, e, q⟩ := wp_of.mp h1
  exact h H1 Fz1 v1 dx dv Q cx e fun v H' n rv => fin_new I1 k1 q n rv
theorem de_inK {d : Addr} {tb : List (Str × D)} {a : Expr} {x : Str} {p pos : Pos} {ma : M Opd} (hK : X.K = g.K) (T : KTab X.K X.w g.sd d tb) (hx : PE X (.Name x p) (tC (.ref d))) (ha : DO X g a ma) (hm : behindInMarks .In (.Name x p) = false := by first | exact nomark _ | rfl) : DE X g (.Compare a [.In] [.Name x p] pos) (mK1 (inKF false tb) ma) := by
  obtain ⟨es, n, D⟩ := T.kd
  refine PE.imp (pe_cmpR (op_in_kd D) ha hx hm) fun σ H Q h => k1_run (g := g) (r := fun x H Q => ∃ (z : Str) (r : Option Value), x = .str z ∧ V.ref d = .ref d ∧ PySem.W.nsIn X.K d z = some r ∧ Q (.bl r.isSome) H) (fun H Fz x dx dv Q cx e q => ?_) h
  obtain ⟨z, ez, rfl⟩ := Option.map_eq_some_iff.mp e
  rw [strO_eq ez] at cx
  obtain ⟨rfl, ok⟩ := c_str cx
  rcases T.look z with ⟨dz, hl, u0, v0, hn, r, at'⟩ | ⟨hl, hn⟩
  · refine ⟨z, _, rfl, rfl, hn, ?_⟩
    have := q (.bl true) H New.refl (by rw [hl]; exact .bl true)
    exact this
  · refine ⟨z, _, rfl, rfl, hn, ?_⟩
    have := q (.bl false) H New.refl (by rw [hl]; exact .bl false)
    exact this
theorem de_notInK {d : Addr} {tb : List (Str × D)} {a : Expr} {x : Str} {p pos : Pos} {ma : M Opd} (hK : X.K = g.K) (T : KTab X.K X.w g.sd d tb) (hx : PE X (.Name x p) (tC (.ref d))) (ha : DO X g a ma) (hm : behindInMarks .NotIn (.Name x p) = false := by first | exact nomark _ | rfl) : DE X g (.Compare a [.NotIn] [.Name x p] pos) (mK1 (inKF true tb) ma) := by
  obtain ⟨es, n, D⟩ := T.kd
  refine PE.imp (pe_cmpR (op_notIn_kd D) ha hx hm) fun σ H Q h => k1_run (g := g) (r := fun x H Q => ∃ (z : Str) (r : Option Value), x = .str z ∧ V.ref d = .ref d ∧ PySem.W.nsIn X.K d z = some r ∧ Q (.bl (!r.isSome)) H) (fun H Fz x dx dv Q cx e q => ?_) h
  obtain ⟨z, ez, rfl⟩ := Option.map_eq_some_iff.mp e
  rw [strO_eq ez] at cx
  obtain ⟨rfl, ok⟩ := c_str cx
  rcases T.look z with ⟨dz, hl, u0, v0, hn, r, at'⟩ | ⟨hl, hn⟩
  · exact ⟨z, _, rfl, rfl, hn, q (.bl false) H New.refl (by rw [hl]; exact .bl false)⟩
  · exact ⟨z, _, rfl, rfl, hn, q (.bl true) H New.refl (by rw [hl]; exact .bl true)⟩
theorem dt_of {e : Expr} {f : D → Option DV} {ma : M Opd} (h : DE X g e (mK1 f ma)) (he : ∀ whole, isTrue e X.env whole = (do let v ← whole; standAt e.pos; holding [v] (truthy v)) := by intro _; rfl) (hK : X.K = g.K) : DT X g e (mTru (mK1 f ma >>= fun r => pure (.val r.d))) := by
  refine dt_val hK ?_ he
  refine PE.imp h fun σ H Q ⟨ρ, S, Fz, I, hw⟩ => ?_
  rw [wp_bind] at hw
  refine ⟨ρ, S, Fz, I, wp_mono hw (fun r ρ1 S1 h1 v1 H1 Fz1 I1 k1 a1 => ?_) fun _ _ _ z => z⟩
  obtain ⟨F2, I2, k2, a2⟩ := share I1 k1 a1 (fun p z => I.n0 z)
  exact h1 v1 H1 F2 I2 k2 a2
theorem ix_kd {d : Addr} {es : Array DictEntry} {n : Nat} (D : KDict X.K X.w d es n) : IxR X (fun x y H Q => ∃ (z : Str) (u0 : Value) (v0 : V), x = .ref d ∧ y = .str z ∧ PySem.W.nsIn X.K d z = some (some u0) ∧ RelV v0 u0 ∧ Q v0 H) := by
  intro value slice pins s σ H x y v u Q I rx ry h hs
  obtain ⟨z, u0, v0, rfl, rfl, e, r, q⟩ := h
  cases rx
  exact tail_any (kd_type D I) PySem.F.slot_dict_getitem.lookup (op_item_kd D pins s σ H (.ref d) (.str z) (.ref d) u Q I rfl ry ⟨z, u0, v0, rfl, rfl, e, r, q⟩) hs
theorem de_ixK {d : Addr} {tb : List (Str × D)} {b : Expr} {x : Str} {p pos : Pos} {mb : M Opd} (hK : X.K = g.K) (T : KTab X.K X.w g.sd d tb) (hx : PE X (.Name x p) (tC (.ref d))) (hb : DO X g b mb) (hs : PlainIx b := by intro _ _; rfl) : DE X g (.Subscript (.Name x p) b pos) (mK1 (ixKF tb) mb) := by
  obtain ⟨es, n, D⟩ := T.kd
  refine PE.imp (pe_ix (ix_kd D) hx hb hs) fun σ H Q h => k1_run (g := g) (r := fun y H Q => ∃ (z : Str) (u0 : Value) (v0 : V), V.ref d = .ref d ∧ y = .str z ∧ PySem.W.nsIn X.K d z = some (some u0) ∧ RelV v0 u0 ∧ Q v0 H) (fun H Fz x dx dv Q cx e q => ?_) h
  obtain ⟨z, ez, e⟩ := Option.bind_eq_some_iff.mp e
  obtain ⟨dz, hz, rfl⟩ := Option.map_eq_some_iff.mp e
  rw [strO_eq ez] at cx
  obtain ⟨rfl, ok⟩ := c_str cx
  rcases T.look z with ⟨d2, hl, u0, v0, hn, r, at'⟩ | ⟨hl, hn⟩
  · rw [hl] at hz
    cases hz
    exact ⟨z, u0, v0, rfl, rfl, hn, r, q v0 H New.refl (by rw [hK] at at'; exact at' H Fz)⟩
  · rw [hl] at hz; cases hz
/-- NAME.get(e, f) -/
theorem pe_kget2 {d : Addr} {es : Array DictEntry} {n : Nat} (D : KDict X.K X.w d es n) {o e f : Expr} {apos cpos : Pos} {ty tx : TE} (ho : PE X o (tC (.ref d))) (he : PE X e ty) (hf : PE X f tx) (m : M2 X o "get" apos e f cpos) :
    PE X (.Call (.Attribute o "get" apos) [e, f] [] cpos) (fun σ H Q => ty σ H fun y H2 => tx σ H2 fun zv H3 => ∃ (z : Str) (r : Option Value) (v0 : V), y = .str z ∧ PySem.W.nsIn X.K d z = some r ∧ ((∃ u0, r = some u0 ∧ RelV v0 u0) ∨ (r = none ∧ v0 = zv)) ∧ Q v0 H3) := by
  refine ⟨fun pins s σ H Q I h => ?_⟩
  refine wpAny_Call_method m.base m.few m.line PySem.F.plainAttrs_dict PySem.F.slot_dict_get PySem.F.type_dict_get (thn (ho.run pins s σ H (fun x H1 => x = .ref d ∧ ty σ H1 fun y H2 => tx σ H2 fun zv H3 => ∃ (z : Str) (r : Option Value) (v0 : V), y = .str z ∧ PySem.W.nsIn X.K d z = some r ∧ ((∃ u0, r = some u0 ∧ RelV v0 u0) ∨ (r = none ∧ v0 = zv)) ∧ Q v0 H3) I ⟨rfl, h⟩) fun u s1 ⟨x, H1, I1, rx, ex, q1⟩ => ?_)
  subst ex
  obtain rfl : u = Value.ref d := rx
  have hob : s1.heap.get? d = some ⟨.type "dict", none, .dict es n, #[]⟩ := I1.kIn _ _ D.at_
  refine ⟨⟨_, hob, rfl⟩, fun b q => by cases q; exact ⟨_, hob, rfl⟩, ?_⟩
  rw [m.trees]
  refine Calls.callWith_builtin rfl (Calls.evalArgs_plain (Calls.spliced_cons (thn (he.run pins s1 σ H1 _ I1 q1) fun iv s2 ⟨y, H2, I2, ry, q2⟩ =>
    Calls.spliced_cons (thn (hf.run pins s2 σ H2 _ I2 q2) fun fv s3 ⟨z, H3, I3, rz, t, r, v0, ey, hn, hv, q3⟩ => Calls.spliced_nil ?_))))
  subst ey
  obtain ⟨tk, rfl⟩ := ry
  have mp := PySem.W.mapOf_K (prog := X.prog) (w := X.w) I3.kIn D.at_ D.lit
  refine call_meetsIn PySem.F.slot_dict_get mp.typeIs PySem.F.entry_dict_get (PySem.F.args_dict_get_3 _ _ _) (meets_dict_get_default (strKind X.prog X.w) d (PySem.strKind_is X.prog X.w t tk) D.low fv) ⟨_, mp, ?_⟩
  refine ⟨v0, H3, I3.tok _, ?_, q3⟩
  rw [PySem.W.find_K D.at_ hn]
  rcases hv with ⟨u0, rfl, hv⟩ | ⟨rfl, rfl⟩
  · exact hv
  · exact rz
def getKF (tb : List (Str × D)) (x z : D) : Option DV := (strO x).map fun s => .sh ((tb.lookup s).getD z)
def mKG (tb : List (Str × D)) (mk mz : M Opd) : M DV := mk >>= fun k => mz >>= fun z => res k >>= fun kd => keepM [z] >>= fun zs => M.of (match zs with | [zd] => getKF tb kd zd | _ => none)
theorem de_getK {d : Addr} {tb : List (Str × D)} {e f : Expr} {x : Str} {p apos cpos : Pos} {mk mz : M Opd} (hK : X.K = g.K) (T : KTab X.K X.w g.sd d tb) (hx : PE X (.Name x p) (tC (.ref d))) (he : DO X g e mk) (hf : DO X g f mz) (m : M2 X (.Name x p) "get" apos e f cpos := by exact ⟨rfl, rfl, rfl, rfl⟩) :
    DE X g (.Call (.Attribute (.Name x p) "get" apos) [e, f] [] cpos) (mKG tb mk mz) := by
  obtain ⟨es, n, D⟩ := T.kd
  refine PE.imp (pe_kget2 D hx he hf m) fun σ H Q ⟨ρ, S, Fz, I, hw⟩ => ?_
  unfold mKG at hw
  rw [wp_bind] at hw
  refine ⟨ρ, S, Fz, I, wp_mono hw (fun o2 ρ2 S2 h2 v2 H2 Fz2 I2 k2 a2 => ?_) fun _ _ _ z => z⟩
  rw [wp_bind] at h2
  refine ⟨ρ2, S2, Fz2, I2, wp_mono h2 (fun o3 ρ3 S3 h3 v3 H3 Fz3 I3 k3 a3 => ?_) fun _ _ _ z => z.mono (k2.kf I)⟩
  rw [wp_bind] at h3
  obtain ⟨kd, ck, h3⟩ := wp_res I3 (a2.kx I2 k3) h3
  rw [wp_bind] at h3
  obtain ⟨zs, ρ4, F4, l, I4, k4, h4⟩ := wp_keep I3 (.cons a3 .nil) h3
  obtain ⟨dv, e, q⟩ := wp_of.mp h4
  cases l with
  | cons az l =>
    cases l
    obtain ⟨t, ez, rfl⟩ := Option.map_eq_some_iff.mp e
    rw [strO_eq ez] at ck
    obtain ⟨rfl, ok⟩ := c_str ck
    rcases T.look t with ⟨d2, hl, u0, v0, hn, r, at'⟩ | ⟨hl, hn⟩
    · refine ⟨t, _, v0, rfl, hn, .inl ⟨u0, rfl, r⟩, q v0 H3 F4 I4 (k2.trans (k3.trans k4)) ?_⟩
      rw [hl]; rw [hK] at at'; exact at' H3 F4
    · refine ⟨t, _, v3, rfl, hn, .inr ⟨rfl, rfl⟩, q v3 H3 F4 I4 (k2.trans (k3.trans k4)) ?_⟩
      rw [hl]; exact az
end
end DL
set_option Elab.async false
set_option linter.all false
set_option maxRecDepth 100000
set_option maxHeartbeats 1000000
/-! a def of the module, by its body over data -/
namespace DL
open PySem PySem.Spec PyProof.Rows L2
/-- a def whose code object is known -/
structure FunC (K : PySem.W.Frag) (x qual : Str) (st : Stmt) (f : Addr) (fd : FuncData) (c : Addr) : Prop where
  ex : ∃ (oc : Value) (od : Option Addr) (kV doc pm : Value) (an : Option Addr) (ct : Value) (osl : Array (Option Value)),
    fd = PySem.W.fnOf x qual (defArgs st) (defBody st) (defScope st) .none kV doc pm an (.ref c) ct ∧ K.lookup f = some ⟨oc, od, .func fd, osl⟩ ∧ PySem.W.codeIn K (.ref c) qual = true
/-- where a def stands -/
structure DefA (K : PySem.W.Frag) (mg : Str → Option Value) (x : Str) (ps : List Str) (st : Stmt) : Prop where
  ex : ∃ f fd, Fun K x x st f fd ∧ mg x = some (.ref f) ∧ Binds K fd ps []
/-- .. and the table of its code object -/
structure DefC (K : PySem.W.Frag) (mg : Str → Option Value) (base : Heap) (x : Str) (ps : List Str) (st : Stmt) (P : Addr) : Prop where
  ex : ∃ f fd c, FunC K x x st f fd c ∧ PySem.W.keepIn K (.ref f) = true ∧ mg x = some (.ref f) ∧ Binds K fd ps [] ∧ GxR.TabB base mg c P
section
variable {P : Program} {w : World} {K : PySem.W.Frag} {mg : Str → Option Value} {base : Heap}
abbrev cxA (P : Program) (w : World) (K : PySem.W.Frag) (mg : Str → Option Value) (base : Heap) (N : List Str) (x : Str) (st : Stmt) (f : Addr) (cdv : Value) (A : Around) (outer : List PySem.Env) (s : Shared) (H : Hp) (E : XK) : Cx := (cxOf CX0 P w K mg base N x (defScope st) f cdv A outer s H E).nox
theorem fna_of {x : Str} {st : Stmt} {N ps : List Str} {k : Nat} {T : List Addr} {m : M Fl} (n : Nat) (hn : N.length = n) (D : DefA K mg x ps st) (Sc : FnScope N ps (defScope st))
    (body : ∀ (f : Addr) (cdv : Value) (A : Around) (outer : List PySem.Env) (s : Shared) (H : Hp) (E : XK) (g : G), g.K = K → g.T = T → g.rz = false → A.guards = some [] → Room k (cxA P w K mg base N x st f cdv A outer s H E).A → DSs (cxA P w K mg base N x st f cdv A outer s H E) g (defBody st) m) :
    FnA P w K mg base T (k + 1) x ps (mkF n m) := by
  subst hn
  obtain ⟨f, fd, F, hm, hb⟩ := D.ex
  exact ⟨f, fd, fn_ok F Sc rfl rfl fun cdv A outer s H E g hK hT hz ga hr => body f cdv A outer s H E g hK hT hz ga hr, hm, F.kp, hb⟩
theorem FunC.okG {CX : CXT} {x qual : Str} {st : Stmt} {f c : Addr} {fd : FuncData} {N ps : List Str} {k : Nat} {sp : Sp} (F : FunC K x qual st f fd c) (Z : FnScope N ps (defScope st)) (len : ∀ vs H Q E, sp vs H Q E → vs.length = ps.length)
    (hb : ∀ (A : Around) (fr : List PySem.Env) (z : Shared) (H : Hp) (vs : List V) (Q : VK) (E : XK), A.guards = some [] → Room k (A.deeper (envOfC qual (defScope st) z.heap.objs.size f (.ref c))) → sp vs H Q E →
      ∃ t, PSs (cxOf CX P w K mg base N qual (defScope st) f (.ref c) A fr z H E) (defBody st) t ∧ t { nx := fun _ H' => Q .non H', rt := Q } (L2.start N vs) H) : FnG P w K mg base CX (k + 1) f fd ps sp := by
  obtain ⟨oc, od, kV, doc, pm, an, ct, osl, rfl, lk, hc⟩ := F.ex
  exact fn_ofG lk hc Z len fun A fr z H vs Q E ga ra hs => hb A fr z H vs Q E ga ra hs
theorem fn_okC {x qual : Str} {st : Stmt} {f c : Addr} {fd : FuncData} {N ps : List Str} {k n : Nat} {T : List Addr} {m : M Fl}
    (F : FunC K x qual st f fd c) (Sc : FnScope N ps (defScope st)) (hn : ps.length = n) (hN : N.length = nN)
    (body : ∀ (A : Around) (outer : List PySem.Env) (s : Shared) (H : Hp) (E : XK) (g : G), g.K = K → g.T = T → g.rz = false → A.guards = some [] → Room k (A.deeper (envOfC qual (defScope st) s.heap.objs.size f (.ref c))) →
      DSs (cxOf CX0 P w K mg base N qual (defScope st) f (.ref c) A outer s H E).nox g (defBody st) m) :
    FnG P w K mg base CX0 (k + 1) f fd ps (spF K T n (mkF nN m)) := by
  subst hN
  refine F.okG Sc (fun vs H Q E h => h.1.trans hn.symm) fun A outer s H vs Q E ga hr h => ?_
  obtain ⟨hl, ds, S, Fz, sd, cl, pre, r, S', hF, q⟩ := h
  have lds : vs.length = ds.length := pre.args.length
  refine ⟨_, (body A outer s H E ⟨K, sd, cl, T, H, Fz, fun _ _ _ => False, false⟩ rfl rfl rfl ga hr).nox, ?_⟩
  refine ⟨ds.map (fun d => some (.sh d)) ++ List.replicate (N.length - ds.length) none, S, Fz, ?_, ?_⟩
  · refine ⟨?_, fun i d h => ?_, fun i d h => (atL_ow h).elim, fun i j d e a h => (atL_ow h).elim, pre.src, pre.fzx, pre.fzt, fun a o h _ => h, fun a h => h, fun a o _ h => h, pre.tab⟩
    · show _ = (L2.start N vs).length
      unfold L2.start
      rw [List.length_append, List.length_append, List.length_map, List.length_map, List.length_replicate, List.length_replicate, lds]
    · unfold L2.start
      rw [lds]
      exact atL_sh (g := ⟨K, sd, cl, T, H, Fz, fun _ _ _ => False, false⟩) pre.args h
  · unfold mkF at hF
    unfold wp
    have fin : ∀ {ρ' : Env} {S' : Src} {σ' : L2.St} {H' : Hp} {Fz' : Addr → Prop}, SI ⟨K, sd, cl, T, H, Fz, fun _ _ _ => False, false⟩ ρ' S' σ' H' Fz' → KF H Fz H' Fz' → FPost K sd cl T H Fz S' H' Fz' := fun I k =>
      ⟨fun a o h e => I.ext a o h e, k.new, k.sub, fun a o h f => I.fzn a o h f, I.src, I.fzx, I.fzt, I.tab⟩
    cases hm : m (ds.map (fun d => some (.sh d)) ++ List.replicate (N.length - ds.length) none) S with
    | none => rw [hm] at hF; cases hF
    | some o =>
      rw [hm] at hF
      cases o with
      | ex e ρ1 S1 => cases hF
      | ok a ρ1 S1 =>
        cases a with
        | nx =>
          cases hF
          exact fun σ' H' Fz' I k => q .non H' Fz' (fin I k) .non
        | bk => cases hF
        | ct => cases hF
        | ret r1 =>
          cases hF
          refine fun v σ' H' Fz' I k a => q v H' Fz' (fin I k) ?_
          cases r with
          | sh d => exact a
          | ow d =>
            obtain ⟨p, e, c, nf, no, nx, hn⟩ := a
            exact ⟨p, e, c, nf, nx, hn⟩
theorem fna_ofC {x : Str} {st : Stmt} {N ps : List Str} {k : Nat} {T : List Addr} {m : M Fl} {Pt : Addr} (n : Nat) (hn : N.length = n) (D : DefC K mg base x ps st Pt) (Sc : FnScope N ps (defScope st))
    (body : ∀ (f c : Addr) (A : Around) (outer : List PySem.Env) (s : Shared) (H : Hp) (E : XK) (g : G), GxR.TabB base mg c Pt → g.K = K → g.T = T → g.rz = false → A.guards = some [] → Room k (cxA P w K mg base N x st f (.ref c) A outer s H E).A → DSs (cxA P w K mg base N x st f (.ref c) A outer s H E) g (defBody st) m) :
    FnA P w K mg base T (k + 1) x ps (mkF n m) := by
  subst hn
  obtain ⟨f, fd, c, F, kp, hm, hb, tb⟩ := D.ex
  exact ⟨f, fd, fn_okC F Sc rfl rfl fun A outer s H E g hK hT hz ga hr => body f c A outer s H E g tb hK hT hz ga hr, hm, kp, hb⟩
/-- a def that is never called so far down -/
theorem fna_no {x : Str} {ps : List Str} {st : Stmt} {k : Nat} {T : List Addr} (D : DefA K mg x ps st) : FnA P w K mg base T k x ps (fun _ _ => none) := by
  obtain ⟨f, fd, F, hm, hb⟩ := D.ex
  exact ⟨f, fd, ⟨fun vs H Q E h => (by obtain ⟨_, _, _, _, _, _, _, _, _, z, _⟩ := h; cases z), fun A ga hr fr z H as us vs Q E e bi rv h => (by obtain ⟨_, _, _, _, _, _, _, _, _, z, _⟩ := h; cases z)⟩, hm, F.kp, hb⟩
end
section
variable {X : Cx} {g : G} {ρ ρ' ρ0 ρ1 ρ2 : Env} {S S1 S2 S' : Src} {σ σ' : L2.St} {H H1 H2 H' : Hp} {Fz Fz1 Fz2 Fz' : Addr → Prop} {Q : VK} {v : V}
theorem de_callT {k j : Nat} {T : List Addr} {ps : List Str} {F : Fn} {x : Str} {p pos : Pos} {e : Expr} {es : List Expr} {ma : M (List Opd)} (hK : X.K = g.K) (hT : g.T = T)
    (A : FnA X.prog X.w X.K X.mg X.base T j x ps F) (ga : X.A.guards = some []) (hr : Room k X.A) (hjk : j ≤ k) (hg : Gl X x)
    (ha : DA X g (e :: es) ma) (hos : ALen ma ps.length) (hz : g.rz = false)
    (hdb : (x == ("__debug__" : Str)) = false := by decide) (he : starEach (e :: es) X.env = (false, eval e X.env) :: starEach es X.env := by rfl) (hpl : (backTo pos (starEach es X.env)).any (·.1) = false := by rfl) :
    DE X g (.Call (.Name x p) (e :: es) [] pos) (mCall F ma) := by
  subst hT
  exact de_call hK (A.mono hjk) ga hr hg ha hos hz hdb he hpl
theorem hu64 {k : Nat} (hr : Room k X.A) : X.A.units + 64 < cLine := by have := hr.un; omega
theorem hu80 {k : Nat} (hr : Room k X.A) : X.A.units + 80 < cLine := by have := hr.un; omega
theorem hu1 {k : Nat} (hr : Room k X.A) : X.A.units + 1 < cLine := by have := hr.un; omega
/-- floor division by any number above 0 -/
def fdwD : D → D → Option DV := intOp fun i j => if 0 < j ∧ j.natAbs.log2 < 9000 then some (.int (i / j)) else none
theorem o2_fdw : Op2 X g (rI CDivW fun i j => .int (i / j)) fdwD := o2_int fun i j d h => by
  split at h
  · rename_i c
    cases h
    exact ⟨c, fun _ _ => .int _⟩
  · cases h
/-- - x -/
def negD : D → Option DV
  | .int i => some (.sh (.int (-i)))
  | _ => none
/-- t.index(x) of texts -/
def ixOf : List Str → Str → Nat → Option Nat
  | [], _, _ => none
  | s :: r, z, n => if s = z then some n else ixOf r z (n + 1)
theorem ixOf_ok : ∀ {ys : List Str} {z : Str} {n j : Nat}, ixOf ys z n = some j → n ≤ j ∧ ys[j - n]? = some z ∧ ∀ m, m < j - n → ys[m]? ≠ some z
  | s :: r, z, n, j, h => by
    unfold ixOf at h
    split at h
    · rename_i e
      cases h
      refine ⟨Nat.le_refl _, by rw [Nat.sub_self]; exact congrArg some e, fun m hm => by omega⟩
    · rename_i e
      obtain ⟨h1, h2, h3⟩ := ixOf_ok h
      have e2 : j - n = (j - (n + 1)) + 1 := by omega
      refine ⟨by omega, by rw [e2]; exact h2, fun m hm => ?_⟩
      cases m with
      | zero => exact fun z => e (Option.some.inj z)
      | succ m => exact h3 m (by omega)
def indexF (d : D) (k : D) : Option DV := match d with
  | .tup ds => (strO k).bind fun z => (strsD ds).bind fun ys => (ixOf ys z 0).map fun (j : Nat) => DV.sh (.int (j : Int))
  | _ => none
end
/-! ### constants of the module -/
mutual
inductive CAt (K : PySem.W.Frag) : V → D → Prop
  | non : CAt K .non .non
  | bl (b : Bool) : CAt K (.bl b) (.bl b)
  | int (i : Int) : CAt K (.int i) (.int i)
  | str (s : Str) (h : SOk s) : CAt K (.str s) (.str s)
  | tup {a : Addr} {o : Obj} {its : Array Value} {n : Nat} {xs : List V} {ds : List D} : K.lookup a = some o → o.cls = .type "tuple" → o.dict = none → o.data = .seq its n → its.size ≤ sizeLine → Vals xs its.toList → CAtL K xs ds → CAt K (.ref a) (.tup ds)
inductive CAtL (K : PySem.W.Frag) : List V → List D → Prop
  | nil : CAtL K [] []
  | cons {v : V} {vs : List V} {d : D} {ds : List D} : CAt K v d → CAtL K vs ds → CAtL K (v :: vs) (d :: ds)
end
section
variable {K : PySem.W.Frag} {sd : Addr} {H : Hp} {Fz : Addr → Prop}
mutual
theorem CAt.at' : ∀ {v : V} {d : D}, CAt K v d → At K sd H Fz v d
  | _, _, .non => .non
  | _, _, .bl b => .bl b
  | _, _, .int b => .int b
  | _, _, .str b h => .str b h
  | _, _, .tup (o := o) (its := its) (n := n) a b c d e f l => .tupK (fun H' => .inr ⟨o, its, n, a, b, d, e, f⟩) (CAtL.at' l)
theorem CAtL.at' : ∀ {v : List V} {d : List D}, CAtL K v d → AtL K sd H Fz v d
  | _, _, .nil => .nil
  | _, _, .cons a l => .cons (CAt.at' a) (CAtL.at' l)
end
end
mutual
/-- a constant looked at -/
def cstB (K : PySem.W.Frag) : D → Value → Bool
  | .non, .none => true
  | .bl b, .bool c => b == c
  | .int i, .int j _ => decide (i = j)
  | .str s, .str z _ => decide (s = z) && decide (SOk s)
  | .tup ds, .ref a => match K.lookup a with
    | some ⟨.type c, none, .seq its _, _⟩ => decide (c = "tuple") && decide (its.size ≤ sizeLine) && cstsB K ds its.toList
    | _ => false
  | _, _ => false
def cstsB (K : PySem.W.Frag) : List D → List Value → Bool
  | [], [] => true
  | d :: ds, u :: us => cstB K d u && cstsB K ds us
  | _, _ => false
end
mutual
theorem cstB_ok {K : PySem.W.Frag} : ∀ {d : D} {u : Value}, cstB K d u = true → ∃ v, RelV v u ∧ CAt K v d
  | .non, u, h => by
    cases u <;> first | (unfold cstB at h; cases h; done) | skip
    exact ⟨.non, rfl, .non⟩
  | .bl b, u, h => by
    cases u <;> first | (unfold cstB at h; cases h; done) | skip
    rename_i c
    unfold cstB at h
    have e : b = c := eq_of_beq h
    exact ⟨.bl b, by rw [e]; rfl, .bl b⟩
  | .int i, u, h => by
    cases u <;> first | (unfold cstB at h; cases h; done) | skip
    rename_i c t
    unfold cstB at h
    have e : i = c := of_decide_eq_true h
    exact ⟨.int i, ⟨t, by rw [e]⟩, .int i⟩
  | .str s, u, h => by
    cases u <;> first | (unfold cstB at h; cases h; done) | skip
    rename_i c t
    unfold cstB at h
    rw [Bool.and_eq_true] at h
    have e : s = c := of_decide_eq_true h.1
    exact ⟨.str s, ⟨t, by rw [e]⟩, .str s (of_decide_eq_true h.2)⟩
  | .tup ds, u, h => by
    cases u <;> first | (unfold cstB at h; cases h; done) | skip
    rename_i a
    unfold cstB at h
    cases q : K.lookup a with
    | none => rw [q] at h; cases h
    | some o =>
      obtain ⟨oc, od, dt, osl⟩ := o
      rw [q] at h
      cases oc <;> first | (cases od <;> cases dt <;> cases h; done) | skip
      rename_i c
      cases od <;> first | (cases dt <;> cases h; done) | skip
      cases dt <;> first | (cases h; done) | skip
      rename_i its n
      simp only [Bool.and_eq_true, decide_eq_true_eq] at h
      obtain ⟨⟨h1, h2⟩, h3⟩ := h
      obtain ⟨xs, rv, l⟩ := cstsB_ok h3
      exact ⟨.ref a, rfl, .tup q (by rw [h1]) rfl rfl h2 rv l⟩
  | .lst _, u, h => by cases u <;> (unfold cstB at h; cases h)
  | .dic _, u, h => by cases u <;> (unfold cstB at h; cases h)
  | .src, u, h => by cases u <;> (unfold cstB at h; cases h)
theorem cstsB_ok {K : PySem.W.Frag} : ∀ {ds : List D} {us : List Value}, cstsB K ds us = true → ∃ vs, Vals vs us ∧ CAtL K vs ds
  | [], [], _ => ⟨[], .nil, .nil⟩
  | [], _ :: _, h => by unfold cstsB at h; cases h
  | _ :: _, [], h => by unfold cstsB at h; cases h
  | d :: ds, u :: us, h => by
    unfold cstsB at h
    rw [Bool.and_eq_true] at h
    obtain ⟨v, r, c⟩ := cstB_ok h.1
    obtain ⟨vs, rs, l⟩ := cstsB_ok h.2
    exact ⟨v :: vs, .cons r rs, .cons c l⟩
end
/-- a table of the module: by its entries -/
structure KTb (K : PySem.W.Frag) (w : World) (d : Addr) (tb : List (Str × D)) : Prop where
  kd : ∃ es n, KDict K w d es n
  look : ∀ z : Str, (∃ dz, tb.lookup z = some dz ∧ ∃ u0 v0, PySem.W.nsIn K d z = some (some u0) ∧ RelV v0 u0 ∧ CAt K v0 dz) ∨ (tb.lookup z = none ∧ PySem.W.nsIn K d z = some none)
theorem KTb.tab {K : PySem.W.Frag} {w : World} {d : Addr} {tb : List (Str × D)} (T : KTb K w d tb) (sd : Addr) : KTab K w sd d tb :=
  ⟨T.kd, fun z => (T.look z).imp (fun ⟨dz, a, u0, v0, b, c, e⟩ => ⟨dz, a, u0, v0, b, c, fun _ _ => e.at'⟩) id⟩
/-- looked at -/
def entB (K : PySem.W.Frag) : List (Str × D) → List DictEntry → Bool
  | [], [] => true
  | (k, d) :: r, e :: es => (match e.key with
      | .str x _ => decide (x = k)
      | _ => false) && cstB K d e.val && entB K r es
  | _, _ => false
def ktbB (K : PySem.W.Frag) (x : Str) (tb : List (Str × D)) : Bool := match PySem.W.nsIn K mainGlobals x with
  | some (some (.ref a)) => (match K.lookup a with
    | some ⟨_, _, .dict es _, _⟩ => entB K tb es.toList
    | _ => false)
  | _ => false
theorem entB_look {K : PySem.W.Frag} {z : Str} : ∀ {tb : List (Str × D)} {es : List DictEntry}, entB K tb es = true → (es.any (·.refKey)) = false ∧ ((∃ dz, tb.lookup z = some dz ∧ ∃ e, es.find? (·.key.isStr z) = some e ∧ cstB K dz e.val = true) ∨ (tb.lookup z = none ∧ es.find? (·.key.isStr z) = none))
  | [], [], _ => ⟨rfl, .inr ⟨rfl, rfl⟩⟩
  | [], _ :: _, h => by unfold entB at h; cases h
  | _ :: _, [], h => by unfold entB at h; cases h
  | (k, d) :: r, e :: es, h => by
    unfold entB at h
    simp only [Bool.and_eq_true] at h
    obtain ⟨⟨h1, h2⟩, h3⟩ := h
    obtain ⟨q1, q2⟩ := entB_look (z := z) h3
    split at h1
    · rename_i x t hk
      have e1 : x = k := of_decide_eq_true h1
      refine ⟨?_, ?_⟩
      · rw [List.any_cons, q1, Bool.or_false]
        unfold DictEntry.refKey
        rw [hk]
      · subst e1
        by_cases hz : z = x
        · subst hz
          refine .inl ⟨d, by rw [List.lookup_cons]; simp, e, ?_, h2⟩
          rw [List.find?_cons, hk]
          show (match (z == z) with | true => some e | false => _) = some e
          simp
        · have hb : (z == x) = false := by simpa using hz
          have hb2 : (x == z) = false := by simpa using Ne.symm hz
          rcases q2 with ⟨dz, a, e', b, c⟩ | ⟨a, b⟩
          · refine .inl ⟨dz, by rw [List.lookup_cons, hb]; exact a, e', ?_, c⟩
            rw [List.find?_cons, hk]
            show (match (x == z) with | true => some e | false => _) = some e'
            rw [hb2]; exact b
          · refine .inr ⟨by rw [List.lookup_cons, hb]; exact a, ?_⟩
            rw [List.find?_cons, hk]
            show (match (x == z) with | true => some e | false => _) = none
            rw [hb2]; exact b
    · cases h1
theorem ktb_ok {K : PySem.W.Frag} {w : World} {x : Str} {tb : List (Str × D)} {mg : Str → Option Value} {h : Heap} {a : Addr} (he : PySem.W.nsIn K mainGlobals x = some (some (.ref a))) (hb : ktbB K x tb = true) (hk : ∃ es n, KDict K w a es n) : KTb K w a tb := by
  refine ⟨hk, fun z => ?_⟩
  obtain ⟨es, n, D⟩ := hk
  unfold ktbB at hb
  rw [he] at hb
  simp only [D.at_] at hb
  obtain ⟨q1, q2⟩ := entB_look (z := z) hb
  have hn : PySem.W.nsIn K a z = (match es.toList.find? (·.key.isStr z) with
      | some e => some (some e.val)
      | none => if es.toList.any (·.refKey) then none else some none) := by
    unfold PySem.W.nsIn
    rw [D.at_]
    rfl
  rcases q2 with ⟨dz, l, e, f, c⟩ | ⟨l, f⟩
  · obtain ⟨v, r, ca⟩ := cstB_ok c
    exact .inl ⟨dz, l, e.val, v, by rw [hn, f], r, ca⟩
  · exact .inr ⟨l, by rw [hn, f]; simp only [q1]; rfl⟩
section
variable {X : Cx} {g : G} {ρ ρ' ρ0 ρ1 ρ2 : Env} {S S1 S2 S' : Src} {σ σ' : L2.St} {H H1 H2 H' : Hp} {Fz Fz1 Fz2 Fz' : Addr → Prop} {Q : VK} {v : V}
def tupO : D → Option (List D)
  | .tup ds => some ds
  | _ => none
def indexL (ds : List D) (k : D) : Option DV := (strO k).bind fun z => (strsD ds).bind fun ys => (ixOf ys z 0).map fun (j : Nat) => DV.sh (.int (j : Int))
def mKIx (tb : List (Str × D)) (mb mk : M Opd) : M DV := mb >>= fun o => res o >>= fun k => M.of ((ixKF tb k).bind fun r => tupO r.d) >>= fun ds => mk >>= fun z => res z >>= fun zd => M.of (indexL ds zd)
theorem de_kIndex {d : Addr} {tb : List (Str × D)} {b e : Expr} {x : Str} {p pos apos cpos : Pos} {mb mk : M Opd} (hK : X.K = g.K) (T : KTb X.K X.w d tb) (hx : PE X (.Name x p) (tC (.ref d))) (hb : DO X g b mb) (he : DO X g e mk) (hs : PlainIx b := by intro _ _; rfl)
    (hs0 : starEach [e] X.env = (false, eval e X.env) :: starEach [] X.env := by rfl) (hbase : attributeBase (.Subscript (.Name x p) b pos) "index" X.env (eval (.Subscript (.Name x p) b pos) X.env) = eval (.Subscript (.Name x p) b pos) X.env := by rfl)
    (hfew : ((backTo cpos (starEach [e] X.env)).all (fun x => !x.1) && (backToKw cpos (keywordEach [] X.env)).all (fun x => x.1.isSome) && decide (([e] : List Expr).length + ([] : List Keyword).length + (if ([] : List Keyword).isEmpty then 0 else 1) < 30)) = true := by rfl)
    (hline : (apos.endLine == cpos.line) = true := by rfl) (hplain : (backTo cpos (starEach [] X.env)).any (·.1) = false := by rfl) : DE X g (.Call (.Attribute (.Subscript (.Name x p) b pos) "index" apos) [e] [] cpos) (mKIx tb mb mk) := by
  obtain ⟨es, n, D⟩ := T.kd
  refine PE.imp (pe_bm PySem.F.plainAttrs_tuple PySem.F.slot_tuple_index PySem.F.type_tuple_index mt_tup_index (pe_ix (ix_kd D) hx hb hs) (pa_cons he pa_nil hs0) hbase hfew hline hs0 hplain) fun σ H Q ⟨ρ, S, Fz, I, hw⟩ => ?_
  unfold mKIx at hw
  rw [wp_bind] at hw
  refine ⟨ρ, S, Fz, I, wp_mono hw (fun o1 ρ1 S1 h1 v1 H1 Fz1 I1 k1 a1 => ?_) fun _ _ _ z => z⟩
  rw [wp_bind] at h1
  obtain ⟨kd, ck, h1⟩ := wp_res I1 a1 h1
  rw [wp_bind] at h1
  obtain ⟨ds, e1, h1⟩ := wp_of.mp h1
  obtain ⟨r, e1, et⟩ := Option.bind_eq_some_iff.mp e1
  obtain ⟨z, ez, e1⟩ := Option.bind_eq_some_iff.mp e1
  obtain ⟨dz, hz, rfl⟩ := Option.map_eq_some_iff.mp e1
  rw [strO_eq ez] at ck
  obtain ⟨rfl, ok⟩ := c_str ck
  have edz : dz = .tup ds := by
    have et : tupO dz = some ds := et
    cases dz <;> first | (cases et; done) | skip
    cases et; rfl
  subst edz
  rcases T.look z with ⟨d2, hl, u0, v0, hn, rv, ca⟩ | ⟨hl, hn⟩
  · rw [hl] at hz
    cases hz
    refine ⟨z, u0, v0, rfl, rfl, hn, rv, ?_⟩
    rw [wp_bind] at h1
    cases ca with
    | @tup a o its n2 xs ds q1 q2 q3 q4 q5 q6 l =>
      refine ⟨.inr (.inl ⟨rfl, o, q1, q2, q3⟩), ρ1, S1, Fz1, I1, wp_mono h1 (fun o2 ρ2 S2 h2 v2 H2 Fz2 I2 k2 a2 => ?_) fun _ _ _ z => z.mono (k1.kf I)⟩
      rw [wp_bind] at h2
      obtain ⟨zd, cz, h2⟩ := wp_res I2 a2 h2
      obtain ⟨dv, e2, q⟩ := wp_of.mp h2
      unfold indexL at e2
      obtain ⟨t, et, e2⟩ := Option.bind_eq_some_iff.mp e2
      obtain ⟨ys, ey, e2⟩ := Option.bind_eq_some_iff.mp e2
      obtain ⟨j, ej, rfl⟩ := Option.map_eq_some_iff.mp e2
      rw [strO_eq et] at cz
      obtain ⟨rfl, _⟩ := c_str cz
      have al : AtL g.K g.sd H2 Fz2 xs ds := by rw [← hK]; exact l.at'
      obtain ⟨ex, _⟩ := atL_strsD al ey
      subst ex
      obtain ⟨_, j2, j3⟩ := ixOf_ok ej
      exact ⟨a, ys, t, j, rfl, rfl, .inr ⟨o, its, n2, q1, q2, q4, q5, q6⟩, j2, j3, q _ H2 Fz2 I2 (k1.trans k2) (.int _)⟩
  · rw [hl] at hz; cases hz
end
end DL
set_option Elab.async false
set_option linter.all false
set_option maxRecDepth 100000
set_option maxHeartbeats 1000000
/-! rules in short, for texts that a script writes -/
namespace DL
open PySem PySem.Spec PyProof.Rows L2
theorem bt_len : bootBuiltins "len" = some (.builtin "len") := by decide +kernel
theorem bt_abs : bootBuiltins "abs" = some (.builtin "abs") := by decide +kernel
theorem bt_max : bootBuiltins "max" = some (.builtin "max") := by decide +kernel
theorem bt_min : bootBuiltins "min" = some (.builtin "min") := by decide +kernel
theorem bt_sum : bootBuiltins "sum" = some (.builtin "sum") := by decide +kernel
theorem bt_any : bootBuiltins "any" = some (.builtin "any") := by decide +kernel
theorem bt_all : bootBuiltins "all" = some (.builtin "all") := by decide +kernel
theorem bt_sorted : bootBuiltins "sorted" = some (.builtin "sorted") := by decide +kernel
theorem bt_repr : bootBuiltins "repr" = some (.builtin "repr") := by decide +kernel
theorem bt_int : bootBuiltins "int" = some (.type "int") := by decide +kernel
theorem bt_list : bootBuiltins "list" = some (.type "list") := by decide +kernel
theorem bt_tuple : bootBuiltins "tuple" = some (.type "tuple") := by decide +kernel
/-- the names of built-ins are free -/
structure Free (mg : Str → Option Value) : Prop where
  len : mg "len" = none
  abs : mg "abs" = none
  max : mg "max" = none
  min : mg "min" = none
  sum : mg "sum" = none
  any : mg "any" = none
  all : mg "all" = none
  sorted : mg "sorted" = none
  repr : mg "repr" = none
  int : mg "int" = none
  list : mg "list" = none
  tuple : mg "tuple" = none
  range : mg "range" = none
  dict : mg "dict" = none
  enumerate : mg "enumerate" = none
  zip : mg "zip" = none
  set : mg "set" = none
  str : mg "str" = none
  isinstance : mg "isinstance" = none
/-- a constant; a table -/
structure CstA (K : PySem.W.Frag) (mg : Str → Option Value) (x : Str) (d : D) : Prop where
  ex : ∃ u v, mg x = some u ∧ RelV v u ∧ CAt K v d
structure TabA (K : PySem.W.Frag) (w : World) (mg : Str → Option Value) (x : Str) (tb : List (Str × D)) : Prop where
  ex : ∃ a, mg x = some (.ref a) ∧ KTb K w a tb
section
variable {X : Cx} {g : G} {ρ ρ' ρ0 ρ1 ρ2 : Env} {S S1 S2 S' : Src} {σ σ' : L2.St} {H H1 H2 H' : Hp} {Fz Fz1 Fz2 Fz' : Addr → Prop} {Q : VK} {v : V}
theorem de_cst {x : Str} {d : D} {pos : Pos} (hK : X.K = g.K) (C : CstA X.K X.mg x d) (hg : Gl X x) (hd : (x == ("__debug__" : Str)) = false := by decide) : DE X g (.Name x pos) (mC d) := by
  obtain ⟨u, v, hm, r, c⟩ := C.ex
  exact de_glob hg hm r (fun H Fz => by rw [← hK]; exact c.at') hd
theorem de_inT {tb : List (Str × D)} {a : Expr} {x : Str} {p pos : Pos} {ma : M Opd} (hK : X.K = g.K) (T : TabA X.K X.w X.mg x tb) (hg : Gl X x) (ha : DO X g a ma) (hd : (x == ("__debug__" : Str)) = false := by decide) (hm : behindInMarks .In (.Name x p) = false := by first | exact nomark _ | rfl) : DE X g (.Compare a [.In] [.Name x p] pos) (mK1 (inKF false tb) ma) := by
  obtain ⟨d, hm', T⟩ := T.ex
  exact de_inK hK (T.tab g.sd) (pe_glob hg hm' rfl hd) ha hm
theorem de_notInT {tb : List (Str × D)} {a : Expr} {x : Str} {p pos : Pos} {ma : M Opd} (hK : X.K = g.K) (T : TabA X.K X.w X.mg x tb) (hg : Gl X x) (ha : DO X g a ma) (hd : (x == ("__debug__" : Str)) = false := by decide) (hm : behindInMarks .NotIn (.Name x p) = false := by first | exact nomark _ | rfl) : DE X g (.Compare a [.NotIn] [.Name x p] pos) (mK1 (inKF true tb) ma) := by
  obtain ⟨d, hm', T⟩ := T.ex
  exact de_notInK hK (T.tab g.sd) (pe_glob hg hm' rfl hd) ha hm
theorem inKF_b {neg : Bool} {tb : List (Str × D)} {dx : D} {dv : DV} (e : inKF neg tb dx = some dv) : ∃ b, dv = .sh (.bl b) := by
  unfold inKF at e
  obtain ⟨z, _, rfl⟩ := Option.map_eq_some_iff.mp e
  exact ⟨_, rfl⟩
theorem dt_inT {tb : List (Str × D)} {a : Expr} {x : Str} {p pos : Pos} {ma : M Opd} (hK : X.K = g.K) (T : TabA X.K X.w X.mg x tb) (hg : Gl X x) (ha : DO X g a ma) (hd : (x == ("__debug__" : Str)) = false := by decide) (hm : behindInMarks .In (.Name x p) = false := by first | exact nomark _ | rfl) : DT X g (.Compare a [.In] [.Name x p] pos) (mB (mK1 (inKF false tb) ma)) := by
  obtain ⟨d, hm', T⟩ := T.ex
  obtain ⟨es, n, D⟩ := T.kd
  refine PT.imp (pt_cmpR (op_in_kd D) ha (pe_glob (v := .ref d) hg hm' rfl hd) hm) fun σ H Q h => ?_
  refine k1_run (g := g) (Q := fun x H' => ∃ k, x = .bl k ∧ Q k H') (r := fun x H Q => ∃ (z : Str) (r : Option Value), x = .str z ∧ V.ref d = .ref d ∧ PySem.W.nsIn X.K d z = some r ∧ Q (.bl r.isSome) H) (fun H Fz x dx dv Q cx e q => ?_) (b_run h)
  obtain ⟨z, ez, rfl⟩ := Option.map_eq_some_iff.mp e
  rw [strO_eq ez] at cx
  obtain ⟨rfl, ok⟩ := c_str cx
  rcases T.look z with ⟨dz, hl, u0, v0, hn, r, at'⟩ | ⟨hl, hn⟩
  · exact ⟨z, _, rfl, rfl, hn, q (.bl true) H New.refl (by rw [hl]; exact .bl true)⟩
  · exact ⟨z, _, rfl, rfl, hn, q (.bl false) H New.refl (by rw [hl]; exact .bl false)⟩
theorem dt_notInT {tb : List (Str × D)} {a : Expr} {x : Str} {p pos : Pos} {ma : M Opd} (hK : X.K = g.K) (T : TabA X.K X.w X.mg x tb) (hg : Gl X x) (ha : DO X g a ma) (hd : (x == ("__debug__" : Str)) = false := by decide) (hm : behindInMarks .NotIn (.Name x p) = false := by first | exact nomark _ | rfl) : DT X g (.Compare a [.NotIn] [.Name x p] pos) (mB (mK1 (inKF true tb) ma)) := by
  obtain ⟨d, hm', T⟩ := T.ex
  obtain ⟨es, n, D⟩ := T.kd
  refine PT.imp (pt_cmpR (op_notIn_kd D) ha (pe_glob (v := .ref d) hg hm' rfl hd) hm) fun σ H Q h => ?_
  refine k1_run (g := g) (Q := fun x H' => ∃ k, x = .bl k ∧ Q k H') (r := fun x H Q => ∃ (z : Str) (r : Option Value), x = .str z ∧ V.ref d = .ref d ∧ PySem.W.nsIn X.K d z = some r ∧ Q (.bl (!r.isSome)) H) (fun H Fz x dx dv Q cx e q => ?_) (b_run h)
  obtain ⟨z, ez, rfl⟩ := Option.map_eq_some_iff.mp e
  rw [strO_eq ez] at cx
  obtain ⟨rfl, ok⟩ := c_str cx
  rcases T.look z with ⟨dz, hl, u0, v0, hn, r, at'⟩ | ⟨hl, hn⟩
  · exact ⟨z, _, rfl, rfl, hn, q (.bl false) H New.refl (by rw [hl]; exact .bl false)⟩
  · exact ⟨z, _, rfl, rfl, hn, q (.bl true) H New.refl (by rw [hl]; exact .bl true)⟩
theorem de_ixT {tb : List (Str × D)} {b : Expr} {x : Str} {p pos : Pos} {mb : M Opd} (hK : X.K = g.K) (T : TabA X.K X.w X.mg x tb) (hg : Gl X x) (hb : DO X g b mb) (hd : (x == ("__debug__" : Str)) = false := by decide) (hs : PlainIx b := by intro _ _; rfl) : DE X g (.Subscript (.Name x p) b pos) (mK1 (ixKF tb) mb) := by
  obtain ⟨d, hm', T⟩ := T.ex
  exact de_ixK hK (T.tab g.sd) (pe_glob hg hm' rfl hd) hb hs
theorem de_getT {tb : List (Str × D)} {e f : Expr} {x : Str} {p apos cpos : Pos} {mk mz : M Opd} (hK : X.K = g.K) (T : TabA X.K X.w X.mg x tb) (hg : Gl X x) (he : DO X g e mk) (hf : DO X g f mz) (hd : (x == ("__debug__" : Str)) = false := by decide) (m : M2 X (.Name x p) "get" apos e f cpos := by exact ⟨rfl, rfl, rfl, rfl⟩) :
    DE X g (.Call (.Attribute (.Name x p) "get" apos) [e, f] [] cpos) (mKG tb mk mz) := by
  obtain ⟨d, hm', T⟩ := T.ex
  exact de_getK hK (T.tab g.sd) (pe_glob hg hm' rfl hd) he hf m
theorem de_kIndexT {tb : List (Str × D)} {b e : Expr} {x : Str} {p pos apos cpos : Pos} {mb mk : M Opd} (hK : X.K = g.K) (T : TabA X.K X.w X.mg x tb) (hg : Gl X x) (hb : DO X g b mb) (he : DO X g e mk) (hd : (x == ("__debug__" : Str)) = false := by decide) (hs : PlainIx b := by intro _ _; rfl)
    (hs0 : starEach [e] X.env = (false, eval e X.env) :: starEach [] X.env := by rfl) (hbase : attributeBase (.Subscript (.Name x p) b pos) "index" X.env (eval (.Subscript (.Name x p) b pos) X.env) = eval (.Subscript (.Name x p) b pos) X.env := by rfl)
    (hfew : ((backTo cpos (starEach [e] X.env)).all (fun x => !x.1) && (backToKw cpos (keywordEach [] X.env)).all (fun x => x.1.isSome) && decide (([e] : List Expr).length + ([] : List Keyword).length + (if ([] : List Keyword).isEmpty then 0 else 1) < 30)) = true := by rfl)
    (hline : (apos.endLine == cpos.line) = true := by rfl) (hplain : (backTo cpos (starEach [] X.env)).any (·.1) = false := by rfl) : DE X g (.Call (.Attribute (.Subscript (.Name x p) b pos) "index" apos) [e] [] cpos) (mKIx tb mb mk) := by
  obtain ⟨d, hm', T⟩ := T.ex
  exact de_kIndex hK T (pe_glob hg hm' rfl hd) hb he hs hs0 hbase hfew hline hplain
/-! operators in short -/
section
variable {a b : Expr} {pos : Pos} {ma mb : M Opd} {k : Nat}
theorem de_eq (hK : X.K = g.K) (hr : Room k X.A) (ha : DO X g a ma) (hb : DO X g b mb) (hm : behindInMarks .Eq b = false := by first | exact nomark _ | rfl) : DE X g (.Compare a [.Eq] [b] pos) (mOp eqD ma mb) := de_cmp (op_eqM (hu64 hr)) (o2_eq hK) ha hb hm
theorem de_ne (hK : X.K = g.K) (hr : Room k X.A) (ha : DO X g a ma) (hb : DO X g b mb) (hm : behindInMarks .NotEq b = false := by first | exact nomark _ | rfl) : DE X g (.Compare a [.NotEq] [b] pos) (mOp neD ma mb) := de_cmp (op_neM (hu64 hr)) (o2_ne hK) ha hb hm
theorem de_in (hK : X.K = g.K) (hr : Room k X.A) (ha : DO X g a ma) (hb : DO X g b mb) (hm : behindInMarks .In b = false := by first | exact nomark _ | rfl) : DE X g (.Compare a [.In] [b] pos) (mOp (inDV false) ma mb) := de_cmp (op_inA hr) (o2_in hK false) ha hb hm
theorem de_notIn (hK : X.K = g.K) (hr : Room k X.A) (ha : DO X g a ma) (hb : DO X g b mb) (hm : behindInMarks .NotIn b = false := by first | exact nomark _ | rfl) : DE X g (.Compare a [.NotIn] [b] pos) (mOp (inDV true) ma mb) := de_cmp (op_notInA hr) (o2_in hK true) ha hb hm
theorem dt_eq (hK : X.K = g.K) (hr : Room k X.A) (ha : DO X g a ma) (hb : DO X g b mb) (hm : behindInMarks .Eq b = false := by first | exact nomark _ | rfl) : DT X g (.Compare a [.Eq] [b] pos) (mB (mOp eqD ma mb)) := dt_cmp (op_eqM (hu64 hr)) (o2_eq hK) ha hb hm
theorem dt_ne (hK : X.K = g.K) (hr : Room k X.A) (ha : DO X g a ma) (hb : DO X g b mb) (hm : behindInMarks .NotEq b = false := by first | exact nomark _ | rfl) : DT X g (.Compare a [.NotEq] [b] pos) (mB (mOp neD ma mb)) := dt_cmp (op_neM (hu64 hr)) (o2_ne hK) ha hb hm
theorem dt_in (hK : X.K = g.K) (hr : Room k X.A) (ha : DO X g a ma) (hb : DO X g b mb) (hm : behindInMarks .In b = false := by first | exact nomark _ | rfl) : DT X g (.Compare a [.In] [b] pos) (mB (mOp (inDV false) ma mb)) := dt_cmp (op_inA hr) (o2_in hK false) ha hb hm
theorem dt_notIn (hK : X.K = g.K) (hr : Room k X.A) (ha : DO X g a ma) (hb : DO X g b mb) (hm : behindInMarks .NotIn b = false := by first | exact nomark _ | rfl) : DT X g (.Compare a [.NotIn] [b] pos) (mB (mOp (inDV true) ma mb)) := dt_cmp (op_notInA hr) (o2_in hK true) ha hb hm
theorem de_isN (ha : DO X g a ma) (hb : DO X g b mb) (hm : behindInMarks .Is b = false := by first | exact nomark _ | rfl) : DE X g (.Compare a [.Is] [b] pos) (mOp isN ma mb) := de_cmp op_isN o2_isN ha hb hm
theorem de_notN (ha : DO X g a ma) (hb : DO X g b mb) (hm : behindInMarks .IsNot b = false := by first | exact nomark _ | rfl) : DE X g (.Compare a [.IsNot] [b] pos) (mOp notN ma mb) := de_cmp op_notN o2_notN ha hb hm
theorem dt_isN (ha : DO X g a ma) (hb : DO X g b mb) (hm : behindInMarks .Is b = false := by first | exact nomark _ | rfl) : DT X g (.Compare a [.Is] [b] pos) (mB (mOp isN ma mb)) := dt_cmp op_isN o2_isN ha hb hm
theorem dt_notN (ha : DO X g a ma) (hb : DO X g b mb) (hm : behindInMarks .IsNot b = false := by first | exact nomark _ | rfl) : DT X g (.Compare a [.IsNot] [b] pos) (mB (mOp notN ma mb)) := dt_cmp op_notN o2_notN ha hb hm
theorem de_add (hK : X.K = g.K) (ha : DO X g a ma) (hb : DO X g b mb) : DE X g (.BinOp a .Add b pos) (mOp addD ma mb) := de_op op_addA (o2_add hK) ha hb
theorem de_sub (ha : DO X g a ma) (hb : DO X g b mb) : DE X g (.BinOp a .Sub b pos) (mOp subD ma mb) := de_op op_sub o2_sub ha hb
theorem de_mul (hK : X.K = g.K) (ha : DO X g a ma) (hb : DO X g b mb) : DE X g (.BinOp a .Mult b pos) (mOp mulD ma mb) := de_op op_mulA (o2_mul hK) ha hb
theorem de_mod (ha : DO X g a ma) (hb : DO X g b mb) : DE X g (.BinOp a .Mod b pos) (mOp modD ma mb) := de_op op_mod o2_mod ha hb
theorem de_fdiv (ha : DO X g a ma) (hb : DO X g b mb) : DE X g (.BinOp a .FloorDiv b pos) (mOp fdwD ma mb) := de_op op_fdivW o2_fdw ha hb
theorem de_pow (ha : DO X g a ma) (hb : DO X g b mb) : DE X g (.BinOp a .Pow b pos) (mOp powD ma mb) := de_op op_pow o2_pow ha hb
end
/-! built-ins in short -/
section
variable {p pos : Pos} {e e2 : Expr} {es : List Expr} {ma : M (List Opd)} {k : Nat}
theorem de_len (hK : X.K = g.K) (F : Free X.mg) (hg : Gl X "len") (ha : DA X g [e] ma) (he : starEach [e] X.env = (false, eval e X.env) :: starEach [] X.env := by rfl) (hpl : (backTo pos (starEach [] X.env)).any (·.1) = false := by rfl) : DE X g (.Call (.Name "len" p) [e] [] pos) (mBui (op1 lenD) ma) :=
  de_buiB (by rw [← hK]; exact call_lenA) bui_len hg F.len bt_len ha (by decide) (by decide) he hpl
theorem de_abs (F : Free X.mg) (hg : Gl X "abs") (ha : DA X g [e] ma) (he : starEach [e] X.env = (false, eval e X.env) :: starEach [] X.env := by rfl) (hpl : (backTo pos (starEach [] X.env)).any (·.1) = false := by rfl) : DE X g (.Call (.Name "abs" p) [e] [] pos) (mBui (op1 absF) ma) :=
  de_buiB call_abs bui_abs hg F.abs bt_abs ha (by decide) (by decide) he hpl
theorem de_int' (F : Free X.mg) (hg : Gl X "int") (ha : DA X g [e] ma) (he : starEach [e] X.env = (false, eval e X.env) :: starEach [] X.env := by rfl) (hpl : (backTo pos (starEach [] X.env)).any (·.1) = false := by rfl) : DE X g (.Call (.Name "int" p) [e] [] pos) (mBui (op1 intF) ma) :=
  de_buiT call_int1 bui_int hg F.int bt_int ha (by decide) (by decide) he hpl
theorem de_max (hc : X.calm = true) (F : Free X.mg) (hg : Gl X "max") (ha : DA X g [e, e2] ma) (he : starEach [e, e2] X.env = (false, eval e X.env) :: starEach [e2] X.env := by rfl) (hpl : (backTo pos (starEach [e2] X.env)).any (·.1) = false := by rfl) : DE X g (.Call (.Name "max" p) [e, e2] [] pos) (mBui (op2' max2) ma) :=
  de_buiB (call_max2 hc) bui_ii hg F.max bt_max ha (by decide) (by decide) he hpl
theorem de_min (hc : X.calm = true) (F : Free X.mg) (hg : Gl X "min") (ha : DA X g [e, e2] ma) (he : starEach [e, e2] X.env = (false, eval e X.env) :: starEach [e2] X.env := by rfl) (hpl : (backTo pos (starEach [e2] X.env)).any (·.1) = false := by rfl) : DE X g (.Call (.Name "min" p) [e, e2] [] pos) (mBui (op2' min2) ma) :=
  de_buiB (call_min2 hc) bui_ii hg F.min bt_min ha (by decide) (by decide) he hpl
theorem de_tuple (hK : X.K = g.K) (F : Free X.mg) (hg : Gl X "tuple") (ha : DA X g [e] ma) (he : starEach [e] X.env = (false, eval e X.env) :: starEach [] X.env := by rfl) (hpl : (backTo pos (starEach [] X.env)).any (·.1) = false := by rfl) : DE X g (.Call (.Name "tuple" p) [e] [] pos) (mBui (op1 tupF) ma) :=
  de_buiT call_tuple_of (bui_tup hK) hg F.tuple bt_tuple ha (by decide) (by decide) he hpl
theorem de_list (hK : X.K = g.K) (F : Free X.mg) (hg : Gl X "list") (ha : DA X g [e] ma) (he : starEach [e] X.env = (false, eval e X.env) :: starEach [] X.env := by rfl) (hpl : (backTo pos (starEach [] X.env)).any (·.1) = false := by rfl) : DE X g (.Call (.Name "list" p) [e] [] pos) (mBui (op1 lstF') ma) :=
  de_buiT (by rw [← hK]; exact call_list_of) bui_lst hg F.list bt_list ha (by decide) (by decide) he hpl
theorem de_sorted (hK : X.K = g.K) (F : Free X.mg) (hg : Gl X "sorted") (ha : DA X g [e] ma) (he : starEach [e] X.env = (false, eval e X.env) :: starEach [] X.env := by rfl) (hpl : (backTo pos (starEach [] X.env)).any (·.1) = false := by rfl) : DE X g (.Call (.Name "sorted" p) [e] [] pos) (mBui (op1 sortF) ma) :=
  de_buiB (by rw [← hK]; exact cr_sortA) bui_sort hg F.sorted bt_sorted ha (by decide) (by decide) he hpl
theorem de_repr (hK : X.K = g.K) (ga : X.A.guards = some []) (hr : Room k X.A) (F : Free X.mg) (hg : Gl X "repr") (ha : DA X g [e] ma) (he : starEach [e] X.env = (false, eval e X.env) :: starEach [] X.env := by rfl) (hpl : (backTo pos (starEach [] X.env)).any (·.1) = false := by rfl) : DE X g (.Call (.Name "repr" p) [e] [] pos) (mBui (op1 reprF) ma) :=
  de_buiB (by rw [← hK]; exact cr_repr ga (hu80 hr)) bui_repr hg F.repr bt_repr ha (by decide) (by decide) he hpl
theorem de_sum (hK : X.K = g.K) (hc : X.calm = true) (F : Free X.mg) (hg : Gl X "sum") (ha : DA X g [e] ma) (he : starEach [e] X.env = (false, eval e X.env) :: starEach [] X.env := by rfl) (hpl : (backTo pos (starEach [] X.env)).any (·.1) = false := by rfl) : DE X g (.Call (.Name "sum" p) [e] [] pos) (mBui (op1 sumF) ma) :=
  de_buiB (by rw [← hK]; exact cr_sum hc) bui_sum hg F.sum bt_sum ha (by decide) (by decide) he hpl
theorem de_anyL (hK : X.K = g.K) (hc : X.calm = true) (F : Free X.mg) (hg : Gl X "any") (ha : DA X g [e] ma) (he : starEach [e] X.env = (false, eval e X.env) :: starEach [] X.env := by rfl) (hpl : (backTo pos (starEach [] X.env)).any (·.1) = false := by rfl) : DE X g (.Call (.Name "any" p) [e] [] pos) (mBui (op1 anyF) ma) :=
  de_buiB (by rw [← hK]; exact cr_any hc) bui_any hg F.any bt_any ha (by decide) (by decide) he hpl
theorem de_allL (hK : X.K = g.K) (hc : X.calm = true) (F : Free X.mg) (hg : Gl X "all") (ha : DA X g [e] ma) (he : starEach [e] X.env = (false, eval e X.env) :: starEach [] X.env := by rfl) (hpl : (backTo pos (starEach [] X.env)).any (·.1) = false := by rfl) : DE X g (.Call (.Name "all" p) [e] [] pos) (mBui (op1 allF) ma) :=
  de_buiB (by rw [← hK]; exact cr_all hc) bui_all hg F.all bt_all ha (by decide) (by decide) he hpl
end
/-! list methods in short -/
section
variable {i : Nat} {x : Str} {p apos cpos : Pos} {e e2 : Expr} {ma : M (List Opd)}
theorem de_append (hK : X.K = g.K) (ho : PE X (.Name x p) (tVar i)) (ha : DA X g [e] ma) (hbase : attributeBase (.Name x p) "append" X.env (eval (.Name x p) X.env) = eval (.Name x p) X.env := by rfl)
    (hfew : ((backTo cpos (starEach [e] X.env)).all (fun x => !x.1) && (backToKw cpos (keywordEach [] X.env)).all (fun x => x.1.isSome) && decide (([e] : List Expr).length + ([] : List Keyword).length + (if ([] : List Keyword).isEmpty then 0 else 1) < 30)) = true := by rfl)
    (hline : (apos.endLine == cpos.line) = true := by rfl) (hs : starEach [e] X.env = (false, eval e X.env) :: starEach [] X.env := by rfl) (hplain : (backTo cpos (starEach [] X.env)).any (·.1) = false := by rfl) :
    DE X g (.Call (.Attribute (.Name x p) "append" apos) [e] [] cpos) (mMeth isOwL i ma appF) := de_methL hK PySem.F.slot_list_append PySem.F.type_list_append mt_append mut_app ho ha hbase hfew hline hs hplain
theorem de_popAt (hK : X.K = g.K) (ho : PE X (.Name x p) (tVar i)) (ha : DA X g [e] ma) (hbase : attributeBase (.Name x p) "pop" X.env (eval (.Name x p) X.env) = eval (.Name x p) X.env := by rfl)
    (hfew : ((backTo cpos (starEach [e] X.env)).all (fun x => !x.1) && (backToKw cpos (keywordEach [] X.env)).all (fun x => x.1.isSome) && decide (([e] : List Expr).length + ([] : List Keyword).length + (if ([] : List Keyword).isEmpty then 0 else 1) < 30)) = true := by rfl)
    (hline : (apos.endLine == cpos.line) = true := by rfl) (hs : starEach [e] X.env = (false, eval e X.env) :: starEach [] X.env := by rfl) (hplain : (backTo cpos (starEach [] X.env)).any (·.1) = false := by rfl) :
    DE X g (.Call (.Attribute (.Name x p) "pop" apos) [e] [] cpos) (mMeth isOwL i ma popAtF) := de_methL hK PySem.F.slot_list_pop PySem.F.type_list_pop mt_popAt mut_popAt ho ha hbase hfew hline hs hplain
theorem de_extend (hK : X.K = g.K) (ho : PE X (.Name x p) (tVar i)) (ha : DA X g [e] ma) (hbase : attributeBase (.Name x p) "extend" X.env (eval (.Name x p) X.env) = eval (.Name x p) X.env := by rfl)
    (hfew : ((backTo cpos (starEach [e] X.env)).all (fun x => !x.1) && (backToKw cpos (keywordEach [] X.env)).all (fun x => x.1.isSome) && decide (([e] : List Expr).length + ([] : List Keyword).length + (if ([] : List Keyword).isEmpty then 0 else 1) < 30)) = true := by rfl)
    (hline : (apos.endLine == cpos.line) = true := by rfl) (hs : starEach [e] X.env = (false, eval e X.env) :: starEach [] X.env := by rfl) (hplain : (backTo cpos (starEach [] X.env)).any (·.1) = false := by rfl) :
    DE X g (.Call (.Attribute (.Name x p) "extend" apos) [e] [] cpos) (mMeth isOwL i ma extF) := de_methL hK PySem.F.slot_list_extend PySem.F.type_list_extend mt_extend mut_ext ho ha hbase hfew hline hs hplain
theorem de_pop0 (hK : X.K = g.K) (ho : PE X (.Name x p) (tVar i)) (hbase : attributeBase (.Name x p) "pop" X.env (eval (.Name x p) X.env) = eval (.Name x p) X.env := by rfl) (hline : (apos.endLine == cpos.line) = true := by rfl) :
    DE X g (.Call (.Attribute (.Name x p) "pop" apos) [] [] cpos) (mMeth isOwL i aNil popF) := de_methL0 hK PySem.F.slot_list_pop PySem.F.type_list_pop mt_pop mut_pop ho hbase hline
end
end
end DL
namespace DL
open PySem PySem.Spec PyProof.Rows L2
def NoXO (m : M Opd) : Prop := ∀ ρ S Q E, wp m ρ S Q E → wp m ρ S Q (fun _ _ _ => False)
theorem nox_c {d : D} : NoXO (opd (mC d)) := fun _ _ _ _ h => h
theorem nox_slot {i : Nat} {ρ : Env} {S : Src} {Q : Po Opd} {E : Po D} (h : wp (mSlot i) ρ S Q E) : wp (mSlot i) ρ S Q (fun _ _ _ => False) := by
  cases e : ρ[i]? with
  | none => simp only [wp, mSlot, e] at h
  | some x =>
    cases x with
    | none => simp only [wp, mSlot, e] at h
    | some dv => simp only [wp, mSlot, e] at h ⊢; exact h
theorem nox_s {i : Nat} : NoXO (mSlot i) := fun ρ S Q E h => nox_slot h
theorem nox_res (o : Opd) {ρ : Env} {S : Src} {Q : Po D} {E : Po D} (h : wp (res o) ρ S Q E) : wp (res o) ρ S Q (fun _ _ _ => False) := by
  cases o with
  | val d => exact h
  | slot i =>
    cases e : ρ[i]? with
    | none => simp only [wp, res, e] at h
    | some x =>
      cases x with
      | none => simp only [wp, res, e] at h
      | some dv => simp only [wp, res, e] at h ⊢; exact h
theorem nox_rcv {p : D → Bool} {i : Nat} {ρ : Env} {S : Src} {Q : Po Unit} {E : Po D} (h : wp (mRcv p i) ρ S Q E) : wp (mRcv p i) ρ S Q (fun _ _ _ => False) := by
  obtain ⟨own, e1, e2, q⟩ := wp_rcv h
  simp only [wp, mRcv, e1, e2, if_pos]
  exact q
theorem nox_exO {f : D → Option D} {i : Nat} {ρ : Env} {S : Src} {Q : Po Unit} {E : Po D} (h : wp (exO f i) ρ S Q E) : wp (exO f i) ρ S Q (fun _ _ _ => False) := by
  obtain ⟨d, d', e1, e2, q⟩ := wp_exO h
  simp only [wp, exO, e1, e2]
  exact q
theorem nox_sb {i : Nat} {mk : M Opd} (h : NoXO mk) : NoX (gSb i mk) := fun d ρ S Q E q => by
  unfold gSb at q ⊢
  rw [wp_bind] at q ⊢
  refine wp_mono (nox_rcv q) (fun _ ρ0 S0 q => ?_) fun _ _ _ z => z
  rw [wp_bind] at q ⊢
  refine wp_mono (h _ _ _ _ q) (fun o ρ1 S1 h1 => ?_) fun _ _ _ z => z
  rw [wp_bind] at h1 ⊢
  exact wp_mono (nox_res o h1) (fun k ρ2 S2 h2 => nox_exO h2) fun _ _ _ z => z
section
variable {X : Cx} {g : G}
theorem de_neg {a : Expr} {pos : Pos} {ma : M Opd} (ha : DO X g a ma) : DE X g (.UnaryOp .USub a pos) (mK1 negD ma) :=
  PE.imp (pe_un un_neg ha) fun σ H Q h => k1_run (g := g) (r := fun x H Q => ∃ i, x = .int i ∧ Q (.int (-i)) H) (fun H Fz x dx dv Q cx e q => by
    cases dx <;> first | (cases e; done) | skip
    cases e
    exact ⟨_, c_int cx, q _ H New.refl (.int _)⟩) h
end
end DL
set_option Elab.async false
set_option linter.all false
set_option maxRecDepth 100000
set_option maxHeartbeats 1000000
/-! a def's call without arguments -/
namespace L2
open PySem PySem.Spec PyProof.Rows
variable {X : Cx} {CX : CXT} {k : Nat} {f : Addr} {fd : FuncData} {sp : Sp} {E : XK} {x : Str} {p pos : Pos}
theorem pe_callG0 (F : FnG X.prog X.w X.K X.mg X.base CX k f fd [] sp) (ga : X.A.guards = some []) (hr : Room k X.A) (hg : Gl X x) (hm : X.mg x = some (.ref f)) (hk : PySem.W.keepIn X.K (.ref f) = true) (hb : Binds X.K fd [] []) (hx : Passes CX X E)
    (hdb : (x == ("__debug__" : Str)) = false := by decide) :
    PE X (.Call (.Name x p) [] [] pos) (fun σ H Q => sp [] H Q E) := by
  refine ⟨fun pins s σ H Q I h => ?_⟩
  refine wpAny_Call_Name_kw (ld_glob I hg hm ?_ hdb)
  exact PySem.W.callWith_K0 I.kIn hk (run_fnG (us := []) F ga hr hb hx I .nil h)
end L2
namespace DL
open PySem PySem.Spec PyProof.Rows L2
variable {X : Cx} {g : G}
theorem de_callT0 {k j : Nat} {T : List Addr} {F : Fn} {x : Str} {p pos : Pos} (hK : X.K = g.K) (hT : g.T = T)
    (A : FnA X.prog X.w X.K X.mg X.base T j x [] F) (ga : X.A.guards = some []) (hr : Room k X.A) (hjk : j ≤ k) (hg : Gl X x) (hz : g.rz = false)
    (hdb : (x == ("__debug__" : Str)) = false := by decide) : DE X g (.Call (.Name x p) [] [] pos) (mCall F aNil) := by
  subst hT
  obtain ⟨_, _, FO, hm, hk, hb⟩ := (A.mono hjk).ex
  refine PE.imp (pe_callG0 FO ga hr hg hm hk hb pass0 hdb) fun σ H Q ⟨ρ, S, Fz, I, hw⟩ => ?_
  unfold mCall aNil at hw
  rw [wp_bind] at hw
  show spF X.K g.T 0 F [] H Q E0
  rw [hK]
  exact call_fin rfl rfl I Kx.refl .nil I (wp_mono hw (fun _ _ _ q => q) fun e ρ3 S3 z => by have z1 := z.1; rw [hz] at z1; cases z1)
end DL
set_option Elab.async false
set_option linter.all false
set_option maxRecDepth 100000
set_option maxHeartbeats 1000000
/-! the law's own source of numbers, as a function -/
namespace DL
open PySem PySem.Spec PyProof.Rows L2
/-- rs: the cells from the last one on -/
def refillL : List Int → Int → Int × List Int
  | [], l => (l, [])
  | c :: r, l => if l < 2 then refillL r c else (l, c :: r)
def refill (S : Src) : Src := { S with left := (refillL S.cells.reverse S.left).1, cells := (refillL S.cells.reverse S.left).2.reverse }
def stir (mixed lap : Int) : Int := (((mixed + lap * 104729) % 998244353) * ((mixed + lap * 104729) % 998244353) + lap * 17) % 2147483647
def pick (S : Src) (most : Int) : Int × Src :=
  if most < 2 then (0, S) else
    let T := refill S
    if 1 < T.left then (T.left % most, { T with left := T.left / most }) else ((stir T.mixed (T.turn + 1) / 16) % most, { T with turn := T.turn + 1 })
def fn_law_pick : Fn := fun ds S => match ds with
  | [.src, .int most] => if 0 ≤ most ∧ most.natAbs.log2 < 9000 then some (.ret (.sh (.int (pick S most).1)) (pick S most).2) else none
  | _ => none
def fn_law_open_cells : Fn := fun _ _ => none
theorem pick_range (S : Src) (hl : 0 ≤ (refill S).left) (ht : 0 ≤ S.turn) {most : Int} (h : 0 ≤ most) : 0 ≤ (pick S most).1 ∧ ((pick S most).1 < most ∨ (pick S most).1 = 0) := by
  unfold pick
  by_cases h2 : most < 2
  · rw [if_pos h2]; exact ⟨Int.le_refl _, .inr rfl⟩
  · rw [if_neg h2]
    simp only
    have hm : 0 < most := by omega
    split
    · exact ⟨Int.emod_nonneg _ (by omega), .inl (Int.emod_lt_of_pos _ hm)⟩
    · exact ⟨Int.emod_nonneg _ (by omega), .inl (Int.emod_lt_of_pos _ hm)⟩
end DL
set_option Elab.async false
set_option linter.all false
set_option maxRecDepth 100000
set_option maxHeartbeats 4000000
namespace K22
open PySem PySem.Spec PyProof.Rows L2 DL
def topS (i : Nat) : Stmt := PySem.Challenge.pw_effectonce_k22_answers_and_air.main.body.getD i (.Pass ⟨0, 0, 0, 0⟩)
abbrev s_goes_to : Stmt := topS 5
abbrev n_goes_to : List Str := ["letter"]
theorem sc_goes_to : FnScope n_goes_to ["letter"] (defScope s_goes_to) := ⟨rfl, rfl, rfl, by decide +kernel, rfl, by decide +kernel, by decide +kernel⟩
abbrev s_is_answer : Stmt := topS 6
abbrev n_is_answer : List Str := ["letter", "answer", "word", "granting", "many"]
theorem sc_is_answer : FnScope n_is_answer ["letter", "answer"] (defScope s_is_answer) := ⟨rfl, rfl, rfl, by decide +kernel, rfl, by decide +kernel, by decide +kernel⟩
abbrev s_unanswered : Stmt := topS 7
abbrev n_unanswered : List Str := ["sent", "heard", "left", "letter", "answer"]
theorem sc_unanswered : FnScope n_unanswered ["sent", "heard"] (defScope s_unanswered) := ⟨rfl, rfl, rfl, by decide +kernel, rfl, by decide +kernel, by decide +kernel⟩
abbrev s_fields_of : Stmt := topS 8
abbrev n_fields_of : List Str := ["letter"]
theorem sc_fields_of : FnScope n_fields_of ["letter"] (defScope s_fields_of) := ⟨rfl, rfl, rfl, by decide +kernel, rfl, by decide +kernel, by decide +kernel⟩
abbrev s_taken_out : Stmt := topS 10
abbrev n_taken_out : List Str := ["air", "k", "place"]
theorem sc_taken_out : FnScope n_taken_out ["air", "k"] (defScope s_taken_out) := ⟨rfl, rfl, rfl, by decide +kernel, rfl, by decide +kernel, by decide +kernel⟩
abbrev s_doubled : Stmt := topS 11
abbrev n_doubled : List Str := ["air", "k"]
theorem sc_doubled : FnScope n_doubled ["air", "k"] (defScope s_doubled) := ⟨rfl, rfl, rfl, by decide +kernel, rfl, by decide +kernel, by decide +kernel⟩
abbrev s_for_whom : Stmt := topS 12
abbrev n_for_whom : List Str := ["air", "whom", "letter"]
theorem sc_for_whom : FnScope n_for_whom ["air", "whom"] (defScope s_for_whom) := ⟨rfl, rfl, rfl, by decide +kernel, rfl, by decide +kernel, by decide +kernel⟩
abbrev s__law_open_cells : Stmt := topS 14
abbrev n__law_open_cells : List Str := ["_law_script", "_law_stirred", "_law_cell", "_law_cells"]
theorem sc__law_open_cells : FnScope n__law_open_cells ["_law_script"] (defScope s__law_open_cells) := ⟨rfl, rfl, rfl, by decide +kernel, rfl, by decide +kernel, by decide +kernel⟩
abbrev s__law_pick : Stmt := topS 15
abbrev n__law_pick : List Str := ["_law_source", "_law_most", "_law_cells", "_law_others", "_law_lap", "_law_stirred"]
theorem sc__law_pick : FnScope n__law_pick ["_law_source", "_law_most"] (defScope s__law_pick) := ⟨rfl, rfl, rfl, by decide +kernel, rfl, by decide +kernel, by decide +kernel⟩
abbrev s__law_any_order : Stmt := topS 16
abbrev n__law_any_order : List Str := ["_law_source", "_law_things", "_law_others", "_law_lap"]
theorem sc__law_any_order : FnScope n__law_any_order ["_law_source", "_law_things"] (defScope s__law_any_order) := ⟨rfl, rfl, rfl, by decide +kernel, rfl, by decide +kernel, by decide +kernel⟩
abbrev s__law_sorts : Stmt := topS 17
abbrev n__law_sorts : List Str := ["_law_word", "_law_some", "_law_more", "_law_last"]
theorem sc__law_sorts : FnScope n__law_sorts ["_law_word"] (defScope s__law_sorts) := ⟨rfl, rfl, rfl, by decide +kernel, rfl, by decide +kernel, by decide +kernel⟩
abbrev s__law_any_value : Stmt := topS 18
abbrev n__law_any_value : List Str := ["_law_source", "_law_way", "_law_lap"]
theorem sc__law_any_value : FnScope n__law_any_value ["_law_source"] (defScope s__law_any_value) := ⟨rfl, rfl, rfl, by decide +kernel, rfl, by decide +kernel, by decide +kernel⟩
abbrev s__law_draw_ending : Stmt := topS 19
abbrev n__law_draw_ending : List Str := ["_law_source", "_law_begun", "_law_word", "_law_value"]
theorem sc__law_draw_ending : FnScope n__law_draw_ending ["_law_source"] (defScope s__law_draw_ending) := ⟨rfl, rfl, rfl, by decide +kernel, rfl, by decide +kernel, by decide +kernel⟩
abbrev s__law_draw_part : Stmt := topS 20
abbrev n__law_draw_part : List Str := ["_law_source", "_law_sort", "_law_names", "_law_found", "_law_name", "_law_numbers", "_law_lap"]
theorem sc__law_draw_part : FnScope n__law_draw_part ["_law_source", "_law_sort"] (defScope s__law_draw_part) := ⟨rfl, rfl, rfl, by decide +kernel, rfl, by decide +kernel, by decide +kernel⟩
abbrev s__law_draw_letter : Stmt := topS 21
abbrev n__law_draw_letter : List Str := ["_law_source", "_law_words", "_law_word", "_law_sort"]
theorem sc__law_draw_letter : FnScope n__law_draw_letter ["_law_source", "_law_words"] (defScope s__law_draw_letter) := ⟨rfl, rfl, rfl, by decide +kernel, rfl, by decide +kernel, by decide +kernel⟩
abbrev s__law_all_words : Stmt := topS 22
abbrev n__law_all_words : List Str := ["_law_found"]
theorem sc__law_all_words : FnScope n__law_all_words [] (defScope s__law_all_words) := ⟨rfl, rfl, rfl, by decide +kernel, rfl, by decide +kernel, by decide +kernel⟩
abbrev s__law_right_answers : Stmt := topS 23
abbrev n__law_right_answers : List Str := ["_law_source", "_law_letter", "_law_word", "_law_parts", "_law_found"]
theorem sc__law_right_answers : FnScope n__law_right_answers ["_law_source", "_law_letter"] (defScope s__law_right_answers) := ⟨rfl, rfl, rfl, by decide +kernel, rfl, by decide +kernel, by decide +kernel⟩
abbrev s__law_near_answer : Stmt := topS 24
abbrev n__law_near_answer : List Str := ["_law_source", "_law_answer", "_law_sorts_here", "_law_k"]
theorem sc__law_near_answer : FnScope n__law_near_answer ["_law_source", "_law_answer"] (defScope s__law_near_answer) := ⟨rfl, rfl, rfl, by decide +kernel, rfl, by decide +kernel, by decide +kernel⟩
abbrev s__law_answers : Stmt := topS 25
abbrev n__law_answers : List Str := ["_law_letter", "_law_answer", "_law_word", "_law_told", "_law_pairs"]
theorem sc__law_answers : FnScope n__law_answers ["_law_letter", "_law_answer"] (defScope s__law_answers) := ⟨rfl, rfl, rfl, by decide +kernel, rfl, by decide +kernel, by decide +kernel⟩
abbrev s_law : Stmt := topS 26
abbrev n_law : List Str := ["_law_script", "_law_source", "_law_asks", "_law_sent", "_law_heard", "_law_lap", "_law_letter", "_law_answers_here", "_law_some", "_law_answer", "_law_turn", "_law_one", "_law_due", "_law_is_open", "_law_fields", "_law_air", "_law_k", "_law_place", "_law_whom"]
theorem sc_law : FnScope n_law ["_law_script"] (defScope s_law) := ⟨rfl, rfl, rfl, by decide +kernel, rfl, by decide +kernel, by decide +kernel⟩
abbrev F__law_pick : Fn := fn_law_pick
abbrev F__law_open_cells : Fn := fn_law_open_cells
def c_TO_MACHINES : D := .tup [.str "work", .str "ended", .str "refused"]
def t_SORTS : List (Str × D) := [("take", .tup [.str "epoch"]), ("grant", .tup [.str "epoch", .str "job", .str "fence", .str "machine"]), ("free", .tup [.str "epoch", .str "job", .str "fence"]), ("bar", .tup [.str "epoch", .str "job", .str "need"]), ("ask", .tup [.str "epoch"]), ("end", .tup [.str "machine", .str "job", .str "fence", .str "attempt", .str "outcome"]), ("taken", .tup [.str "epoch"]), ("granted", .tup [.str "epoch", .str "job", .str "fence", .str "machine", .str "attempt", .str "results"]), ("freed", .tup [.str "epoch", .str "job", .str "fence"]), ("barred", .tup [.str "epoch", .str "job"]), ("no", .tup [.str "last_epoch", .str "asked"]), ("told", .tup [.str "epoch", .str "moment", .str "time", .str "last_fence", .str "holds", .str "ends", .str "barred"]), ("work", .tup [.str "epoch", .str "machine", .str "job", .str "fence", .str "attempt", .str "results"]), ("ended", .tup [.str "machine", .str "job", .str "fence"]), ("refused", .tup [.str "machine", .str "job", .str "fence"])]
def t_ASKED : List (Str × D) := [("take", .tup [.str "taken", .int 1]), ("grant", .tup [.str "granted", .int 4]), ("free", .tup [.str "freed", .int 3]), ("bar", .tup [.str "barred", .int 2]), ("ask", .tup [.str "told", .int 1])]
def t_FIELDS : List (Str × D) := [("take", .tup [.str "epoch", .str "moment"]), ("grant", .tup [.str "fence", .str "holds", .str "moment"]), ("free", .tup [.str "freed", .str "holds", .str "moment"]), ("bar", .tup [.str "barred", .str "moment"]), ("end", .tup [.str "ends", .str "holds", .str "moment"])]
/-- the module's constants -/
structure Csts (K : PySem.W.Frag) (w : World) (mg : Str → Option Value) : Prop where
  TO_MACHINES : CstA K mg "TO_MACHINES" c_TO_MACHINES
  SORTS : TabA K w mg "SORTS" t_SORTS
  ASKED : TabA K w mg "ASKED" t_ASKED
  FIELDS : TabA K w mg "FIELDS" t_FIELDS
def m_goes_to : M Fl := mSeq (mIf (mOr (mB (mK1 (inKF false t_ASKED) (opd (mOp ixD (mSlot 0) (opd (mC (.int 0))))))) (mB (mOp eqD (opd (mOp ixD (mSlot 0) (opd (mC (.int 0))))) (opd (mC (.str "end")))))) (mSeq (mRet (mTup (aCons (opd (mC (.str "store"))) (aNil)))) (mNx)) (mNx)) (mSeq (mIf (mB (mOp (inDV false) (opd (mOp ixD (mSlot 0) (opd (mC (.int 0))))) (opd (mC c_TO_MACHINES)))) (mSeq (mRet (mTup (aCons (opd (mC (.str "machine"))) (aCons (opd (mOp ixD (mSlot 0) (opd (mOp addD (opd (mC (.int 1))) (opd (mKIx t_SORTS (opd (mOp ixD (mSlot 0) (opd (mC (.int 0))))) (opd (mC (.str "machine"))))))))) (aNil))))) (mNx)) (mNx)) (mSeq (mRet (mTup (aCons (opd (mC (.str "keeper"))) (aNil)))) (mNx)))
def F_goes_to : Fn := mkF 1 m_goes_to
structure B_goes_to (P : Program) (w : World) (K : PySem.W.Frag) (mg : Str → Option Value) (base : Heap) (T : List Addr) : Prop where
  none : True
theorem a_goes_to {P : Program} {w : World} {K : PySem.W.Frag} {mg : Str → Option Value} {base : Heap} {T : List Addr}  (Z : Free mg) (C : Csts K w mg) (B : B_goes_to P w K mg base T) (D : DefA K mg "goes_to" ["letter"] s_goes_to) :
    FnA P w K mg base T (0 + 1) "goes_to" ["letter"] (mkF 1 (m_goes_to )) :=
  fna_of 1 rfl D sc_goes_to fun f cdv A outer s H E g hK hT hz ga hr => by
    have hK := hK.symm
    have nd := (sc_goes_to).nd
    exact (dss_cons (ds_if (dt_bool (dw_or (dt_inT hK C.ASKED (by rfl) (do_of (de_ix hK hr (do_name 0) (do_of de_int)))) (dw_or1 (dt_eq hK hr (do_of (de_ix hK hr (do_name 0) (do_of de_int))) (do_of de_str))))) (dss_cons (ds_ret (de_tup (da_cons (do_of de_str) da_nil)))
    dss_nil) dss_nil)
    (dss_cons (ds_if (dt_in hK hr (do_of (de_ix hK hr (do_name 0) (do_of de_int))) (do_of (de_cst hK C.TO_MACHINES (by rfl)))) (dss_cons (ds_ret (de_tup (da_cons (do_of de_str) (da_cons (do_of (de_ix hK hr (do_name 0) (do_of (de_add hK (do_of de_int) (do_of (de_kIndexT hK C.SORTS (by rfl) (do_of (de_ix hK hr (do_name 0) (do_of de_int))) (do_of de_str))))))) da_nil))))
    dss_nil) dss_nil)
    (dss_cons (ds_ret (de_tup (da_cons (do_of de_str) da_nil)))
    dss_nil)))
def m_is_answer : M Fl := mSeq (mAsg (mOp ixD (mSlot 0) (opd (mC (.int 0)))) 2) (mSeq (mIf (mB (mOp eqD (mSlot 2) (opd (mC (.str "end"))))) (mSeq (mRet (mAndV (mOp (inDV false) (opd (mOp ixD (mSlot 1) (opd (mC (.int 0))))) (opd (mTup (aCons (opd (mC (.str "ended"))) (aCons (opd (mC (.str "refused"))) (aNil)))))) (mOp eqD (opd (mSl (mSlot 1) (pIs (opd (mC (.int 1)))) (pNo))) (opd (mSl (mSlot 0) (pIs (opd (mC (.int 1)))) (pIs (opd (mC (.int 4))))))))) (mNx)) (mNx)) (mSeq (mIf (mB (mK1 (inKF true t_ASKED) (mSlot 2))) (mSeq (mRet (mC (.bl false))) (mNx)) (mNx)) (mSeq (mIf (mB (mOp eqD (opd (mOp ixD (mSlot 1) (opd (mC (.int 0))))) (opd (mC (.str "no"))))) (mSeq (mRet (mOp eqD (opd (mOp ixD (mSlot 1) (opd (mC (.int 2))))) (mSlot 0))) (mNx)) (mNx)) (mSeq (mAsgT (mK1 (ixKF t_ASKED) (mSlot 2)) (gTp 2 (gCn (gN 3) (gCn (gN 4) (gNl))))) (mSeq (mRet (mAndV (mOp eqD (opd (mOp ixD (mSlot 1) (opd (mC (.int 0))))) (mSlot 3)) (mOp eqD (opd (mSl (mSlot 1) (pIs (opd (mC (.int 1)))) (pIs (opd (mOp addD (opd (mC (.int 1))) (mSlot 4)))))) (opd (mSl (mSlot 0) (pIs (opd (mC (.int 1)))) (pIs (opd (mOp addD (opd (mC (.int 1))) (mSlot 4))))))))) (mNx))))))
def F_is_answer : Fn := mkF 5 m_is_answer
structure B_is_answer (P : Program) (w : World) (K : PySem.W.Frag) (mg : Str → Option Value) (base : Heap) (T : List Addr) : Prop where
  none : True
theorem a_is_answer {P : Program} {w : World} {K : PySem.W.Frag} {mg : Str → Option Value} {base : Heap} {T : List Addr}  (Z : Free mg) (C : Csts K w mg) (B : B_is_answer P w K mg base T) (D : DefA K mg "is_answer" ["letter", "answer"] s_is_answer) :
    FnA P w K mg base T (0 + 1) "is_answer" ["letter", "answer"] (mkF 5 (m_is_answer )) :=
  fna_of 5 rfl D sc_is_answer fun f cdv A outer s H E g hK hT hz ga hr => by
    have hK := hK.symm
    have nd := (sc_is_answer).nd
    exact (dss_cons (ds_set (i := 2) nd rfl (by first | exact .inl rfl | exact .inr rfl) (de_ix hK hr (do_name 0) (do_of de_int)))
    (dss_cons (ds_if (dt_eq hK hr (do_name 2) (do_of de_str)) (dss_cons (ds_ret (de_and hK (de_in hK hr (do_of (de_ix hK hr (do_name 1) (do_of de_int))) (do_of (de_tup (da_cons (do_of de_str) (da_cons (do_of de_str) da_nil))))) (de_one (de_eq hK hr (do_of (de_slice hK (do_name 1) (dp_some (do_of de_int)) dp_none)) (do_of (de_slice hK (do_name 0) (dp_some (do_of de_int)) (dp_some (do_of de_int))))))))
    dss_nil) dss_nil)
    (dss_cons (ds_if (dt_notInT hK C.ASKED (by rfl) (do_name 2)) (dss_cons (ds_ret de_bl)
    dss_nil) dss_nil)
    (dss_cons (ds_if (dt_eq hK hr (do_of (de_ix hK hr (do_name 1) (do_of de_int))) (do_of de_str)) (dss_cons (ds_ret (de_eq hK hr (do_of (de_ix hK hr (do_name 1) (do_of de_int))) (do_name 0)))
    dss_nil) dss_nil)
    (dss_cons (ds_asg (de_ixT hK C.ASKED (by rfl) (do_name 2)) (dg_tup hK rfl (dgs_cons (dg_name nd rfl (by first | exact .inl rfl | exact .inr rfl)) (dgs_cons (dg_name nd rfl (by first | exact .inl rfl | exact .inr rfl)) dgs_nil))) (nox_tup (nox_cn (nox_name 3) (nox_cn (nox_name 4) nox_nl))))
    (dss_cons (ds_ret (de_and hK (de_eq hK hr (do_of (de_ix hK hr (do_name 1) (do_of de_int))) (do_name 3)) (de_one (de_eq hK hr (do_of (de_slice hK (do_name 1) (dp_some (do_of de_int)) (dp_some (do_of (de_add hK (do_of de_int) (do_name 4)))))) (do_of (de_slice hK (do_name 0) (dp_some (do_of de_int)) (dp_some (do_of (de_add hK (do_of de_int) (do_name 4))))))))))
    dss_nil))))))
def m_fields_of : M Fl := mSeq (mRet (mKG t_FIELDS (opd (mOp ixD (mSlot 0) (opd (mC (.int 0))))) (opd (mTup (aNil))))) (mNx)
def F_fields_of : Fn := mkF 1 m_fields_of
structure B_fields_of (P : Program) (w : World) (K : PySem.W.Frag) (mg : Str → Option Value) (base : Heap) (T : List Addr) : Prop where
  none : True
theorem a_fields_of {P : Program} {w : World} {K : PySem.W.Frag} {mg : Str → Option Value} {base : Heap} {T : List Addr}  (Z : Free mg) (C : Csts K w mg) (B : B_fields_of P w K mg base T) (D : DefA K mg "fields_of" ["letter"] s_fields_of) :
    FnA P w K mg base T (0 + 1) "fields_of" ["letter"] (mkF 1 (m_fields_of )) :=
  fna_of 1 rfl D sc_fields_of fun f cdv A outer s H E g hK hT hz ga hr => by
    have hK := hK.symm
    have nd := (sc_fields_of).nd
    exact (dss_cons (ds_ret (de_getT hK C.FIELDS (by rfl) (do_of (de_ix hK hr (do_name 0) (do_of de_int))) (do_of (de_tup da_nil))))
    dss_nil)
def m_taken_out : M Fl := mSeq (mIf (mNot (mTru (mSlot 0))) (mSeq (mRet (mTup (aCons (opd (mC .non)) (aCons (opd (mTup (aNil))) (aNil))))) (mNx)) (mNx)) (mSeq (mAsg (mOp modD (mSlot 1) (opd (mBui (op1 lenD) (aCons (mSlot 0) (aNil))))) 2) (mSeq (mRet (mTup (aCons (opd (mOp ixD (mSlot 0) (mSlot 2))) (aCons (opd (mOp addD (opd (mSl (mSlot 0) (pNo) (pIs (mSlot 2)))) (opd (mSl (mSlot 0) (pIs (opd (mOp addD (mSlot 2) (opd (mC (.int 1)))))) (pNo))))) (aNil))))) (mNx)))
def F_taken_out : Fn := mkF 3 m_taken_out
structure B_taken_out (P : Program) (w : World) (K : PySem.W.Frag) (mg : Str → Option Value) (base : Heap) (T : List Addr) : Prop where
  none : True
theorem a_taken_out {P : Program} {w : World} {K : PySem.W.Frag} {mg : Str → Option Value} {base : Heap} {T : List Addr}  (Z : Free mg) (C : Csts K w mg) (B : B_taken_out P w K mg base T) (D : DefA K mg "taken_out" ["air", "k"] s_taken_out) :
    FnA P w K mg base T (0 + 1) "taken_out" ["air", "k"] (mkF 3 (m_taken_out )) :=
  fna_of 3 rfl D sc_taken_out fun f cdv A outer s H E g hK hT hz ga hr => by
    have hK := hK.symm
    have nd := (sc_taken_out).nd
    exact (dss_cons (ds_if (dt_not (dt_val hK (do_name 0))) (dss_cons (ds_ret (de_tup (da_cons (do_of de_non) (da_cons (do_of (de_tup da_nil)) da_nil))))
    dss_nil) dss_nil)
    (dss_cons (ds_set (i := 2) nd rfl (by first | exact .inl rfl | exact .inr rfl) (de_mod (do_name 1) (do_of (de_len hK Z (by rfl) (da_cons (do_name 0) da_nil)))))
    (dss_cons (ds_ret (de_tup (da_cons (do_of (de_ix hK hr (do_name 0) (do_name 2))) (da_cons (do_of (de_add hK (do_of (de_slice hK (do_name 0) dp_none (dp_some (do_name 2)))) (do_of (de_slice hK (do_name 0) (dp_some (do_of (de_add hK (do_name 2) (do_of de_int)))) dp_none)))) da_nil))))
    dss_nil)))
def m_doubled : M Fl := mSeq (mRet (mIf (mTru (mSlot 0)) (mOp addD (mSlot 0) (opd (mTup (aCons (opd (mOp ixD (mSlot 0) (opd (mOp modD (mSlot 1) (opd (mBui (op1 lenD) (aCons (mSlot 0) (aNil)))))))) (aNil))))) (mTup (aNil)))) (mNx)
def F_doubled : Fn := mkF 2 m_doubled
structure B_doubled (P : Program) (w : World) (K : PySem.W.Frag) (mg : Str → Option Value) (base : Heap) (T : List Addr) : Prop where
  none : True
theorem a_doubled {P : Program} {w : World} {K : PySem.W.Frag} {mg : Str → Option Value} {base : Heap} {T : List Addr}  (Z : Free mg) (C : Csts K w mg) (B : B_doubled P w K mg base T) (D : DefA K mg "doubled" ["air", "k"] s_doubled) :
    FnA P w K mg base T (0 + 1) "doubled" ["air", "k"] (mkF 2 (m_doubled )) :=
  fna_of 2 rfl D sc_doubled fun f cdv A outer s H E g hK hT hz ga hr => by
    have hK := hK.symm
    have nd := (sc_doubled).nd
    exact (dss_cons (ds_ret (de_if (dt_val hK (do_name 0)) (de_add hK (do_name 0) (do_of (de_tup (da_cons (do_of (de_ix hK hr (do_name 0) (do_of (de_mod (do_name 1) (do_of (de_len hK Z (by rfl) (da_cons (do_name 0) da_nil))))))) da_nil)))) (de_tup da_nil)))
    dss_nil)
def m__law_sorts : M Fl := mSeq (mAsg (mDisp (pCons (opd (mC (.str "take"))) (opd (mC (.str "e"))) (pCons (opd (mC (.str "grant"))) (opd (mC (.str "enem"))) (pCons (opd (mC (.str "free"))) (opd (mC (.str "ene"))) (pCons (opd (mC (.str "bar"))) (opd (mC (.str "enn"))) (pCons (opd (mC (.str "ask"))) (opd (mC (.str "e"))) (pCons (opd (mC (.str "end"))) (opd (mC (.str "mneeo"))) (pCons (opd (mC (.str "taken"))) (opd (mC (.str "e"))) (pNil))))))))) 1) (mSeq (mAsg (mDisp (pCons (opd (mC (.str "granted"))) (opd (mC (.str "enemer"))) (pCons (opd (mC (.str "freed"))) (opd (mC (.str "ene"))) (pCons (opd (mC (.str "barred"))) (opd (mC (.str "en"))) (pCons (opd (mC (.str "no"))) (opd (mC (.str "cl"))) (pCons (opd (mC (.str "told"))) (opd (mC (.str "eccchEb"))) (pCons (opd (mC (.str "work"))) (opd (mC (.str "emneer"))) (pNil)))))))) 2) (mSeq (mAsg (mDisp (pCons (opd (mC (.str "ended"))) (opd (mC (.str "mne"))) (pCons (opd (mC (.str "refused"))) (opd (mC (.str "mne"))) (pNil)))) 3) (mSeq (mRet (mGet2 (mSlot 1) (mSlot 0) (opd (mGet2 (mSlot 2) (mSlot 0) (opd (mGet1 (mSlot 3) (mSlot 0))))))) (mNx))))
def F__law_sorts : Fn := mkF 4 m__law_sorts
structure B__law_sorts (P : Program) (w : World) (K : PySem.W.Frag) (mg : Str → Option Value) (base : Heap) (T : List Addr) : Prop where
  none : True
theorem a__law_sorts {P : Program} {w : World} {K : PySem.W.Frag} {mg : Str → Option Value} {base : Heap} {T : List Addr}  (Z : Free mg) (C : Csts K w mg) (B : B__law_sorts P w K mg base T) (D : DefA K mg "_law_sorts" ["_law_word"] s__law_sorts) :
    FnA P w K mg base T (0 + 1) "_law_sorts" ["_law_word"] (mkF 4 (m__law_sorts )) :=
  fna_of 4 rfl D sc__law_sorts fun f cdv A outer s H E g hK hT hz ga hr => by
    have hK := hK.symm
    have nd := (sc__law_sorts).nd
    exact (dss_cons (ds_set (i := 1) nd rfl (by first | exact .inl rfl | exact .inr rfl) (de_disp (dps_cons (do_of de_str) (do_of de_str) (dps_cons (do_of de_str) (do_of de_str) (dps_cons (do_of de_str) (do_of de_str) (dps_cons (do_of de_str) (do_of de_str) (dps_cons (do_of de_str) (do_of de_str) (dps_cons (do_of de_str) (do_of de_str) (dps_cons (do_of de_str) (do_of de_str) dps_nil)))))))))
    (dss_cons (ds_set (i := 2) nd rfl (by first | exact .inl rfl | exact .inr rfl) (de_disp (dps_cons (do_of de_str) (do_of de_str) (dps_cons (do_of de_str) (do_of de_str) (dps_cons (do_of de_str) (do_of de_str) (dps_cons (do_of de_str) (do_of de_str) (dps_cons (do_of de_str) (do_of de_str) (dps_cons (do_of de_str) (do_of de_str) dps_nil))))))))
    (dss_cons (ds_set (i := 3) nd rfl (by first | exact .inl rfl | exact .inr rfl) (de_disp (dps_cons (do_of de_str) (do_of de_str) (dps_cons (do_of de_str) (do_of de_str) dps_nil))))
    (dss_cons (ds_ret (de_get2 hr (do_name 1) (do_name 0) (do_of (de_get2 hr (do_name 2) (do_name 0) (do_of (de_get1 hr (do_name 3) (do_name 0)))))))
    dss_nil))))
def m__law_all_words : M Fl := mSeq (mAsg (mLst (aCons (opd (mC (.str "take"))) (aCons (opd (mC (.str "grant"))) (aCons (opd (mC (.str "free"))) (aCons (opd (mC (.str "bar"))) (aCons (opd (mC (.str "ask"))) (aCons (opd (mC (.str "end"))) (aCons (opd (mC (.str "taken"))) (aCons (opd (mC (.str "granted"))) (aCons (opd (mC (.str "freed"))) (aCons (opd (mC (.str "barred"))) (aCons (opd (mC (.str "no"))) (aCons (opd (mC (.str "told"))) (aNil)))))))))))))) 0) (mSeq (mRet (mOp addD (mSlot 0) (opd (mLst (aCons (opd (mC (.str "work"))) (aCons (opd (mC (.str "ended"))) (aCons (opd (mC (.str "refused"))) (aNil)))))))) (mNx))
def F__law_all_words : Fn := mkF 1 m__law_all_words
structure B__law_all_words (P : Program) (w : World) (K : PySem.W.Frag) (mg : Str → Option Value) (base : Heap) (T : List Addr) : Prop where
  none : True
theorem a__law_all_words {P : Program} {w : World} {K : PySem.W.Frag} {mg : Str → Option Value} {base : Heap} {T : List Addr}  (Z : Free mg) (C : Csts K w mg) (B : B__law_all_words P w K mg base T) (D : DefA K mg "_law_all_words" [] s__law_all_words) :
    FnA P w K mg base T (0 + 1) "_law_all_words" [] (mkF 1 (m__law_all_words )) :=
  fna_of 1 rfl D sc__law_all_words fun f cdv A outer s H E g hK hT hz ga hr => by
    have hK := hK.symm
    have nd := (sc__law_all_words).nd
    exact (dss_cons (ds_set (i := 0) nd rfl (by first | exact .inl rfl | exact .inr rfl) (de_lst (da_cons (do_of de_str) (da_cons (do_of de_str) (da_cons (do_of de_str) (da_cons (do_of de_str) (da_cons (do_of de_str) (da_cons (do_of de_str) (da_cons (do_of de_str) (da_cons (do_of de_str) (da_cons (do_of de_str) (da_cons (do_of de_str) (da_cons (do_of de_str) (da_cons (do_of de_str) da_nil))))))))))))))
    (dss_cons (ds_ret (de_add hK (do_name 0) (do_of (de_lst (da_cons (do_of de_str) (da_cons (do_of de_str) (da_cons (do_of de_str) da_nil)))))))
    dss_nil))
def m__law_answers : M Fl := mSeq (mPar 2 3 (mOp ixD (mSlot 0) (opd (mC (.int 0)))) (mOp ixD (mSlot 1) (opd (mC (.int 0))))) (mSeq (mIf (mB (mOp eqD (mSlot 3) (opd (mC (.str "no"))))) (mSeq (mRet (mOp eqD (opd (mOp ixD (mSlot 1) (opd (mC (.int 2))))) (mSlot 0))) (mNx)) (mNx)) (mSeq (mIf (mB (mOp eqD (mSlot 2) (opd (mC (.str "end"))))) (mSeq (mRet (mAndV (mOp (inDV false) (mSlot 3) (opd (mTup (aCons (opd (mC (.str "ended"))) (aCons (opd (mC (.str "refused"))) (aNil)))))) (mOp eqD (opd (mSl (mSlot 1) (pIs (opd (mC (.int 1)))) (pNo))) (opd (mSl (mSlot 0) (pIs (opd (mC (.int 1)))) (pIs (opd (mC (.int 4))))))))) (mNx)) (mNx)) (mSeq (mAsg (mDisp (pCons (opd (mC (.str "take"))) (opd (mTup (aCons (opd (mC (.str "taken"))) (aCons (opd (mC (.int 1))) (aNil))))) (pCons (opd (mC (.str "grant"))) (opd (mTup (aCons (opd (mC (.str "granted"))) (aCons (opd (mC (.int 4))) (aNil))))) (pCons (opd (mC (.str "free"))) (opd (mTup (aCons (opd (mC (.str "freed"))) (aCons (opd (mC (.int 3))) (aNil))))) (pNil))))) 4) (mSeq (mAsgH (mTup (aCons (opd (mTup (aCons (opd (mC (.str "barred"))) (aCons (opd (mC (.int 2))) (aNil))))) (aCons (opd (mTup (aCons (opd (mC (.str "told"))) (aCons (opd (mC (.int 1))) (aNil))))) (aNil)))) (gTp 2 (gCn (gSb 4 (opd (mC (.str "bar")))) (gCn (gSb 4 (opd (mC (.str "ask")))) (gNl))))) (mSeq (mIf (mOr (mB (mOp (inDV true) (mSlot 2) (mSlot 4))) (mB (mOp neD (mSlot 3) (opd (mOp ixD (opd (mOp ixD (mSlot 4) (mSlot 2))) (opd (mC (.int 0)))))))) (mSeq (mRet (mC (.bl false))) (mNx)) (mNx)) (mSeq (mRet (mOp eqD (opd (mSl (mSlot 1) (pIs (opd (mC (.int 1)))) (pIs (opd (mOp addD (opd (mOp ixD (opd (mOp ixD (mSlot 4) (mSlot 2))) (opd (mC (.int 1))))) (opd (mC (.int 1)))))))) (opd (mSl (mSlot 0) (pIs (opd (mC (.int 1)))) (pIs (opd (mOp addD (opd (mOp ixD (opd (mOp ixD (mSlot 4) (mSlot 2))) (opd (mC (.int 1))))) (opd (mC (.int 1)))))))))) (mNx)))))))
def F__law_answers : Fn := mkF 5 m__law_answers
structure B__law_answers (P : Program) (w : World) (K : PySem.W.Frag) (mg : Str → Option Value) (base : Heap) (T : List Addr) : Prop where
  none : True
theorem a__law_answers {P : Program} {w : World} {K : PySem.W.Frag} {mg : Str → Option Value} {base : Heap} {T : List Addr}  (Z : Free mg) (C : Csts K w mg) (B : B__law_answers P w K mg base T) (D : DefA K mg "_law_answers" ["_law_letter", "_law_answer"] s__law_answers) :
    FnA P w K mg base T (0 + 1) "_law_answers" ["_law_letter", "_law_answer"] (mkF 5 (m__law_answers )) :=
  fna_of 5 rfl D sc__law_answers fun f cdv A outer s H E g hK hT hz ga hr => by
    have hK := hK.symm
    have nd := (sc__law_answers).nd
    exact (dss_cons (ds_par (i := 2) (j := 3) rfl nd rfl rfl (by decide) rfl rfl (de_ix hK hr (do_name 0) (do_of de_int)) (de_ix hK hr (do_name 1) (do_of de_int)))
    (dss_cons (ds_if (dt_eq hK hr (do_name 3) (do_of de_str)) (dss_cons (ds_ret (de_eq hK hr (do_of (de_ix hK hr (do_name 1) (do_of de_int))) (do_name 0)))
    dss_nil) dss_nil)
    (dss_cons (ds_if (dt_eq hK hr (do_name 2) (do_of de_str)) (dss_cons (ds_ret (de_and hK (de_in hK hr (do_name 3) (do_of (de_tup (da_cons (do_of de_str) (da_cons (do_of de_str) da_nil))))) (de_one (de_eq hK hr (do_of (de_slice hK (do_name 1) (dp_some (do_of de_int)) dp_none)) (do_of (de_slice hK (do_name 0) (dp_some (do_of de_int)) (dp_some (do_of de_int))))))))
    dss_nil) dss_nil)
    (dss_cons (ds_set (i := 4) nd rfl (by first | exact .inl rfl | exact .inr rfl) (de_disp (dps_cons (do_of de_str) (do_of (de_tup (da_cons (do_of de_str) (da_cons (do_of de_int) da_nil)))) (dps_cons (do_of de_str) (do_of (de_tup (da_cons (do_of de_str) (da_cons (do_of de_int) da_nil)))) (dps_cons (do_of de_str) (do_of (de_tup (da_cons (do_of de_str) (da_cons (do_of de_int) da_nil)))) dps_nil)))))
    (dss_cons (ds_asgH (de_tup (da_cons (do_of (de_tup (da_cons (do_of de_str) (da_cons (do_of de_int) da_nil)))) (da_cons (do_of (de_tup (da_cons (do_of de_str) (da_cons (do_of de_int) da_nil)))) da_nil))) (dh_tup hK rfl (dhs_cons (dh_sub hr (pv 4) (do_of de_str)) (dhs_cons (dh_sub hr (pv 4) (do_of de_str)) dhs_nil))) (nox_tup (nox_cn (nox_sb (nox_c)) (nox_cn (nox_sb (nox_c)) nox_nl))))
    (dss_cons (ds_if (dt_bool (dw_or (dt_notIn hK hr (do_name 2) (do_name 4)) (dw_or1 (dt_ne hK hr (do_name 3) (do_of (de_ix hK hr (do_of (de_ix hK hr (do_name 4) (do_name 2))) (do_of de_int))))))) (dss_cons (ds_ret de_bl)
    dss_nil) dss_nil)
    (dss_cons (ds_ret (de_eq hK hr (do_of (de_slice hK (do_name 1) (dp_some (do_of de_int)) (dp_some (do_of (de_add hK (do_of (de_ix hK hr (do_of (de_ix hK hr (do_name 4) (do_name 2))) (do_of de_int))) (do_of de_int)))))) (do_of (de_slice hK (do_name 0) (dp_some (do_of de_int)) (dp_some (do_of (de_add hK (do_of (de_ix hK hr (do_of (de_ix hK hr (do_name 4) (do_name 2))) (do_of de_int))) (do_of de_int))))))))
    dss_nil)))))))
def m__law_any_order : M Fl := mSeq (mAsg (mBui (op1 lstF') (aCons (mSlot 1) (aNil))) 2) (mSeq (mRet (mLc [3] (mRg rg1 (aCons (opd (mBui (op1 lenD) (aCons (mSlot 2) (aNil)))) (aNil))) (gN 3) (mYes) (mMeth isOwL 2 (aCons (opd (mCall F__law_pick (aCons (mSlot 0) (aCons (opd (mBui (op1 lenD) (aCons (mSlot 2) (aNil)))) (aNil))))) (aNil)) popAtF))) (mNx))
def F__law_any_order : Fn := mkF 4 m__law_any_order
structure B__law_any_order (P : Program) (w : World) (K : PySem.W.Frag) (mg : Str → Option Value) (base : Heap) (T : List Addr) : Prop where
  _law_pick : FnA P w K mg base T 1 "_law_pick" ["_law_source", "_law_most"] F__law_pick
theorem a__law_any_order {P : Program} {w : World} {K : PySem.W.Frag} {mg : Str → Option Value} {base : Heap} {T : List Addr}  (Z : Free mg) (C : Csts K w mg) (B : B__law_any_order P w K mg base T) (D : DefA K mg "_law_any_order" ["_law_source", "_law_things"] s__law_any_order) :
    FnA P w K mg base T (1 + 1) "_law_any_order" ["_law_source", "_law_things"] (mkF 4 (m__law_any_order )) :=
  fna_of 4 rfl D sc__law_any_order fun f cdv A outer s H E g hK hT hz ga hr => by
    have hK := hK.symm
    have nd := (sc__law_any_order).nd
    exact (dss_cons (ds_set (i := 2) nd rfl (by first | exact .inl rfl | exact .inr rfl) (de_list hK Z (by rfl) (da_cons (do_name 1) da_nil)))
    (dss_cons (ds_ret (de_lc (own := [("_law_lap", 3)]) rfl nd (di_range1 (by rfl) Z.range (da_cons (do_of (de_len hK Z (by rfl) (da_cons (do_name 2) da_nil))) da_nil)) (blkOk_by (N := n__law_any_order) (sc := defScope s__law_any_order) (by decide +kernel)) (by decide) (nox_name 3) (fun _ _ _ _ _ => (dg_name nd rfl (by first | exact .inl rfl | exact .inr rfl))) (fun _ _ _ _ _ => have hz : (g.nx).rz = false := rfl; dts_nil) (fun _ _ _ _ _ => have hz : (g.nx).rz = false := rfl; (de_popAt hK (pv 2) (da_cons (do_of (de_callT (j := 1) hK hT B._law_pick ga hr (by decide) (by rfl) (da_cons (do_name 0) (da_cons (do_of (de_len hK Z (by rfl) (da_cons (do_name 2) da_nil))) da_nil)) (alen_cons (alen_cons alen_nil)) hz)) da_nil)))))
    dss_nil))
def m__law_any_value : M Fl := mSeq (mAsg (mCall F__law_pick (aCons (mSlot 0) (aCons (opd (mC (.int 5))) (aNil)))) 1) (mSeq (mIf (mB (mOp eqD (mSlot 1) (opd (mC (.int 0))))) (mSeq (mRet (mC .non)) (mNx)) (mNx)) (mSeq (mIf (mB (mOp ltI (mSlot 1) (opd (mC (.int 3))))) (mSeq (mRet (mOp ixD (opd (mLst (aCons (opd (mOp subD (opd (mCall F__law_pick (aCons (mSlot 0) (aCons (opd (mC (.int 9))) (aNil))))) (opd (mC (.int 3))))) (aCons (opd (mCall F__law_pick (aCons (mSlot 0) (aCons (opd (mOp powD (opd (mC (.int 10))) (opd (mC (.int 12))))) (aNil))))) (aNil))))) (opd (mOp subD (mSlot 1) (opd (mC (.int 1))))))) (mNx)) (mNx)) (mSeq (mRet (mM1 joinO (opd (mC (.str ""))) (opd (mLc [2] (mRg rg1 (aCons (opd (mCall F__law_pick (aCons (mSlot 0) (aCons (opd (mOp ixD (opd (mLst (aCons (opd (mC (.int 4))) (aCons (opd (mC (.int 25))) (aNil))))) (opd (mOp subD (mSlot 1) (opd (mC (.int 3))))))) (aNil))))) (aNil))) (gN 2) (mYes) (mOp ixD (opd (mC (.str "ab Z09-_"))) (opd (mCall F__law_pick (aCons (mSlot 0) (aCons (opd (mC (.int 8))) (aNil)))))))))) (mNx))))
def F__law_any_value : Fn := mkF 3 m__law_any_value
structure B__law_any_value (P : Program) (w : World) (K : PySem.W.Frag) (mg : Str → Option Value) (base : Heap) (T : List Addr) : Prop where
  _law_pick : FnA P w K mg base T 1 "_law_pick" ["_law_source", "_law_most"] F__law_pick
theorem a__law_any_value {P : Program} {w : World} {K : PySem.W.Frag} {mg : Str → Option Value} {base : Heap} {T : List Addr}  (Z : Free mg) (C : Csts K w mg) (B : B__law_any_value P w K mg base T) (D : DefA K mg "_law_any_value" ["_law_source"] s__law_any_value) :
    FnA P w K mg base T (1 + 1) "_law_any_value" ["_law_source"] (mkF 3 (m__law_any_value )) :=
  fna_of 3 rfl D sc__law_any_value fun f cdv A outer s H E g hK hT hz ga hr => by
    have hK := hK.symm
    have nd := (sc__law_any_value).nd
    exact (dss_cons (ds_set (i := 1) nd rfl (by first | exact .inl rfl | exact .inr rfl) (de_callT (j := 1) hK hT B._law_pick ga hr (by decide) (by rfl) (da_cons (do_name 0) (da_cons (do_of de_int) da_nil)) (alen_cons (alen_cons alen_nil)) hz))
    (dss_cons (ds_if (dt_eq hK hr (do_name 1) (do_of de_int)) (dss_cons (ds_ret de_non)
    dss_nil) dss_nil)
    (dss_cons (ds_if (dt_cmp op_lt o2_lt (do_name 1) (do_of de_int)) (dss_cons (ds_ret (de_ix hK hr (do_of (de_lst (da_cons (do_of (de_sub (do_of (de_callT (j := 1) hK hT B._law_pick ga hr (by decide) (by rfl) (da_cons (do_name 0) (da_cons (do_of de_int) da_nil)) (alen_cons (alen_cons alen_nil)) hz)) (do_of de_int))) (da_cons (do_of (de_callT (j := 1) hK hT B._law_pick ga hr (by decide) (by rfl) (da_cons (do_name 0) (da_cons (do_of (de_pow (do_of de_int) (do_of de_int))) da_nil)) (alen_cons (alen_cons alen_nil)) hz)) da_nil)))) (do_of (de_sub (do_name 1) (do_of de_int)))))
    dss_nil) dss_nil)
    (dss_cons (ds_ret (de_join hK (do_of de_str) (do_of (de_lc (own := [("_law_lap", 2)]) rfl nd (di_range1 (by rfl) Z.range (da_cons (do_of (de_callT (j := 1) hK hT B._law_pick ga hr (by decide) (by rfl) (da_cons (do_name 0) (da_cons (do_of (de_ix hK hr (do_of (de_lst (da_cons (do_of de_int) (da_cons (do_of de_int) da_nil)))) (do_of (de_sub (do_name 1) (do_of de_int))))) da_nil)) (alen_cons (alen_cons alen_nil)) hz)) da_nil)) (blkOk_by (N := n__law_any_value) (sc := defScope s__law_any_value) (by decide +kernel)) (by decide) (nox_name 2) (fun _ _ _ _ _ => (dg_name nd rfl (by first | exact .inl rfl | exact .inr rfl))) (fun _ _ _ _ _ => have hz : (g.nx).rz = false := rfl; dts_nil) (fun _ _ _ _ _ => have hz : (g.nx).rz = false := rfl; (de_ix hK hr (do_of de_str) (do_of (de_callT (j := 1) hK hT B._law_pick ga hr (by decide) (by rfl) (da_cons (do_name 0) (da_cons (do_of de_int) da_nil)) (alen_cons (alen_cons alen_nil)) hz))))))))
    dss_nil))))
def m_unanswered : M Fl := mSeq (mAsg (mLst (aNil)) 2) (mSeq (mSq (mVar 0) >>= mFor (gN 3) (mSeq (mIf (mAnd (mB (mOp eqD (opd (mCall F_goes_to (aCons (mSlot 3) (aNil)))) (opd (mTup (aCons (opd (mC (.str "store"))) (aNil)))))) (mB (mOp (inDV true) (mSlot 3) (mSlot 2)))) (mSeq (mIf (mNot (mTru (opd (mAg true [4] (mSq (mVar 1)) (gN 4) (mYes) (mCall F_is_answer (aCons (mSlot 3) (aCons (mSlot 4) (aNil)))))))) (mSeq (mDrop (mMeth isOwL 2 (aCons (mSlot 3) (aNil)) appF)) (mNx)) (mNx)) (mNx)) (mNx)) (mNx))) (mSeq (mRet (mBui (op1 tupF) (aCons (mSlot 2) (aNil)))) (mNx)))
def F_unanswered : Fn := mkF 5 m_unanswered
structure B_unanswered (P : Program) (w : World) (K : PySem.W.Frag) (mg : Str → Option Value) (base : Heap) (T : List Addr) : Prop where
  goes_to : FnA P w K mg base T 1 "goes_to" ["letter"] F_goes_to
  is_answer : FnA P w K mg base T 1 "is_answer" ["letter", "answer"] F_is_answer
theorem a_unanswered {P : Program} {w : World} {K : PySem.W.Frag} {mg : Str → Option Value} {base : Heap} {T : List Addr} {P_unanswered : Addr}  (Z : Free mg) (C : Csts K w mg) (B : B_unanswered P w K mg base T) (D : DefC K mg base "unanswered" ["sent", "heard"] s_unanswered P_unanswered) (hT0 : P_unanswered ∈ T) :
    FnA P w K mg base T (2 + 1) "unanswered" ["sent", "heard"] (mkF 5 (m_unanswered )) :=
  fna_ofC 5 rfl D sc_unanswered fun f c A outer s H E g tb hK hT hz ga hr => by
    have hK := hK.symm
    have nd := (sc_unanswered).nd
    have hP : g.T = T → P_unanswered ∈ g.T := fun h => by rw [h]; exact hT0
    exact (dss_cons (ds_set (i := 2) nd rfl (by first | exact .inl rfl | exact .inr rfl) (de_lst da_nil))
    (dss_cons (ds_for PassesOwn.never rfl (di_seq hK (de_name 0)) (dg_name nd rfl (by first | exact .inl rfl | exact .inr rfl)) (nox_name 3) (dss_cons (ds_if (dt_bool (dw_and (dt_eq hK hr (do_of (de_callT (j := 1) hK hT B.goes_to ga hr (by decide) (by rfl) (da_cons (do_name 3) da_nil) (alen_cons alen_nil) hz)) (do_of (de_tup (da_cons (do_of de_str) da_nil)))) (dw_and1 (dt_notIn hK hr (do_name 3) (do_name 2))))) (dss_cons (ds_if (dt_not (dt_val hK (do_of (de_anyX hK (k := 1) (P := P_unanswered) (own := [("answer", 4)]) hr nd (hP hT) ⟨_, tb, rfl⟩ ⟨blkOk_by (N := n_unanswered) (sc := defScope s_unanswered) (by decide +kernel), (by decide +kernel), rfl, rfl⟩ (di_seq hK (de_name 1)) (by decide) (nox_name 4) ⟨fun _ _ _ _ _ _ _ hr ga_ => (dg_name nd rfl (by first | exact .inl rfl | exact .inr rfl)), fun _ _ _ _ _ _ _ hr ga_ => have hz : (g.nx).rz = false := rfl; have ga := ga_.trans ga; dts_nil, fun _ _ _ _ _ _ _ hr ga_ => have hz : (g.nx).rz = false := rfl; have ga := ga_.trans ga; (de_callT (j := 1) hK hT B.is_answer ga hr (by decide) (by rfl) (da_cons (do_name 3) (da_cons (do_name 4) da_nil)) (alen_cons (alen_cons alen_nil)) hz)⟩ (by rfl) Z.any)))) (dss_cons (ds_expr (de_append hK (pv 2) (da_cons (do_name 3) da_nil)))
    dss_nil) dss_nil)
    dss_nil) dss_nil)
    dss_nil))
    (dss_cons (ds_ret (de_tuple hK Z (by rfl) (da_cons (do_name 2) da_nil)))
    dss_nil)))
def m_for_whom : M Fl := mSeq (mRet (mTg [2] (mSq (mVar 0)) (gN 2) (mB (mOp eqD (opd (mCall F_goes_to (aCons (mSlot 2) (aNil)))) (mSlot 1))) (mVar 2))) (mNx)
def F_for_whom : Fn := mkF 3 m_for_whom
structure B_for_whom (P : Program) (w : World) (K : PySem.W.Frag) (mg : Str → Option Value) (base : Heap) (T : List Addr) : Prop where
  goes_to : FnA P w K mg base T 1 "goes_to" ["letter"] F_goes_to
theorem a_for_whom {P : Program} {w : World} {K : PySem.W.Frag} {mg : Str → Option Value} {base : Heap} {T : List Addr} {P_for_whom : Addr}  (Z : Free mg) (C : Csts K w mg) (B : B_for_whom P w K mg base T) (D : DefC K mg base "for_whom" ["air", "whom"] s_for_whom P_for_whom) (hT0 : P_for_whom ∈ T) :
    FnA P w K mg base T (2 + 1) "for_whom" ["air", "whom"] (mkF 3 (m_for_whom )) :=
  fna_ofC 3 rfl D sc_for_whom fun f c A outer s H E g tb hK hT hz ga hr => by
    have hK := hK.symm
    have nd := (sc_for_whom).nd
    have hP : g.T = T → P_for_whom ∈ g.T := fun h => by rw [h]; exact hT0
    exact (dss_cons (ds_ret (de_tupX (k := 1) (P := P_for_whom) (own := [("letter", 2)]) hr nd (hP hT) ⟨_, tb, rfl⟩ ⟨blkOk_by (N := n_for_whom) (sc := defScope s_for_whom) (by decide +kernel), (by decide +kernel), rfl, rfl⟩ (di_seq hK (de_name 0)) (by decide) (nox_name 2) ⟨fun _ _ _ _ _ _ _ hr ga_ => (dg_name nd rfl (by first | exact .inl rfl | exact .inr rfl)), fun _ _ _ _ _ _ _ hr ga_ => have hz : (g.nx).rz = false := rfl; have ga := ga_.trans ga; (dts_one (dt_eq hK hr (do_of (de_callT (j := 1) hK hT B.goes_to ga hr (by decide) (by rfl) (da_cons (do_name 2) da_nil) (alen_cons alen_nil) hz)) (do_name 1))), fun _ _ _ _ _ _ _ hr ga_ => have hz : (g.nx).rz = false := rfl; have ga := ga_.trans ga; (de_name 2)⟩ (by rfl) Z.tuple))
    dss_nil)
def m__law_draw_ending : M Fl := mSeq (mPar 1 2 (mCall F__law_pick (aCons (mSlot 0) (aCons (opd (mC (.int 9))) (aNil)))) (mOp ixD (opd (mLst (aCons (opd (mC (.str "done"))) (aCons (opd (mC (.str "failed"))) (aNil))))) (opd (mCall F__law_pick (aCons (mSlot 0) (aCons (opd (mC (.int 2))) (aNil))))))) (mSeq (mAsg (mIf (mB (mOp eqD (mSlot 2) (opd (mC (.str "done"))))) (mCall F__law_any_value (aCons (mSlot 0) (aNil))) (mC .non)) 3) (mSeq (mRet (mTup (aCons (mSlot 2) (aCons (opd (mOp addD (opd (mC (.int 1))) (opd (mCall F__law_pick (aCons (mSlot 0) (aCons (opd (mC (.int 9))) (aNil))))))) (aCons (mSlot 1) (aCons (opd (mCall F__law_pick (aCons (mSlot 0) (aCons (opd (mC (.int 9))) (aNil))))) (aCons (opd (mOp addD (opd (mOp addD (mSlot 1) (opd (mC (.int 1))))) (opd (mCall F__law_pick (aCons (mSlot 0) (aCons (opd (mC (.int 5))) (aNil))))))) (aCons (mSlot 3) (aNil))))))))) (mNx)))
def F__law_draw_ending : Fn := mkF 4 m__law_draw_ending
structure B__law_draw_ending (P : Program) (w : World) (K : PySem.W.Frag) (mg : Str → Option Value) (base : Heap) (T : List Addr) : Prop where
  _law_any_value : FnA P w K mg base T 2 "_law_any_value" ["_law_source"] F__law_any_value
  _law_pick : FnA P w K mg base T 1 "_law_pick" ["_law_source", "_law_most"] F__law_pick
theorem a__law_draw_ending {P : Program} {w : World} {K : PySem.W.Frag} {mg : Str → Option Value} {base : Heap} {T : List Addr}  (Z : Free mg) (C : Csts K w mg) (B : B__law_draw_ending P w K mg base T) (D : DefA K mg "_law_draw_ending" ["_law_source"] s__law_draw_ending) :
    FnA P w K mg base T (2 + 1) "_law_draw_ending" ["_law_source"] (mkF 4 (m__law_draw_ending )) :=
  fna_of 4 rfl D sc__law_draw_ending fun f cdv A outer s H E g hK hT hz ga hr => by
    have hK := hK.symm
    have nd := (sc__law_draw_ending).nd
    exact (dss_cons (ds_par (i := 1) (j := 2) rfl nd rfl rfl (by decide) rfl rfl (de_callT (j := 1) hK hT B._law_pick ga hr (by decide) (by rfl) (da_cons (do_name 0) (da_cons (do_of de_int) da_nil)) (alen_cons (alen_cons alen_nil)) hz) (de_ix hK hr (do_of (de_lst (da_cons (do_of de_str) (da_cons (do_of de_str) da_nil)))) (do_of (de_callT (j := 1) hK hT B._law_pick ga hr (by decide) (by rfl) (da_cons (do_name 0) (da_cons (do_of de_int) da_nil)) (alen_cons (alen_cons alen_nil)) hz))))
    (dss_cons (ds_set (i := 3) nd rfl (by first | exact .inl rfl | exact .inr rfl) (de_if (dt_eq hK hr (do_name 2) (do_of de_str)) (de_callT (j := 2) hK hT B._law_any_value ga hr (by decide) (by rfl) (da_cons (do_name 0) da_nil) (alen_cons alen_nil) hz) de_non))
    (dss_cons (ds_ret (de_tup (da_cons (do_name 2) (da_cons (do_of (de_add hK (do_of de_int) (do_of (de_callT (j := 1) hK hT B._law_pick ga hr (by decide) (by rfl) (da_cons (do_name 0) (da_cons (do_of de_int) da_nil)) (alen_cons (alen_cons alen_nil)) hz)))) (da_cons (do_name 1) (da_cons (do_of (de_callT (j := 1) hK hT B._law_pick ga hr (by decide) (by rfl) (da_cons (do_name 0) (da_cons (do_of de_int) da_nil)) (alen_cons (alen_cons alen_nil)) hz)) (da_cons (do_of (de_add hK (do_of (de_add hK (do_name 1) (do_of de_int))) (do_of (de_callT (j := 1) hK hT B._law_pick ga hr (by decide) (by rfl) (da_cons (do_name 0) (da_cons (do_of de_int) da_nil)) (alen_cons (alen_cons alen_nil)) hz)))) (da_cons (do_name 3) da_nil))))))))
    dss_nil)))
def m__law_draw_part (F0__law_draw_letter : Fn) : M Fl := mSeq (mIf (mB (mOp (inDV false) (mSlot 1) (opd (mC (.str "ec"))))) (mSeq (mRet (mOp addD (opd (mBui (op1 intF) (aCons (opd (mOp eqD (mSlot 1) (opd (mC (.str "e"))))) (aNil)))) (opd (mCall F__law_pick (aCons (mSlot 0) (aCons (opd (mC (.int 5))) (aNil))))))) (mNx)) (mNx)) (mSeq (mIf (mB (mOp (inDV false) (mSlot 1) (opd (mC (.str "nm"))))) (mSeq (mRet (mIf (mB (mOp eqD (mSlot 1) (opd (mC (.str "n"))))) (mOp ixD (opd (mLst (aCons (opd (mC (.str "a"))) (aCons (opd (mC (.str "b"))) (aCons (opd (mC (.str "c"))) (aCons (opd (mC (.str "abcdefgh"))) (aNil))))))) (opd (mCall F__law_pick (aCons (mSlot 0) (aCons (opd (mC (.int 4))) (aNil)))))) (mCall F__law_pick (aCons (mSlot 0) (aCons (opd (mC (.int 8))) (aNil)))))) (mNx)) (mNx)) (mSeq (mIf (mB (mOp eqD (mSlot 1) (opd (mC (.str "o"))))) (mSeq (mRet (mOp ixD (opd (mLst (aCons (opd (mTup (aCons (opd (mC (.str "failed"))) (aNil)))) (aCons (opd (mTup (aCons (opd (mC (.str "done"))) (aCons (opd (mCall F__law_any_value (aCons (mSlot 0) (aNil)))) (aNil))))) (aNil))))) (opd (mCall F__law_pick (aCons (mSlot 0) (aCons (opd (mC (.int 2))) (aNil))))))) (mNx)) (mNx)) (mSeq (mIf (mB (mOp eqD (mSlot 1) (opd (mC (.str "l"))))) (mSeq (mRet (mCall F0__law_draw_letter (aCons (mSlot 0) (aCons (opd (mLst (aCons (opd (mC (.str "take"))) (aCons (opd (mC (.str "grant"))) (aCons (opd (mC (.str "free"))) (aCons (opd (mC (.str "bar"))) (aCons (opd (mC (.str "ask"))) (aNil)))))))) (aNil))))) (mNx)) (mNx)) (mSeq (mPar 2 3 (mBui (op1 sortF) (aCons (opd (mSl (opd (mCall F__law_any_order (aCons (mSlot 0) (aCons (opd (mLst (aCons (opd (mC (.str "a"))) (aCons (opd (mC (.str "b"))) (aCons (opd (mC (.str "c"))) (aCons (opd (mC (.str "abcdefgh"))) (aNil))))))) (aNil))))) (pNo) (pIs (opd (mCall F__law_pick (aCons (mSlot 0) (aCons (opd (mC (.int 4))) (aNil)))))))) (aNil))) (mLst (aNil))) (mSeq (mSq (mVar 2) >>= mFor (gN 4) (mSeq (mIf (mB (mOp eqD (mSlot 1) (opd (mC (.str "r"))))) (mSeq (mDrop (mMeth isOwL 3 (aCons (opd (mTup (aCons (mSlot 4) (aCons (opd (mCall F__law_any_value (aCons (mSlot 0) (aNil)))) (aNil))))) (aNil)) appF)) (mNx)) (mSeq (mIf (mB (mOp eqD (mSlot 1) (opd (mC (.str "h"))))) (mSeq (mAsg (mTup (aCons (opd (mOp addD (opd (mC (.int 1))) (opd (mCall F__law_pick (aCons (mSlot 0) (aCons (opd (mC (.int 9))) (aNil))))))) (aCons (opd (mCall F__law_pick (aCons (mSlot 0) (aCons (opd (mC (.int 8))) (aNil))))) (aCons (opd (mOp addD (opd (mC (.int 1))) (opd (mCall F__law_pick (aCons (mSlot 0) (aCons (opd (mC (.int 5))) (aNil))))))) (aNil))))) 5) (mSeq (mDrop (mMeth isOwL 3 (aCons (opd (mTup (aCons (mSlot 4) (aCons (opd (mOp addD (mSlot 5) (opd (mTup (aCons (opd (mCall F__law_pick (aCons (mSlot 0) (aCons (opd (mC (.int 9))) (aNil))))) (aCons (opd (mCall F__law_pick (aCons (mSlot 0) (aCons (opd (mC (.int 9))) (aNil))))) (aNil))))))) (aNil))))) (aNil)) appF)) (mNx))) (mSeq (mIf (mB (mOp eqD (mSlot 1) (opd (mC (.str "b"))))) (mSeq (mDrop (mMeth isOwL 3 (aCons (opd (mTup (aCons (mSlot 4) (aCons (opd (mOp ixD (opd (mLst (aCons (opd (mC (.str "a"))) (aCons (opd (mC (.str "z"))) (aNil))))) (opd (mCall F__law_pick (aCons (mSlot 0) (aCons (opd (mC (.int 2))) (aNil))))))) (aNil))))) (aNil)) appF)) (mNx)) (mSeq (mDrop (mMeth isOwL 3 (aCons (opd (mTup (aCons (mSlot 4) (aCons (opd (mBui (op1 tupF) (aCons (opd (mLc [6] (mRg rg1 (aCons (opd (mOp addD (opd (mC (.int 1))) (opd (mCall F__law_pick (aCons (mSlot 0) (aCons (opd (mC (.int 3))) (aNil))))))) (aNil))) (gN 6) (mYes) (mCall F__law_draw_ending (aCons (mSlot 0) (aNil))))) (aNil)))) (aNil))))) (aNil)) appF)) (mNx))) (mNx))) (mNx))) (mNx))) (mSeq (mRet (mBui (op1 tupF) (aCons (mSlot 3) (aNil)))) (mNx)))))))
structure B__law_draw_part (P : Program) (w : World) (K : PySem.W.Frag) (mg : Str → Option Value) (base : Heap) (T : List Addr) : Prop where
  _law_any_order : FnA P w K mg base T 2 "_law_any_order" ["_law_source", "_law_things"] F__law_any_order
  _law_any_value : FnA P w K mg base T 2 "_law_any_value" ["_law_source"] F__law_any_value
  _law_draw_ending : FnA P w K mg base T 3 "_law_draw_ending" ["_law_source"] F__law_draw_ending
  _law_pick : FnA P w K mg base T 1 "_law_pick" ["_law_source", "_law_most"] F__law_pick
theorem a__law_draw_part {P : Program} {w : World} {K : PySem.W.Frag} {mg : Str → Option Value} {base : Heap} {T : List Addr} {k : Nat} {F0__law_draw_letter : Fn} (A0__law_draw_letter : FnA P w K mg base T k "_law_draw_letter" ["_law_source", "_law_words"] F0__law_draw_letter) (hk : 3 ≤ k) (Z : Free mg) (C : Csts K w mg) (B : B__law_draw_part P w K mg base T) (D : DefA K mg "_law_draw_part" ["_law_source", "_law_sort"] s__law_draw_part) :
    FnA P w K mg base T (k + 1) "_law_draw_part" ["_law_source", "_law_sort"] (mkF 7 (m__law_draw_part F0__law_draw_letter)) :=
  fna_of 7 rfl D sc__law_draw_part fun f cdv A outer s H E g hK hT hz ga hr => by
    have hK := hK.symm
    have nd := (sc__law_draw_part).nd
    exact (dss_cons (ds_if (dt_in hK hr (do_name 1) (do_of de_str)) (dss_cons (ds_ret (de_add hK (do_of (de_int' Z (by rfl) (da_cons (do_of (de_eq hK hr (do_name 1) (do_of de_str))) da_nil))) (do_of (de_callT (j := 1) hK hT B._law_pick ga hr (by omega) (by rfl) (da_cons (do_name 0) (da_cons (do_of de_int) da_nil)) (alen_cons (alen_cons alen_nil)) hz))))
    dss_nil) dss_nil)
    (dss_cons (ds_if (dt_in hK hr (do_name 1) (do_of de_str)) (dss_cons (ds_ret (de_if (dt_eq hK hr (do_name 1) (do_of de_str)) (de_ix hK hr (do_of (de_lst (da_cons (do_of de_str) (da_cons (do_of de_str) (da_cons (do_of de_str) (da_cons (do_of de_str) da_nil)))))) (do_of (de_callT (j := 1) hK hT B._law_pick ga hr (by omega) (by rfl) (da_cons (do_name 0) (da_cons (do_of de_int) da_nil)) (alen_cons (alen_cons alen_nil)) hz))) (de_callT (j := 1) hK hT B._law_pick ga hr (by omega) (by rfl) (da_cons (do_name 0) (da_cons (do_of de_int) da_nil)) (alen_cons (alen_cons alen_nil)) hz)))
    dss_nil) dss_nil)
    (dss_cons (ds_if (dt_eq hK hr (do_name 1) (do_of de_str)) (dss_cons (ds_ret (de_ix hK hr (do_of (de_lst (da_cons (do_of (de_tup (da_cons (do_of de_str) da_nil))) (da_cons (do_of (de_tup (da_cons (do_of de_str) (da_cons (do_of (de_callT (j := 2) hK hT B._law_any_value ga hr (by omega) (by rfl) (da_cons (do_name 0) da_nil) (alen_cons alen_nil) hz)) da_nil)))) da_nil)))) (do_of (de_callT (j := 1) hK hT B._law_pick ga hr (by omega) (by rfl) (da_cons (do_name 0) (da_cons (do_of de_int) da_nil)) (alen_cons (alen_cons alen_nil)) hz))))
    dss_nil) dss_nil)
    (dss_cons (ds_if (dt_eq hK hr (do_name 1) (do_of de_str)) (dss_cons (ds_ret (de_callT hK hT A0__law_draw_letter ga hr (by omega) (by rfl) (da_cons (do_name 0) (da_cons (do_of (de_lst (da_cons (do_of de_str) (da_cons (do_of de_str) (da_cons (do_of de_str) (da_cons (do_of de_str) (da_cons (do_of de_str) da_nil))))))) da_nil)) (alen_cons (alen_cons alen_nil)) hz))
    dss_nil) dss_nil)
    (dss_cons (ds_par (i := 2) (j := 3) rfl nd rfl rfl (by decide) rfl rfl (de_sorted hK Z (by rfl) (da_cons (do_of (de_slice hK (do_of (de_callT (j := 2) hK hT B._law_any_order ga hr (by omega) (by rfl) (da_cons (do_name 0) (da_cons (do_of (de_lst (da_cons (do_of de_str) (da_cons (do_of de_str) (da_cons (do_of de_str) (da_cons (do_of de_str) da_nil)))))) da_nil)) (alen_cons (alen_cons alen_nil)) hz)) dp_none (dp_some (do_of (de_callT (j := 1) hK hT B._law_pick ga hr (by omega) (by rfl) (da_cons (do_name 0) (da_cons (do_of de_int) da_nil)) (alen_cons (alen_cons alen_nil)) hz))))) da_nil)) (de_lst da_nil))
    (dss_cons (ds_for PassesOwn.never rfl (di_seq hK (de_name 2)) (dg_name nd rfl (by first | exact .inl rfl | exact .inr rfl)) (nox_name 4) (dss_cons (ds_if (dt_eq hK hr (do_name 1) (do_of de_str)) (dss_cons (ds_expr (de_append hK (pv 3) (da_cons (do_of (de_tup (da_cons (do_name 4) (da_cons (do_of (de_callT (j := 2) hK hT B._law_any_value ga hr (by omega) (by rfl) (da_cons (do_name 0) da_nil) (alen_cons alen_nil) hz)) da_nil)))) da_nil)))
    dss_nil) (dss_cons (ds_if (dt_eq hK hr (do_name 1) (do_of de_str)) (dss_cons (ds_set (i := 5) nd rfl (by first | exact .inl rfl | exact .inr rfl) (de_tup (da_cons (do_of (de_add hK (do_of de_int) (do_of (de_callT (j := 1) hK hT B._law_pick ga hr (by omega) (by rfl) (da_cons (do_name 0) (da_cons (do_of de_int) da_nil)) (alen_cons (alen_cons alen_nil)) hz)))) (da_cons (do_of (de_callT (j := 1) hK hT B._law_pick ga hr (by omega) (by rfl) (da_cons (do_name 0) (da_cons (do_of de_int) da_nil)) (alen_cons (alen_cons alen_nil)) hz)) (da_cons (do_of (de_add hK (do_of de_int) (do_of (de_callT (j := 1) hK hT B._law_pick ga hr (by omega) (by rfl) (da_cons (do_name 0) (da_cons (do_of de_int) da_nil)) (alen_cons (alen_cons alen_nil)) hz)))) da_nil)))))
    (dss_cons (ds_expr (de_append hK (pv 3) (da_cons (do_of (de_tup (da_cons (do_name 4) (da_cons (do_of (de_add hK (do_name 5) (do_of (de_tup (da_cons (do_of (de_callT (j := 1) hK hT B._law_pick ga hr (by omega) (by rfl) (da_cons (do_name 0) (da_cons (do_of de_int) da_nil)) (alen_cons (alen_cons alen_nil)) hz)) (da_cons (do_of (de_callT (j := 1) hK hT B._law_pick ga hr (by omega) (by rfl) (da_cons (do_name 0) (da_cons (do_of de_int) da_nil)) (alen_cons (alen_cons alen_nil)) hz)) da_nil)))))) da_nil)))) da_nil)))
    dss_nil)) (dss_cons (ds_if (dt_eq hK hr (do_name 1) (do_of de_str)) (dss_cons (ds_expr (de_append hK (pv 3) (da_cons (do_of (de_tup (da_cons (do_name 4) (da_cons (do_of (de_ix hK hr (do_of (de_lst (da_cons (do_of de_str) (da_cons (do_of de_str) da_nil)))) (do_of (de_callT (j := 1) hK hT B._law_pick ga hr (by omega) (by rfl) (da_cons (do_name 0) (da_cons (do_of de_int) da_nil)) (alen_cons (alen_cons alen_nil)) hz)))) da_nil)))) da_nil)))
    dss_nil) (dss_cons (ds_expr (de_append hK (pv 3) (da_cons (do_of (de_tup (da_cons (do_name 4) (da_cons (do_of (de_tuple hK Z (by rfl) (da_cons (do_of (de_lc (own := [("_law_lap", 6)]) rfl nd (di_range1 (by rfl) Z.range (da_cons (do_of (de_add hK (do_of de_int) (do_of (de_callT (j := 1) hK hT B._law_pick ga hr (by omega) (by rfl) (da_cons (do_name 0) (da_cons (do_of de_int) da_nil)) (alen_cons (alen_cons alen_nil)) hz)))) da_nil)) (blkOk_by (N := n__law_draw_part) (sc := defScope s__law_draw_part) (by decide +kernel)) (by decide) (nox_name 6) (fun _ _ _ _ _ => (dg_name nd rfl (by first | exact .inl rfl | exact .inr rfl))) (fun _ _ _ _ _ => have hz : (g.nx).rz = false := rfl; dts_nil) (fun _ _ _ _ _ => have hz : (g.nx).rz = false := rfl; (de_callT (j := 3) hK hT B._law_draw_ending ga hr (by omega) (by rfl) (da_cons (do_name 0) da_nil) (alen_cons alen_nil) hz)))) da_nil))) da_nil)))) da_nil)))
    dss_nil))
    dss_nil))
    dss_nil))
    dss_nil))
    (dss_cons (ds_ret (de_tuple hK Z (by rfl) (da_cons (do_name 3) da_nil)))
    dss_nil)))))))
def m__law_draw_letter (F0__law_draw_part : Fn) : M Fl := mSeq (mAsg (mOp ixD (mSlot 1) (opd (mCall F__law_pick (aCons (mSlot 0) (aCons (opd (mBui (op1 lenD) (aCons (mSlot 1) (aNil)))) (aNil)))))) 2) (mSeq (mRet (mOp addD (opd (mTup (aCons (mSlot 2) (aNil)))) (opd (mBui (op1 tupF) (aCons (opd (mLc [3] (mSt (opd (mCall F__law_sorts (aCons (mSlot 2) (aNil))))) (gN 3) (mYes) (mCall F0__law_draw_part (aCons (mSlot 0) (aCons (mSlot 3) (aNil)))))) (aNil)))))) (mNx))
structure B__law_draw_letter (P : Program) (w : World) (K : PySem.W.Frag) (mg : Str → Option Value) (base : Heap) (T : List Addr) : Prop where
  _law_pick : FnA P w K mg base T 1 "_law_pick" ["_law_source", "_law_most"] F__law_pick
  _law_sorts : FnA P w K mg base T 1 "_law_sorts" ["_law_word"] F__law_sorts
theorem a__law_draw_letter {P : Program} {w : World} {K : PySem.W.Frag} {mg : Str → Option Value} {base : Heap} {T : List Addr} {k : Nat} {F0__law_draw_part : Fn} (A0__law_draw_part : FnA P w K mg base T k "_law_draw_part" ["_law_source", "_law_sort"] F0__law_draw_part) (hk : 1 ≤ k) (Z : Free mg) (C : Csts K w mg) (B : B__law_draw_letter P w K mg base T) (D : DefA K mg "_law_draw_letter" ["_law_source", "_law_words"] s__law_draw_letter) :
    FnA P w K mg base T (k + 1) "_law_draw_letter" ["_law_source", "_law_words"] (mkF 4 (m__law_draw_letter F0__law_draw_part)) :=
  fna_of 4 rfl D sc__law_draw_letter fun f cdv A outer s H E g hK hT hz ga hr => by
    have hK := hK.symm
    have nd := (sc__law_draw_letter).nd
    exact (dss_cons (ds_set (i := 2) nd rfl (by first | exact .inl rfl | exact .inr rfl) (de_ix hK hr (do_name 1) (do_of (de_callT (j := 1) hK hT B._law_pick ga hr (by omega) (by rfl) (da_cons (do_name 0) (da_cons (do_of (de_len hK Z (by rfl) (da_cons (do_name 1) da_nil))) da_nil)) (alen_cons (alen_cons alen_nil)) hz))))
    (dss_cons (ds_ret (de_add hK (do_of (de_tup (da_cons (do_name 2) da_nil))) (do_of (de_tuple hK Z (by rfl) (da_cons (do_of (de_lc (own := [("_law_sort", 3)]) rfl nd (di_str (do_of (de_callT (j := 1) hK hT B._law_sorts ga hr (by omega) (by rfl) (da_cons (do_name 2) da_nil) (alen_cons alen_nil) hz))) (blkOk_by (N := n__law_draw_letter) (sc := defScope s__law_draw_letter) (by decide +kernel)) (by decide) (nox_name 3) (fun _ _ _ _ _ => (dg_name nd rfl (by first | exact .inl rfl | exact .inr rfl))) (fun _ _ _ _ _ => have hz : (g.nx).rz = false := rfl; dts_nil) (fun _ _ _ _ _ => have hz : (g.nx).rz = false := rfl; (de_callT hK hT A0__law_draw_part ga hr (by omega) (by rfl) (da_cons (do_name 0) (da_cons (do_name 3) da_nil)) (alen_cons (alen_cons alen_nil)) hz)))) da_nil)))))
    dss_nil))
def F__law_draw_part_0 : Fn := fun _ _ => none
def F__law_draw_letter_0 : Fn := fun _ _ => none
def F__law_draw_part_1 : Fn := mkF 7 (m__law_draw_part F__law_draw_letter_0)
def F__law_draw_letter_1 : Fn := mkF 4 (m__law_draw_letter F__law_draw_part_1)
def F__law_draw_part_2 : Fn := mkF 7 (m__law_draw_part F__law_draw_letter_1)
def F__law_draw_letter_2 : Fn := mkF 4 (m__law_draw_letter F__law_draw_part_2)
abbrev F__law_draw_part : Fn := F__law_draw_part_2
abbrev F__law_draw_letter : Fn := F__law_draw_letter_2
theorem a_group {P : Program} {w : World} {K : PySem.W.Frag} {mg : Str → Option Value} {base : Heap} {T : List Addr} (Z : Free mg) (C : Csts K w mg) (B0 : B__law_draw_part P w K mg base T) (B1 : B__law_draw_letter P w K mg base T) (D0 : DefA K mg "_law_draw_part" ["_law_source", "_law_sort"] s__law_draw_part) (D1 : DefA K mg "_law_draw_letter" ["_law_source", "_law_words"] s__law_draw_letter) :
    FnA P w K mg base T 6 "_law_draw_part" ["_law_source", "_law_sort"] F__law_draw_part ∧ FnA P w K mg base T 7 "_law_draw_letter" ["_law_source", "_law_words"] F__law_draw_letter := by
  have h__law_draw_part_0 := fna_no (P := P) (w := w) (base := base) (T := T) (k := 0) D0
  have h__law_draw_letter_0 := fna_no (P := P) (w := w) (base := base) (T := T) (k := 0) D1
  have h__law_draw_part_1 : FnA P w K mg base T 4 "_law_draw_part" ["_law_source", "_law_sort"] F__law_draw_part_1 := a__law_draw_part (k := 3) (h__law_draw_letter_0.mono (by decide)) (by decide) Z C B0 D0
  have h__law_draw_letter_1 : FnA P w K mg base T 5 "_law_draw_letter" ["_law_source", "_law_words"] F__law_draw_letter_1 := a__law_draw_letter (k := 4) (h__law_draw_part_1.mono (by decide)) (by decide) Z C B1 D1
  have h__law_draw_part_2 : FnA P w K mg base T 6 "_law_draw_part" ["_law_source", "_law_sort"] F__law_draw_part_2 := a__law_draw_part (k := 5) (h__law_draw_letter_1.mono (by decide)) (by decide) Z C B0 D0
  have h__law_draw_letter_2 : FnA P w K mg base T 7 "_law_draw_letter" ["_law_source", "_law_words"] F__law_draw_letter_2 := a__law_draw_letter (k := 6) (h__law_draw_part_2.mono (by decide)) (by decide) Z C B1 D1
  exact ⟨h__law_draw_part_2, h__law_draw_letter_2⟩
def m__law_near_answer : M Fl := mSeq (mAsg (mCall F__law_sorts (aCons (opd (mOp ixD (mSlot 1) (opd (mC (.int 0))))) (aNil))) 2) (mSeq (mAsg (mCall F__law_pick (aCons (mSlot 0) (aCons (opd (mBui (op1 lenD) (aCons (mSlot 2) (aNil)))) (aNil)))) 3) (mSeq (mRet (mOp addD (opd (mOp addD (opd (mSl (mSlot 1) (pNo) (pIs (opd (mOp addD (mSlot 3) (opd (mC (.int 1)))))))) (opd (mTup (aCons (opd (mCall F__law_draw_part (aCons (mSlot 0) (aCons (opd (mOp ixD (mSlot 2) (mSlot 3))) (aNil))))) (aNil)))))) (opd (mSl (mSlot 1) (pIs (opd (mOp addD (mSlot 3) (opd (mC (.int 2)))))) (pNo))))) (mNx)))
def F__law_near_answer : Fn := mkF 4 m__law_near_answer
structure B__law_near_answer (P : Program) (w : World) (K : PySem.W.Frag) (mg : Str → Option Value) (base : Heap) (T : List Addr) : Prop where
  _law_draw_part : FnA P w K mg base T 6 "_law_draw_part" ["_law_source", "_law_sort"] F__law_draw_part
  _law_pick : FnA P w K mg base T 1 "_law_pick" ["_law_source", "_law_most"] F__law_pick
  _law_sorts : FnA P w K mg base T 1 "_law_sorts" ["_law_word"] F__law_sorts
theorem a__law_near_answer {P : Program} {w : World} {K : PySem.W.Frag} {mg : Str → Option Value} {base : Heap} {T : List Addr}  (Z : Free mg) (C : Csts K w mg) (B : B__law_near_answer P w K mg base T) (D : DefA K mg "_law_near_answer" ["_law_source", "_law_answer"] s__law_near_answer) :
    FnA P w K mg base T (6 + 1) "_law_near_answer" ["_law_source", "_law_answer"] (mkF 4 (m__law_near_answer )) :=
  fna_of 4 rfl D sc__law_near_answer fun f cdv A outer s H E g hK hT hz ga hr => by
    have hK := hK.symm
    have nd := (sc__law_near_answer).nd
    exact (dss_cons (ds_set (i := 2) nd rfl (by first | exact .inl rfl | exact .inr rfl) (de_callT (j := 1) hK hT B._law_sorts ga hr (by decide) (by rfl) (da_cons (do_of (de_ix hK hr (do_name 1) (do_of de_int))) da_nil) (alen_cons alen_nil) hz))
    (dss_cons (ds_set (i := 3) nd rfl (by first | exact .inl rfl | exact .inr rfl) (de_callT (j := 1) hK hT B._law_pick ga hr (by decide) (by rfl) (da_cons (do_name 0) (da_cons (do_of (de_len hK Z (by rfl) (da_cons (do_name 2) da_nil))) da_nil)) (alen_cons (alen_cons alen_nil)) hz))
    (dss_cons (ds_ret (de_add hK (do_of (de_add hK (do_of (de_slice hK (do_name 1) dp_none (dp_some (do_of (de_add hK (do_name 3) (do_of de_int)))))) (do_of (de_tup (da_cons (do_of (de_callT (j := 6) hK hT B._law_draw_part ga hr (by decide) (by rfl) (da_cons (do_name 0) (da_cons (do_of (de_ix hK hr (do_name 2) (do_name 3))) da_nil)) (alen_cons (alen_cons alen_nil)) hz)) da_nil))))) (do_of (de_slice hK (do_name 1) (dp_some (do_of (de_add hK (do_name 3) (do_of de_int)))) dp_none))))
    dss_nil)))
def m__law_right_answers : M Fl := mSeq (mPar 2 3 (mOp ixD (mSlot 1) (opd (mC (.int 0)))) (mSl (mSlot 1) (pIs (opd (mC (.int 1)))) (pNo))) (mSeq (mAsg (mIf (mB (mOp neD (mSlot 2) (opd (mC (.str "end"))))) (mLst (aCons (opd (mTup (aCons (opd (mC (.str "no"))) (aCons (opd (mCall F__law_pick (aCons (mSlot 0) (aCons (opd (mC (.int 5))) (aNil))))) (aCons (mSlot 1) (aNil)))))) (aNil))) (mLst (aNil))) 4) (mSeq (mIf (mB (mOp (inDV false) (mSlot 2) (opd (mTup (aCons (opd (mC (.str "take"))) (aCons (opd (mC (.str "free"))) (aNil))))))) (mSeq (mDrop (mMeth isOwL 4 (aCons (opd (mOp addD (opd (mTup (aCons (opd (mOp ixD (opd (mDisp (pCons (opd (mC (.str "take"))) (opd (mC (.str "taken"))) (pCons (opd (mC (.str "free"))) (opd (mC (.str "freed"))) (pNil))))) (mSlot 2))) (aNil)))) (mSlot 3))) (aNil)) appF)) (mNx)) (mNx)) (mSeq (mIf (mB (mOp eqD (mSlot 2) (opd (mC (.str "grant"))))) (mSeq (mDrop (mMeth isOwL 4 (aCons (opd (mOp addD (opd (mOp addD (opd (mTup (aCons (opd (mC (.str "granted"))) (aNil)))) (mSlot 3))) (opd (mTup (aCons (opd (mOp addD (opd (mC (.int 1))) (opd (mCall F__law_pick (aCons (mSlot 0) (aCons (opd (mC (.int 4))) (aNil))))))) (aCons (opd (mCall F__law_draw_part (aCons (mSlot 0) (aCons (opd (mC (.str "r"))) (aNil))))) (aNil))))))) (aNil)) appF)) (mNx)) (mNx)) (mSeq (mIf (mB (mOp eqD (mSlot 2) (opd (mC (.str "bar"))))) (mSeq (mDrop (mMeth isOwL 4 (aCons (opd (mOp addD (opd (mTup (aCons (opd (mC (.str "barred"))) (aNil)))) (opd (mSl (mSlot 3) (pNo) (pIs (opd (mC (.int 2)))))))) (aNil)) appF)) (mNx)) (mNx)) (mSeq (mIf (mB (mOp eqD (mSlot 2) (opd (mC (.str "ask"))))) (mSeq (mDrop (mMeth isOwL 4 (aCons (opd (mOp addD (opd (mOp addD (opd (mTup (aCons (opd (mC (.str "told"))) (aNil)))) (mSlot 3))) (opd (mSl (opd (mCall F__law_draw_letter (aCons (mSlot 0) (aCons (opd (mLst (aCons (opd (mC (.str "told"))) (aNil)))) (aNil))))) (pIs (opd (mC (.int 2)))) (pNo))))) (aNil)) appF)) (mNx)) (mNx)) (mSeq (mRet (mOp addD (mSlot 4) (opd (mIf (mB (mOp eqD (mSlot 2) (opd (mC (.str "end"))))) (mLst (aCons (opd (mOp addD (opd (mTup (aCons (opd (mC (.str "ended"))) (aNil)))) (opd (mSl (mSlot 3) (pNo) (pIs (opd (mC (.int 3)))))))) (aCons (opd (mOp addD (opd (mTup (aCons (opd (mC (.str "refused"))) (aNil)))) (opd (mSl (mSlot 3) (pNo) (pIs (opd (mC (.int 3)))))))) (aNil)))) (mLst (aNil)))))) (mNx)))))))
def F__law_right_answers : Fn := mkF 5 m__law_right_answers
structure B__law_right_answers (P : Program) (w : World) (K : PySem.W.Frag) (mg : Str → Option Value) (base : Heap) (T : List Addr) : Prop where
  _law_draw_letter : FnA P w K mg base T 7 "_law_draw_letter" ["_law_source", "_law_words"] F__law_draw_letter
  _law_draw_part : FnA P w K mg base T 6 "_law_draw_part" ["_law_source", "_law_sort"] F__law_draw_part
  _law_pick : FnA P w K mg base T 1 "_law_pick" ["_law_source", "_law_most"] F__law_pick
theorem a__law_right_answers {P : Program} {w : World} {K : PySem.W.Frag} {mg : Str → Option Value} {base : Heap} {T : List Addr}  (Z : Free mg) (C : Csts K w mg) (B : B__law_right_answers P w K mg base T) (D : DefA K mg "_law_right_answers" ["_law_source", "_law_letter"] s__law_right_answers) :
    FnA P w K mg base T (7 + 1) "_law_right_answers" ["_law_source", "_law_letter"] (mkF 5 (m__law_right_answers )) :=
  fna_of 5 rfl D sc__law_right_answers fun f cdv A outer s H E g hK hT hz ga hr => by
    have hK := hK.symm
    have nd := (sc__law_right_answers).nd
    exact (dss_cons (ds_par (i := 2) (j := 3) rfl nd rfl rfl (by decide) rfl rfl (de_ix hK hr (do_name 1) (do_of de_int)) (de_slice hK (do_name 1) (dp_some (do_of de_int)) dp_none))
    (dss_cons (ds_set (i := 4) nd rfl (by first | exact .inl rfl | exact .inr rfl) (de_if (dt_ne hK hr (do_name 2) (do_of de_str)) (de_lst (da_cons (do_of (de_tup (da_cons (do_of de_str) (da_cons (do_of (de_callT (j := 1) hK hT B._law_pick ga hr (by decide) (by rfl) (da_cons (do_name 0) (da_cons (do_of de_int) da_nil)) (alen_cons (alen_cons alen_nil)) hz)) (da_cons (do_name 1) da_nil))))) da_nil)) (de_lst da_nil)))
    (dss_cons (ds_if (dt_in hK hr (do_name 2) (do_of (de_tup (da_cons (do_of de_str) (da_cons (do_of de_str) da_nil))))) (dss_cons (ds_expr (de_append hK (pv 4) (da_cons (do_of (de_add hK (do_of (de_tup (da_cons (do_of (de_ix hK hr (do_of (de_disp (dps_cons (do_of de_str) (do_of de_str) (dps_cons (do_of de_str) (do_of de_str) dps_nil)))) (do_name 2))) da_nil))) (do_name 3))) da_nil)))
    dss_nil) dss_nil)
    (dss_cons (ds_if (dt_eq hK hr (do_name 2) (do_of de_str)) (dss_cons (ds_expr (de_append hK (pv 4) (da_cons (do_of (de_add hK (do_of (de_add hK (do_of (de_tup (da_cons (do_of de_str) da_nil))) (do_name 3))) (do_of (de_tup (da_cons (do_of (de_add hK (do_of de_int) (do_of (de_callT (j := 1) hK hT B._law_pick ga hr (by decide) (by rfl) (da_cons (do_name 0) (da_cons (do_of de_int) da_nil)) (alen_cons (alen_cons alen_nil)) hz)))) (da_cons (do_of (de_callT (j := 6) hK hT B._law_draw_part ga hr (by decide) (by rfl) (da_cons (do_name 0) (da_cons (do_of de_str) da_nil)) (alen_cons (alen_cons alen_nil)) hz)) da_nil)))))) da_nil)))
    dss_nil) dss_nil)
    (dss_cons (ds_if (dt_eq hK hr (do_name 2) (do_of de_str)) (dss_cons (ds_expr (de_append hK (pv 4) (da_cons (do_of (de_add hK (do_of (de_tup (da_cons (do_of de_str) da_nil))) (do_of (de_slice hK (do_name 3) dp_none (dp_some (do_of de_int)))))) da_nil)))
    dss_nil) dss_nil)
    (dss_cons (ds_if (dt_eq hK hr (do_name 2) (do_of de_str)) (dss_cons (ds_expr (de_append hK (pv 4) (da_cons (do_of (de_add hK (do_of (de_add hK (do_of (de_tup (da_cons (do_of de_str) da_nil))) (do_name 3))) (do_of (de_slice hK (do_of (de_callT (j := 7) hK hT B._law_draw_letter ga hr (by decide) (by rfl) (da_cons (do_name 0) (da_cons (do_of (de_lst (da_cons (do_of de_str) da_nil))) da_nil)) (alen_cons (alen_cons alen_nil)) hz)) (dp_some (do_of de_int)) dp_none)))) da_nil)))
    dss_nil) dss_nil)
    (dss_cons (ds_ret (de_add hK (do_name 4) (do_of (de_if (dt_eq hK hr (do_name 2) (do_of de_str)) (de_lst (da_cons (do_of (de_add hK (do_of (de_tup (da_cons (do_of de_str) da_nil))) (do_of (de_slice hK (do_name 3) dp_none (dp_some (do_of de_int)))))) (da_cons (do_of (de_add hK (do_of (de_tup (da_cons (do_of de_str) da_nil))) (do_of (de_slice hK (do_name 3) dp_none (dp_some (do_of de_int)))))) da_nil))) (de_lst da_nil)))))
    dss_nil)))))))
end K22
set_option Elab.async false
set_option linter.all false
set_option maxRecDepth 100000
set_option maxHeartbeats 4000000
/-! the law's own source of numbers: _law_pick, _law_open_cells -/
namespace K22
open PySem PySem.Spec PyProof.Rows L2 DL
theorem put_left (cl : Addr) (S : Src) (l : Int) : putK (DL.srcK cl S) (.inr "left") (.int l) = DL.srcK cl { S with left := l } := by rfl
theorem put_turn (cl : Addr) (S : Src) (l : Int) : putK (DL.srcK cl S) (.inr "turn") (.int l) = DL.srcK cl { S with turn := l } := by rfl
theorem get_cells (cl : Addr) (S : Src) : valV (DL.srcK cl S) (.inr "cells") = some (.ref cl) := by rfl
theorem get_left (cl : Addr) (S : Src) : valV (DL.srcK cl S) (.inr "left") = some (.int S.left) := by rfl
theorem get_mixed (cl : Addr) (S : Src) : valV (DL.srcK cl S) (.inr "mixed") = some (.int S.mixed) := by rfl
theorem get_turn (cl : Addr) (S : Src) : valV (DL.srcK cl S) (.inr "turn") = some (.int S.turn) := by rfl
theorem merge_src (cl : Addr) (S : Src) : mergeK [] (DL.srcK cl S) = DL.srcK cl S := by rfl
/-- all but these two stays -/
def Two (d cl : Addr) (H H' : Hp) : Prop := ∀ a, a ≠ d → a ≠ cl → H' a = H a
section
variable {H : Hp} {d cl : Addr} {S : Src}
theorem s_ne (h : SrcAt H d cl S) : d ≠ cl := fun z => by
  have a := h.hd
  rw [z, h.hc] at a
  cases a
theorem g_cells (h : SrcAt H d cl S) : DGet H d (.str "cells") (some (.ref cl)) := by
  have e := DGet.k (k := .inr "cells") h.hd
  rw [get_cells] at e
  exact e
theorem g_left (h : SrcAt H d cl S) : DGet H d (.str "left") (some (.int S.left)) := by
  have e := DGet.k (k := .inr "left") h.hd
  rw [get_left] at e
  exact e
theorem g_mixed (h : SrcAt H d cl S) : DGet H d (.str "mixed") (some (.int S.mixed)) := by
  have e := DGet.k (k := .inr "mixed") h.hd
  rw [get_mixed] at e
  exact e
theorem g_turn (h : SrcAt H d cl S) : DGet H d (.str "turn") (some (.int S.turn)) := by
  have e := DGet.k (k := .inr "turn") h.hd
  rw [get_turn] at e
  exact e
theorem p_left (h : SrcAt H d cl S) {l : Int} (h0 : 0 ≤ l) : ∃ H', DPut H d (.str "left") (.int l) H' ∧ SrcAt H' d cl { S with left := l } ∧ Two d cl H H' := by
  refine ⟨_, DPut.k (k := .inr "left") h.hd (by show 4 < sizeLine; decide), ⟨?_, ?_, h0, h.m0, h.t0, h.c0, h.len⟩, fun a h1 _ => upd_ne h1⟩
  · rw [put_left, upd_same]
  · rw [upd_ne (Ne.symm (s_ne h))]; exact h.hc
theorem p_turn (h : SrcAt H d cl S) {l : Int} (h0 : 0 ≤ l) : ∃ H', DPut H d (.str "turn") (.int l) H' ∧ SrcAt H' d cl { S with turn := l } ∧ Two d cl H H' := by
  refine ⟨_, DPut.k (k := .inr "turn") h.hd (by show 4 < sizeLine; decide), ⟨?_, ?_, h.l0, h.m0, h0, h.c0, h.len⟩, fun a h1 _ => upd_ne h1⟩
  · rw [put_turn, upd_same]
  · rw [upd_ne (Ne.symm (s_ne h))]; exact h.hc
theorem p_pop (h : SrcAt H d cl S) : SrcAt (upd H cl (.lst (S.cells.map V.int).dropLast)) d cl { S with cells := S.cells.dropLast } ∧ Two d cl H (upd H cl (.lst (S.cells.map V.int).dropLast)) := by
  refine ⟨⟨?_, ?_, h.l0, h.m0, h.t0, fun x hx => h.c0 x (List.dropLast_subset _ hx), ?_⟩, fun a _ h2 => upd_ne h2⟩
  · rw [upd_ne (s_ne h)]; exact h.hd
  · rw [upd_same, List.map_dropLast]
  · have := h.len
    show S.cells.dropLast.length ≤ 63
    rw [List.length_dropLast]
    omega
theorem Two.trans {H1 H2 : Hp} (a : Two d cl H H1) (b : Two d cl H1 H2) : Two d cl H H2 := fun x h1 h2 => (b x h1 h2).trans (a x h1 h2)
theorem two_post {K : PySem.W.Frag} {T : List Addr} {ds : List DL.D} {vs : List V} {Fz : Addr → Prop} {S' : Src} {H' : Hp} (pre : FPre K d cl T ds S vs H Fz) (t : Two d cl H H') (s : SrcAt H' d cl S') : FPost K d cl T H Fz S' H' Fz := by
  have tt : ∀ a, H a ≠ none → H' a ≠ none := fun a h => by
    by_cases z : a = d
    · rw [z, s.hd]; exact fun q => by cases q
    · by_cases y : a = cl
      · rw [y, s.hc]; exact fun q => by cases q
      · rw [t a z y]; exact h
  refine ⟨fun a o e x => ?_, fun a e => ?_, fun _ h => h, fun _ _ _ h => h, s, pre.fzx, fun a f => tt a (pre.fzt a f), fun p hp => ?_⟩
  · rw [t a (fun z => x (.inl z)) (fun z => x (.inr (.inl z)))]; exact e
  · cases q : H a with
    | none => rfl
    | some o => exact absurd e (tt a (by rw [q]; exact fun z => by cases z))
  · obtain ⟨ps, e, r⟩ := pre.tab p hp
    have n1 : p ≠ d := fun z => by rw [z, pre.src.hd] at e; cases e
    have n2 : p ≠ cl := fun z => by rw [z, pre.src.hc] at e; cases e
    exact ⟨ps, by rw [t p n1 n2]; exact e, r⟩
end
theorem refill_pop {cs : List Int} {l y : Int} (h : l < 2) (hy : cs[cs.length - 1]? = some y) : refillL cs.reverse l = refillL cs.dropLast.reverse y := by
  rcases List.eq_nil_or_concat cs with rfl | ⟨r, z, rfl⟩
  · simp at hy
  · simp at hy
    subst hy
    simp [refillL, h]
theorem fdiv_nn {a b : Int} (h : 0 ≤ a) (k : 0 ≤ b) : a.fdiv b = a / b := Int.fdiv_eq_ediv_of_nonneg a k
theorem refillL_nn : ∀ (cs : List Int) (l : Int), 0 ≤ l → (∀ x ∈ cs, 0 ≤ x) → 0 ≤ (refillL cs l).1
  | [], l, h, _ => h
  | c :: r, l, h, hc => by
    unfold refillL
    split
    · exact refillL_nn r c (hc c (List.mem_cons_self ..)) fun x hx => hc x (List.mem_cons_of_mem _ hx)
    · exact h
section
variable {P : Program} {w : World} {K : PySem.W.Frag} {mg : Str → Option Value} {base : Heap} {T : List Addr}
theorem refill_done {cs : List Int} {l : Int} (h : ¬ (l < 2) ∨ cs = []) : refillL cs.reverse l = (l, cs.reverse) := by
  rcases h with h | rfl
  · cases e : cs.reverse with
    | nil => rfl
    | cons c r => unfold refillL; rw [if_neg h]
  · rfl
set_option maxRecDepth 100000 in
theorem a__law_pick (Z : Free mg) (D : DefA K mg "_law_pick" ["_law_source", "_law_most"] s__law_pick) : FnA P w K mg base T 1 "_law_pick" ["_law_source", "_law_most"] fn_law_pick := by
  obtain ⟨f, fd, F, hm, hb⟩ := D.ex
  refine ⟨f, fd, F.okG sc__law_pick (fun vs H Q E h => h.1) (fun cdv A outer s H vs Q E ga hr h => ?_), hm, F.kp, hb⟩
  obtain ⟨hl, ds, S, Fz, d, cl, pre, r, S', hF, q⟩ := h
  unfold fn_law_pick at hF
  split at hF
  · rename_i most
    split at hF
    · rename_i hb0
      cases hF
      obtain ⟨b0, b1⟩ := hb0
      have hvs : vs = [.ref d, .int most] := by
        have := pre.args
        cases this with
        | cons a l =>
          cases l with
          | cons a2 l2 =>
            cases l2
            cases a
            cases a2
            rfl
      subst hvs
      have src := pre.src
      have mi := Z.int
      have ml := Z.len
      have nd := sc__law_pick.nd
      have hu := hu_of hr
      refine ⟨_, (show PSs (cxA P w K mg base n__law_pick "_law_pick" s__law_pick f cdv A outer s H E) (defBody s__law_pick) _ from pss_cons (ps_if (pt_cmpR op_lt (pv 1) pe_int (nomark _)) (pss_one (ps_ret pe_int)) pss_nil)
        (pss_cons (ps_set (i := 2) nd rfl (.inl rfl) (pe_dget hu (pv 0) pe_str (fun _ _ => rfl)))
        (pss_cons (ps_while PassesOwn.never (PW.pt (pw_and (pt_cmpR op_lt (pe_dget hu (pv 0) pe_str (fun _ _ => rfl)) pe_int (nomark _)) (pw_and1 (pt_cmpR op_gt (pe_callB call_len_seq (by rfl) ml bt_len (pa_cons (pv 2) pa_nil)) pe_int (nomark _)))))
          (pss_one (ps_dput hu (pv 0) pe_str (pe_bm0 PySem.F.plainAttrs_list PySem.F.slot_list_pop PySem.F.type_list_pop mt_pop (pv 2)) rfl)))
        (pss_cons (ps_set (i := 3) nd rfl (.inl rfl) (pe_dget hu (pv 0) pe_str (fun _ _ => rfl)))
        (pss_cons (ps_if (pt_cmpR op_gt (pv 3) pe_int (nomark _))
          (pss_cons (ps_dput hu (pv 0) pe_str (pe_op op_fdivW (pv 3) (pv 1)) rfl)
          (pss_one (ps_ret (pe_op op_mod (pe_callTy call_int1 (by rfl) mi bt_int (pa_cons (pv 3) pa_nil)) (pv 1))))) pss_nil)
        (pss_cons (ps_dput hu (pv 0) pe_str (pe_op op_add (pe_dget hu (pv 0) pe_str (fun _ _ => rfl)) pe_int) rfl)
        (pss_cons (ps_set (i := 4) nd rfl (.inl rfl) (pe_dget hu (pv 0) pe_str (fun _ _ => rfl)))
        (pss_cons (ps_set (i := 5) nd rfl (.inl rfl) (pe_op op_mod (pe_callTy call_int1 (by rfl) mi bt_int (pa_cons (pe_op op_add (pe_dget hu (pv 0) pe_str (fun _ _ => rfl)) (pe_op op_mul (pv 4) pe_int)) pa_nil)) pe_int))
        (pss_cons (ps_set (i := 5) nd rfl (.inl rfl) (pe_op op_mod (pe_callTy call_int1 (by rfl) mi bt_int (pa_cons (pe_op op_add (pe_op op_mul (pv 5) (pv 5)) (pe_op op_mul (pv 4) pe_int)) pa_nil)) pe_int))
        (pss_one (ps_ret (pe_op op_mod (pe_callTy call_int1 (by rfl) mi bt_int (pa_cons (pe_op op_fdivW (pv 5) pe_int) pa_nil)) (pv 1))))))))))))).nox, ?_⟩
      refine ⟨.int most, rfl, most, 2, rfl, rfl, _, rfl, ite2 (fun c => ?_) (fun c => ?_)⟩
      · have h2 : most < 2 := of_decide_eq_true c
        have e : pick S most = (0, S) := by unfold pick; rw [if_pos h2]
        rw [e] at q
        exact q (.int 0) H Fz (two_post pre (fun _ _ _ => rfl) src) (.int 0)
      have h2 : ¬ most < 2 := fun z => c (decide_eq_true z)
      refine ⟨.ref d, rfl, d, _, rfl, g_cells src, ?_⟩
      refine ⟨fun z σ H' => ∃ l cs, σ = [some (.ref d), some (.int most), some (.ref cl), none, none, none] ∧ z = cs.length ∧ Two d cl H H' ∧ SrcAt H' d cl { S with left := l, cells := cs } ∧ refillL cs.reverse l = refillL S.cells.reverse S.left, ⟨_, S.left, S.cells, rfl, rfl, (fun _ _ _ => rfl), src, rfl⟩, fun z σ H1 hW => ?_⟩
      obtain ⟨l1, cs1, rfl, rfl, e1, s1, rf1⟩ := hW
      have tail : (¬ l1 < 2 ∨ cs1 = []) → refill S = { S with left := l1, cells := cs1 } := fun hd => by
        unfold refill
        rw [← rf1, refill_done hd]
        simp
      refine ⟨.ref d, rfl, d, .int l1, rfl, g_left s1, l1, 2, rfl, rfl, _, rfl, ite2 (fun c1 => ⟨.ref cl, rfl, cl, _, rfl, .inl (SqL.of s1.hc), ((cs1.map V.int).length : Nat), 0, rfl, rfl, _, rfl, ite2 (fun c2 => ?body) (fun c2 => ?e1)⟩) (fun c1 => ?e2)⟩
      case body =>
        have hne : 0 < cs1.length := by
          have := of_decide_eq_true c2
          rw [List.length_map] at this
          omega
        refine ⟨fun σ' H' => ∃ m', m' < cs1.length ∧ ∃ l cs, σ' = [some (.ref d), some (.int most), some (.ref cl), none, none, none] ∧ m' = cs.length ∧ Two d cl H H' ∧ SrcAt H' d cl { S with left := l, cells := cs } ∧ refillL cs.reverse l = refillL S.cells.reverse S.left, fun _ _ z => z, ?_⟩
        obtain ⟨s2, e2⟩ := p_pop s1
        obtain ⟨y, hy⟩ : ∃ y, cs1[cs1.length - 1]? = some y := ⟨_, List.getElem?_eq_getElem (by omega)⟩
        obtain ⟨H3, p3, s3, e3⟩ := p_left s2 (l := y) (s1.c0 y (List.mem_of_getElem? hy))
        exact ⟨.ref cl, rfl, .inl ⟨rfl, _, SqL.of s1.hc⟩, cl, _, .int y, rfl, rfl, s1.hc, by rw [List.length_map, List.getElem?_map, hy]; rfl, .ref d, rfl, d, H3, rfl, p3, cs1.dropLast.length, by rw [List.length_dropLast]; omega, y, _, rfl, rfl, (e1.trans e2).trans e3, s3, (refill_pop (of_decide_eq_true c1) hy).symm.trans rf1⟩
      all_goals
        have hdone : ¬ l1 < 2 ∨ cs1 = [] := by
          first
            | exact .inl (fun z => c1 (decide_eq_true z))
            | (refine .inr ?_
               have h3 : ¬ (0 : Int) < ((cs1.map V.int).length : Nat) := fun z => c2 (decide_eq_true z)
               rw [List.length_map] at h3
               exact List.length_eq_zero_iff.mp (by omega))
        have eR := tail hdone
        refine ⟨.ref d, rfl, d, .int l1, rfl, g_left s1, ?_⟩
        refine ⟨.int l1, rfl, l1, 1, rfl, rfl, _, rfl, ite2 (fun c3 => ?_) (fun c3 => ?_)⟩
        · have h3 : 1 < l1 := of_decide_eq_true c3
          have l0 : 0 ≤ l1 := s1.l0
          obtain ⟨H3, p3, s3, e3⟩ := p_left s1 (l := l1 / most) (Int.ediv_nonneg l0 b0)
          have ep : pick S most = (l1 % most, { S with left := l1 / most, cells := cs1 }) := by
            unfold pick
            rw [if_neg h2, eR]
            simp only
            rw [if_pos h3]
          rw [ep] at q
          refine ⟨.int l1, rfl, .int most, rfl, l1, most, rfl, rfl, ⟨by omega, b1⟩, .ref d, rfl, d, H3, rfl, p3, ?_⟩
          exact ⟨.int l1, rfl, .inl ⟨l1, rfl, .int most, rfl, l1, most, rfl, rfl, (by show (0 : Int) < most; omega), q (.int (l1 % most)) H3 Fz (two_post pre (e1.trans e3) s3) (.int _)⟩⟩
        · have h3 : ¬ 1 < l1 := fun z => c3 (decide_eq_true z)
          have t0 : 0 ≤ S.turn := src.t0
          have m0 : 0 ≤ S.mixed := src.m0
          obtain ⟨H3, p3, s3, e3⟩ := p_turn s1 (l := S.turn + 1) (by omega)
          have ep : pick S most = ((stir S.mixed (S.turn + 1) / 16) % most, { S with left := l1, cells := cs1, turn := S.turn + 1 }) := by
            unfold pick
            rw [if_neg h2, eR]
            simp only
            rw [if_neg h3]
          have gt1 : DGet H1 d (.str "turn") (some (.int S.turn)) := by have := g_turn s1; exact this
          have gt3 : DGet H3 d (.str "turn") (some (.int (S.turn + 1))) := by have := g_turn s3; exact this
          have gm3 : DGet H3 d (.str "mixed") (some (.int S.mixed)) := by have := g_mixed s3; exact this
          rw [ep] at q
          refine ⟨.ref d, rfl, d, .int S.turn, rfl, gt1, S.turn, 1, rfl, rfl, .ref d, rfl, d, H3, rfl, p3, ?_⟩
          refine ⟨.ref d, rfl, d, .int (S.turn + 1), rfl, gt3, ?_⟩
          refine ⟨.ref d, rfl, d, .int S.mixed, rfl, gm3, .int (S.turn + 1), rfl, S.turn + 1, 104729, rfl, rfl, .inr ⟨by decide, by decide⟩, S.mixed, (S.turn + 1) * 104729, rfl, rfl, .inl ⟨S.mixed + (S.turn + 1) * 104729, rfl, S.mixed + (S.turn + 1) * 104729, 998244353, rfl, rfl, (by show (0 : Int) < 998244353; decide), ?_⟩⟩
          have u0 : 0 ≤ (S.mixed + (S.turn + 1) * 104729) % 998244353 := Int.emod_nonneg _ (by decide)
          have u1 : (S.mixed + (S.turn + 1) * 104729) % 998244353 < 998244353 := Int.emod_lt_of_pos _ (by decide)
          refine ⟨_, rfl, _, rfl, _, _, rfl, rfl, .inl ⟨by show -(2 ^ 64) < (S.mixed + (S.turn + 1) * 104729) % 998244353; omega, by show (S.mixed + (S.turn + 1) * 104729) % 998244353 < 2 ^ 64; omega⟩, .int (S.turn + 1), rfl, S.turn + 1, 17, rfl, rfl, .inr ⟨by decide, by decide⟩, _, (S.turn + 1) * 17, rfl, rfl, .inl ⟨_, rfl, _, 2147483647, rfl, rfl, (by show (0 : Int) < 2147483647; decide), ?_⟩⟩
          refine ⟨_, rfl, _, 16, rfl, rfl, ⟨by decide, by decide +kernel⟩, .inl ⟨_, rfl, .int most, rfl, _, most, rfl, rfl, (by show (0 : Int) < most; omega), q (.int _) H3 Fz (two_post pre (e1.trans e3) s3) (.int _)⟩⟩
    · cases hF
  · cases hF
end
end K22
set_option Elab.async false
set_option linter.all false
set_option maxRecDepth 100000
set_option maxHeartbeats 4000000
/-! frames between heaps; comprehensions whose items are flat; data -/
namespace Y3
open PySem PySem.Spec PyProof.Rows L2

def NoTbl (o : HO) : Prop := ∀ ps, o ≠ .tbl ps
/-- all that was tracked is as it was, but for S; tables may have grown -/
structure Ext (S : Addr → Prop) (H H' : Hp) : Prop where
  keep : ∀ b o, ¬ S b → H b = some o → NoTbl o → H' b = some o
  tup : ∀ b xs, H b = some (.tup xs) → H' b = some (.tup xs)
  tab : ∀ b, GxR.TabG H b → GxR.TabG H' b
  fre : ∀ b, H' b = none → H b = none
abbrev S0 : Addr → Prop := fun _ => False
abbrev Ex (H H' : Hp) : Prop := Ext S0 H H'
theorem Ext.refl {S : Addr → Prop} {H : Hp} : Ext S H H := ⟨fun _ _ _ h _ => h, fun _ _ h => h, fun _ h => h, fun _ h => h⟩
theorem Ext.trans {S : Addr → Prop} {H H1 H2 : Hp} (a : Ext S H H1) (b : Ext S H1 H2) : Ext S H H2 :=
  ⟨fun c o n h t => b.keep c o n (a.keep c o n h t) t, fun c xs h => b.tup c xs (a.tup c xs h), fun c h => b.tab c (a.tab c h), fun c h => a.fre c (b.fre c h)⟩
theorem Ext.mono {S S' : Addr → Prop} {H H' : Hp} (a : Ext S H H') (h : ∀ b, S b → S' b) : Ext S' H H' := ⟨fun b o n => a.keep b o fun z => n (h b z), a.tup, a.tab, a.fre⟩
theorem Ext.of0 {S : Addr → Prop} {H H' : Hp} (a : Ex H H') : Ext S H H' := a.mono fun _ z => z.elim
/-- a new object, or one that was not tracked ahead -/
theorem Ext.updN {S : Addr → Prop} {H H' : Hp} {p : Addr} {o : HO} (a : Ext S H H') (h : H p = none) : Ext S H (upd H' p o) := by
  refine ⟨fun b u n e t => ?_, fun b xs e => ?_, fun b ⟨ps, e, r⟩ => ?_, fun b e => ?_⟩
  · rw [upd_ne (ne_of_none e h)]; exact a.keep b u n e t
  · rw [upd_ne (ne_of_none e h)]; exact a.tup b xs e
  · obtain ⟨ps', e', r'⟩ := a.tab b ⟨ps, e, r⟩
    exact ⟨ps', by rw [upd_ne (ne_of_none e h)]; exact e', r'⟩
  · by_cases z : b = p
    · rw [z]; exact h
    · rw [upd_ne z] at e; exact a.fre b e
theorem Ext.upd1 {S : Addr → Prop} {H : Hp} {p : Addr} {o : HO} (h : H p = none) : Ext S H (upd H p o) := Ext.refl.updN h
/-- a thing of S is written -/
theorem Ext.updS {S : Addr → Prop} {H H' : Hp} {p : Addr} {o u : HO} (a : Ext S H H') (hS : S p) (h : H' p = some u) (hu : ∀ xs, u ≠ .tup xs) (ht : NoTbl u) : Ext S H (upd H' p o) := by
  refine ⟨fun b v n e t => ?_, fun b xs e => ?_, fun b hb => ?_, fun b e => ?_⟩
  · rw [upd_ne (fun z => n (by rw [z]; exact hS))]; exact a.keep b v n e t
  · have q := a.tup b xs e
    rw [upd_ne (fun z => by rw [z, h] at q; exact hu xs (Option.some.inj q))]; exact q
  · obtain ⟨ps', e', r'⟩ := a.tab b hb
    exact ⟨ps', by rw [upd_ne (fun z => by rw [z, h] at e'; exact ht ps' (Option.some.inj e'))]; exact e', r'⟩
  · by_cases z : b = p
    · rw [z, upd_same] at e; cases e
    · rw [upd_ne z] at e; exact a.fre b e
theorem Ext.ofTab {S : Addr → Prop} {P : Addr} {H H' : Hp} (h : GxR.Tabbed P H H') (hP : GxR.TabG H P) : Ext S H H' := by
  obtain ⟨ps, eP, _⟩ := hP
  have ne : ∀ b u, H b = some u → NoTbl u → b ≠ P := fun b u e t z => by
    rw [z, eP] at e
    exact t ps (Option.some.inj e).symm
  refine ⟨fun b o _ e t => by rw [h.2 b (ne b o e t)]; exact e, fun b xs e => by rw [h.2 b (ne b _ e fun ps z => by cases z)]; exact e, fun b hb => ?_, fun b e => ?_⟩
  by_cases z : b = P
  · rw [z]; exact h.1
  · obtain ⟨qs, e, r⟩ := hb
    exact ⟨qs, by rw [h.2 b z]; exact e, r⟩
  · by_cases z : b = P
    · obtain ⟨⟨qs, e2, _⟩, _⟩ := h
      rw [z, e2] at e; cases e
    · rw [h.2 b z] at e; exact e
theorem Ext.ofSame {S : Addr → Prop} {H H' : Hp} (h : ∀ b o, H b = some o → H' b = some o) : Ext S H H' := ⟨fun b o _ e _ => h b o e, fun b xs e => h b _ e, fun b ⟨ps, e, r⟩ => ⟨ps, h b _ e, r⟩, fun b e => by
  cases q : H b with
  | none => rfl
  | some o => rw [h b o q] at e; cases e⟩
theorem Ext.lst {S : Addr → Prop} {H H' : Hp} {b : Addr} {xs : List V} (a : Ext S H H') (n : ¬ S b) (h : H b = some (.lst xs)) : H' b = some (.lst xs) := a.keep b _ n h fun _ z => by cases z
theorem Ext.frz {S : Addr → Prop} {H H' : Hp} {b : Addr} {o : Obj} {u : HO} (a : Ext S H H') (n : ¬ S b) (h : H b = some (.frz o u)) : H' b = some (.frz o u) := a.keep b _ n h fun _ z => by cases z
theorem sqL_of {K : PySem.W.Frag} {H : Hp} {a : Addr} {xs : List V} (h : H a = some (.lst xs)) : SqL K H a xs := .inl (.inl h)
theorem sqT_of {K : PySem.W.Frag} {H : Hp} {a : Addr} {xs : List V} (h : H a = some (.tup xs)) : SqT K H a xs := .inl (.inl h)
theorem not0 {b : Addr} : ¬ S0 b := fun z => z

/-- a comprehension's state: what is made so far is told by A, all else by F -/
def CI (F : Hp → Prop) (A : Nat → List V → Prop) (D : Addr) : Nat → Hp → Prop := fun i H => F H ∧ ∃ acc, H D = some (.lst acc) ∧ A i acc
theorem CI.start {F : Hp → Prop} {A : Nat → List V → Prop} {D : Addr} {H1 : Hp} (h : F (upd H1 D (.lst []))) (a : A 0 []) : CI F A D 0 (upd H1 D (.lst [])) := ⟨h, [], upd_same, a⟩
theorem CI.put {F : Hp → Prop} {A : Nat → List V → Prop} {D : Addr} {H : Hp} {i : Nat} {acc : List V} {y : V} (hF : F H) (hD : H D = some (.lst acc)) (hu : ∀ o, F (upd H D o)) (hz : acc.length < sizeLine) (a : A (i + 1) (acc ++ [y])) :
    ∃ acc, H D = some (.lst acc) ∧ acc.length < sizeLine ∧ CI F A D (i + 1) (upd H D (.lst (acc ++ [y]))) := ⟨acc, hD, hz, hu _, _, upd_same, a⟩
theorem CI.skip {F : Hp → Prop} {A : Nat → List V → Prop} {D : Addr} {H : Hp} {i : Nat} {acc : List V} (hF : F H) (hD : H D = some (.lst acc)) (a : A (i + 1) acc) : CI F A D (i + 1) H := ⟨hF, acc, hD, a⟩
theorem few {n : Nat} (h : n ≤ 1000000) : n < sizeLine := Nat.lt_of_le_of_lt h (by decide)
theorem few' {n : Nat} (h : n ≤ 1000000) : n ≤ sizeLine := Nat.le_of_lt (few h)

/-! ### data -/
theorem dpInts {K : PySem.W.Frag} {H : Hp} : ∀ ns : List Int, DpAll K H (ns.map V.int) (ns.map PyData.int)
  | [] => .nil
  | n :: ns => .cons (.int n) (dpInts ns)
theorem dpBls {K : PySem.W.Frag} {H : Hp} : ∀ bs : List Bool, DpAll K H (bs.map V.bl) (bs.map PyData.bool)
  | [] => .nil
  | b :: bs => .cons (.bl b) (dpBls bs)
theorem dpL {K : PySem.W.Frag} {H : Hp} {a : Addr} {ns : List Int} (h : SqL K H a (ns.map V.int)) : Dp K H (.ref a) (.list (ns.map PyData.int)) := .lst h (dpInts ns)
theorem dpT {K : PySem.W.Frag} {H : Hp} {a : Addr} {ns : List Int} (h : SqT K H a (ns.map V.int)) : Dp K H (.ref a) (.tuple (ns.map PyData.int)) := .tup h (dpInts ns)
theorem dpB {K : PySem.W.Frag} {H : Hp} {a : Addr} {bs : List Bool} (h : SqL K H a (bs.map V.bl)) : Dp K H (.ref a) (.list (bs.map PyData.bool)) := .lst h (dpBls bs)
theorem shL (ns : List Int) : SeqAt.shaped (.list (ns.map PyData.int)) = true := PySem.W.ke_shaped_ints ns
theorem lay_bls : ∀ bs : List Bool, PyData.canLayAll0 (bs.map PyData.bool) = true ∧ PyData.depthAll (bs.map PyData.bool) = 0
  | [] => ⟨rfl, rfl⟩
  | n :: ns => by
    have ih := lay_bls ns
    exact ⟨by simp [PyData.canLayAll0, PyData.canLay0, ih.1], by simp [PyData.depthAll, PyData.depth, ih.2]⟩
theorem shT (ns : List Int) : SeqAt.shaped (.tuple (ns.map PyData.int)) = true := by
  simp [SeqAt.shaped, PyData.canLay0, PyData.depth, PySem.W.ke_canLayAll0, PySem.W.ke_depthAll]
theorem shB (bs : List Bool) : SeqAt.shaped (.list (bs.map PyData.bool)) = true := by
  have h := lay_bls bs
  simp [SeqAt.shaped, PyData.canLay0, PyData.depth, h.1, h.2]
theorem eqvI (ns ms : List Int) : PyData.eqvAll (ns.map PyData.int) (ms.map PyData.int) = decide (ns = ms) := PySem.W.ked_eqvAll ns ms
theorem eqvB : ∀ bs cs : List Bool, PyData.eqvAll (bs.map PyData.bool) (cs.map PyData.bool) = decide (bs = cs)
  | [], [] => by simp [PyData.eqvAll]
  | [], _ :: _ => by simp [PyData.eqvAll]
  | _ :: _, [] => by simp [PyData.eqvAll]
  | b :: bs, c :: cs => by
    rw [List.map_cons, List.map_cons, PyData.eqvAll, eqvB bs cs, PyData.eqv]
    by_cases h1 : b = c <;> by_cases h2 : bs = cs <;> simp [h1, h2]
theorem tYes_ok {σ : L2.St} {H : Hp} {A B : Hp → Prop} (h : A H) : tYes σ H (fun b H3 => if b = true then A H3 else B H3) := by
  show if true = true then A H else B H
  rw [if_pos rfl]
  exact h
/-- [f i for the i-th item if p i], one name in slot k; the heap grows at most -/
theorem lcG {J : It} {n : Nat} {G : Hp → Prop} {Y : Nat → Hp → V → Hp → Prop} (w : Walk J n G Y) {item : Nat → V} {H1 : Hp} {D : Addr} {k : Nat} {tt : TT} {te : TE} {σ : L2.St} {Qd : Hp → Prop} (p : Nat → Bool) (f : Nat → V)
    (nD : H1 D = none) (hn : n ≤ 1000000) (hY : ∀ i H x H', i < n → Y i H x H' → H' = H ∧ x = item i) (hG : ∀ H, Ex H1 H → G H)
    (ht : ∀ (i : Nat) (H2 : Hp) (Q : Bool → Hp → Prop), i < n → Ex H1 H2 → (∀ H3, Ex H2 H3 → Q (p i) H3) → tt ((σ.set k none).set k (some (item i))) H2 Q)
    (he : ∀ (i : Nat) (H2 : Hp) (Q : VK), i < n → p i = true → Ex H1 H2 → (∀ H3, Ex H2 H3 → Q (f i) H3) → te ((σ.set k none).set k (some (item i))) H2 Q)
    (hd : ∀ H', Ex H1 H' → H' D = some (.lst (((List.range n).filter p).map f)) → Qd H') :
    ∃ W : Nat → Nat → Hp → Prop, (∃ m, W 0 m (upd H1 D (.lst []))) ∧ ∀ i m H, W i m H →
      (J.stop i H ∧ Qd H) ∨ (J.go i H ∧ ∃ Nx : Hp → Prop, (∀ H', Nx H' → ∃ m', m' < m ∧ W (i + 1) m' H') ∧ ∀ x H', J.yld i H x H' → gName k x (wipe σ [k]) H' fun σ2 H2 => wipe σ2 [k] = wipe σ [k] ∧ tt σ2 H2 fun b H3 =>
        if b = true then te σ2 H3 fun y H4 => ∃ acc, H4 D = some (.lst acc) ∧ acc.length < sizeLine ∧ Nx (upd H4 D (.lst (acc ++ [y]))) else Nx H3) := by
  refine lc_it w (CI (fun H' => Ex H1 H') (fun i acc => acc = ((List.range i).filter p).map f) D) (CI.start (Ext.upd1 nD) rfl) (fun i H _ h => hG H h.1) (fun i x H H' hi h y => ?_) (fun H h => ?_)
  · obtain ⟨e1, acc, hD, ha⟩ := h
    obtain ⟨rfl, rfl⟩ := hY i H x H' hi y
    refine ⟨?_, ht i _ _ hi e1 fun H3 e3 => ?_⟩
    · show ((σ.set k none).set k (some (item i))).set k none = σ.set k none
      rw [List.set_set, List.set_set]
    · have e13 := e1.trans e3
      have hD3 : H3 D = some (.lst acc) := e3.lst not0 hD
      by_cases hp : p i = true
      · rw [if_pos hp]
        refine he i H3 _ hi hp e13 fun H4 e4 => CI.put (e13.trans e4) (e4.lst not0 hD3) (fun o => (e13.trans e4).updN nD) ?_ ?_
        · rw [ha, List.length_map]
          exact few (Nat.le_trans (List.length_filter_le _ _) (by rw [List.length_range]; omega))
        · rw [ha, List.range_succ, List.filter_append, List.map_append]
          congr 1
          rw [List.filter_cons_of_pos hp]
          rfl
      · rw [if_neg hp]
        refine CI.skip e13 hD3 ?_
        rw [ha, List.range_succ, List.filter_append, List.filter_cons_of_neg hp, List.filter_nil, List.append_nil]
  · obtain ⟨e1, acc, hD, ha⟩ := h
    exact hd H e1 (by rw [← ha]; exact hD)
theorem filt_true {n : Nat} : (List.range n).filter (fun _ => true) = List.range n := List.filter_eq_self.mpr fun _ _ => rfl
/-- no test -/
theorem tY {σ : L2.St} {H : Hp} {Q : Bool → Hp → Prop} (h : ∀ H3, Ex H H3 → Q true H3) : tYes σ H Q := h H Ext.refl
end Y3
set_option Elab.async false
set_option linter.all false
set_option maxRecDepth 100000
set_option maxHeartbeats 4000000
/-! the law's own source of numbers, opened -/
namespace K22
open PySem PySem.Spec PyProof.Rows L2 DL Y3
theorem range_getD {α β : Type} (d : α) (g : α → β) (xs : List α) : (List.range xs.length).map (fun i => g (xs.getD i d)) = xs.map g := by
  refine List.ext_getElem? fun i => ?_
  rw [List.getElem?_map, List.getElem?_map]
  by_cases h : i < xs.length
  · rw [List.getElem?_range h, List.getElem?_eq_getElem h]
    simp [List.getD_eq_getElem?_getD, h]
  · rw [List.getElem?_eq_none (by simpa using h), List.getElem?_eq_none (by omega)]
    rfl
theorem getD_of {α : Type} {xs : List α} {i : Nat} {x d : α} (h : xs[i]? = some x) : xs.getD i d = x := by
  rw [List.getD_eq_getElem?_getD, h]
  rfl
theorem sqL_ext {K : PySem.W.Frag} {H H' : Hp} (e : Ex H H') {a : Addr} {xs : List V} (h : SqL K H a xs) : SqL K H' a xs := by
  rcases h with h | h
  · rcases h with h | ⟨o, h⟩
    · exact .inl (.inl (e.lst not0 h))
    · exact .inl (.inr ⟨o, e.frz not0 h⟩)
  · exact .inr h
def spOpenD (K : PySem.W.Frag) : Sp := fun vs H Q _ => ∃ (a : Addr) (ns : List Int), vs = [.ref a] ∧ SqL K H a (ns.map V.int) ∧ ns.length ≤ 63 ∧
  ∀ H' d cl S, Ex H H' → H d = none → H cl = none → SrcAt H' d cl S → Q (.ref d) H'
section
variable {P : Program} {w : World} {K : PySem.W.Frag} {mg : Str → Option Value} {base : Heap}
theorem a__law_open {f : Addr} {fd : FuncData} {k : Nat} (F : Fun K "_law_open_cells" "_law_open_cells" s__law_open_cells f fd) (Z : Free mg) : FnG P w K mg base CX0 (k + 1) f fd ["_law_script"] (spOpenD K) := by
  have mi := Z.int
  have ma := Z.abs
  refine F.okG sc__law_open_cells (fun vs H Q E h => ?_) (fun cdv A outer s H vs Q E ga hr h => ?_)
  · obtain ⟨a, ns, rfl, _⟩ := h
    rfl
  · obtain ⟨a, ns, rfl, ha, hn, q⟩ := h
    have nd := sc__law_open_cells.nd
    refine ⟨_, (show PSs (cxA P w K mg base n__law_open_cells "_law_open_cells" s__law_open_cells f cdv A outer s H E) (defBody s__law_open_cells) _ from pss_cons (ps_set (i := 1) nd rfl (.inl rfl) pe_int)
      (pss_cons (ps_for PassesOwn.never rfl (pi_list (pv 0)) (pg_name (i := 2) nd rfl (.inl rfl))
        (pss_one (ps_set (i := 1) nd rfl (.inl rfl) (pe_op op_mod (pe_callTy call_int1 (by rfl) mi bt_int (pa_cons (pe_op op_add (pe_op op_add (pe_op op_mul (pv 1) pe_int) (pe_op op_mul (pv 2) pe_int)) pe_int) pa_nil)) pe_int))))
      (pss_cons (ps_setLc (i := 3) (own := [("_law_cell", 2)]) (g := gName 2) (tt := tYes) rfl nd rfl rfl (sw_true rfl rfl rfl (by decide +kernel)) (pi_list (pv 0)) (blkOk_by (N := n__law_open_cells) (sc := defScope s__law_open_cells) (by decide +kernel))
        (fun _ _ _ _ _ => pg_name (i := 2) nd rfl (.inl rfl)) (fun _ _ _ _ _ => pts_nil) (fun _ _ _ _ _ => pe_callB call_abs (by rfl) ma bt_abs (pa_cons (pv 2) pa_nil)))
      (pss_one (ps_ret (pe_disp (pps_cons pe_str (pe_revL (pv 3)) (pps_cons pe_str pe_int (pps_cons pe_str (pv 1) (pps_cons pe_str pe_int pps_nil)))) (by rfl) (by rfl) (fun z => by cases z) (by decide))))))).nox, ?_⟩
    refine ⟨.ref a, rfl, a, rfl, ⟨_, ha⟩, ?_⟩
    refine for_list (xs := ns.map V.int) (fun i σ H' => H' = H ∧ ∃ y m, σ = [some (.ref a), some (.int m), y, none] ∧ 0 ≤ m ∧ m < 2147483629) ⟨rfl, none, 11, rfl, by omega, by omega⟩ (fun i σ H' _ h => by rw [h.1]; exact ha) (fun i x σ H' hx h => ?_) (fun σ H' h => ?_)
    · obtain ⟨rfl, y, m, rfl, m0, m1⟩ := h
      rw [List.getElem?_map] at hx
      obtain ⟨z, hz, rfl⟩ := Option.map_eq_some_iff.mp hx
      refine ⟨.int m, rfl, m, 69069, rfl, rfl, .inr ⟨by decide, by decide⟩, .int z, rfl, z, 31, rfl, rfl, .inr ⟨by decide, by decide⟩, m * 69069, z * 31, rfl, rfl, m * 69069 + z * 31, 5, rfl, rfl, .inl ⟨_, rfl, _, 2147483629, rfl, rfl, (by show (0 : Int) < 2147483629; decide), ?_⟩⟩
      exact ⟨rfl, _, _, rfl, Int.emod_nonneg _ (by decide), Int.emod_lt_of_pos _ (by decide)⟩
    · obtain ⟨rfl, y, m, rfl, m0, m1⟩ := h
      refine ⟨.ref a, rfl, a, rfl, ⟨_, ha⟩, fun D nD => ?_⟩
      refine lcG (walk_list (K := K) (a := a) (xs := ns.map V.int)) (item := fun i => .int (ns.getD i 0)) (fun _ => true) (fun i => .int (if ns.getD i 0 < 0 then - ns.getD i 0 else ns.getD i 0)) nD (by rw [List.length_map]; omega)
        (fun i H x H' _ y => ⟨y.1, ?_⟩) (fun H e => sqL_ext e ha) (fun i H2 Q _ _ h => tY h)
        (fun i H2 Q hi _ e h => ⟨.int (ns.getD i 0), rfl, ns.getD i 0, rfl, h H2 Ext.refl⟩) (fun H1 e hD => ?_)
      · have hx := y.2
        rw [List.getElem?_map] at hx
        obtain ⟨t, ht, rfl⟩ := Option.map_eq_some_iff.mp hx
        rw [getD_of ht]
      · rw [filt_true, List.length_map, range_getD 0 (fun t => V.int (if t < 0 then - t else t)) ns] at hD
        obtain ⟨cs, hcs⟩ : ∃ cs : List Int, cs = ns.map fun t => if t < 0 then -t else t := ⟨_, rfl⟩
        have hD : H1 D = some (.lst (cs.map V.int)) := by rw [hD, hcs, List.map_map]; rfl
        have len : cs.length = ns.length := by rw [hcs, List.length_map]
        have c0 : ∀ x ∈ cs, 0 ≤ x := fun x hx => by
          rw [hcs] at hx
          obtain ⟨t, _, rfl⟩ := List.mem_map.mp hx
          by_cases z : t < 0
          · rw [if_pos z]; omega
          · rw [if_neg z]; omega
        refine fun p np => ⟨.ref D, rfl, D, cs.map V.int, rfl, sqL_of (by rw [upd_ne (ne_of_none hD np)]; exact hD), fun cl ncl => ?_⟩
        have npc : cl ≠ p := fun z => by rw [z, upd_same] at ncl; cases ncl
        have ncl0 : H1 cl = none := by rw [upd_ne npc] at ncl; exact ncl
        refine ⟨.int m, rfl, ?_, DL.srcK cl ⟨1, m, 0, cs.reverse⟩, rfl, (by show 4 ≤ 15; decide), ?_⟩
        · rw [upd_ne (Ne.symm npc), upd_same]
        · rw [merge_src]
          refine q _ p cl ⟨1, m, 0, cs.reverse⟩ (((e.updN (e.fre p np)).updN (e.fre cl ncl0)).updN (e.fre p np)) (e.fre p np) (e.fre cl ncl0) ⟨upd_same, ?_, (by show (0 : Int) ≤ 1; decide), m0, (by show (0 : Int) ≤ 0; decide), fun x hx => c0 x (List.mem_reverse.mp hx), ?_⟩
          · rw [upd_ne npc, upd_same, List.map_reverse]
          · show cs.reverse.length ≤ 63
            rw [List.length_reverse]; omega
end
end K22
set_option Elab.async false
set_option linter.all false
set_option maxRecDepth 100000
set_option maxHeartbeats 4000000
namespace K22
open PySem PySem.Spec PyProof.Rows L2 DL Y3
def m_law : M Fl := mSeq (mAsg (mLst (aCons (opd (mC (.str "take"))) (aCons (opd (mC (.str "grant"))) (aCons (opd (mC (.str "free"))) (aCons (opd (mC (.str "bar"))) (aCons (opd (mC (.str "ask"))) (aCons (opd (mC (.str "end"))) (aNil)))))))) 2) (mSeq (mPar 3 4 (mLst (aNil)) (mLst (aNil))) (mSeq (mRg rg1 (aCons (opd (mC (.int 7))) (aNil)) >>= mFor (gN 5) (mSeq (mAsg (mCall F__law_draw_letter (aCons (mSlot 1) (aCons (mSlot 2) (aNil)))) 6) (mSeq (mAsg (mCall F__law_right_answers (aCons (mSlot 1) (aCons (mSlot 6) (aNil)))) 7) (mSeq (mAsg (mOp addD (mSlot 7) (opd (mLc [9] (mSq (mVar 7)) (gN 9) (mYes) (mCall F__law_near_answer (aCons (mSlot 1) (aCons (mSlot 9) (aNil))))))) 8) (mSeq (mAsg (mOp addD (opd (mOp addD (mSlot 8) (opd (mLc [10] (mRg rg1 (aCons (opd (mC (.int 4))) (aNil))) (gN 10) (mYes) (mCall F__law_draw_letter (aCons (mSlot 1) (aCons (opd (mCall F__law_all_words aNil)) (aNil)))))))) (opd (mLst (aCons (mSlot 6) (aNil))))) 8) (mSeq (mSq (mVar 8) >>= mFor (gN 9) (mSeq (mSq (mTup (aCons (mSlot 6) (aCons (opd (mCall F__law_draw_letter (aCons (mSlot 1) (aCons (opd (mCall F__law_all_words aNil)) (aNil))))) (aNil)))) >>= mFor (gN 11) (mSeq (mIf (mB (mOp neD (opd (mBui (op1 reprF) (aCons (opd (mCall F_is_answer (aCons (mSlot 11) (aCons (mSlot 9) (aNil))))) (aNil)))) (opd (mBui (op1 reprF) (aCons (opd (mCall F__law_answers (aCons (mSlot 11) (aCons (mSlot 9) (aNil))))) (aNil)))))) (mSeq (mRet (mC (.bl false))) (mNx)) (mNx)) (mNx))) (mNx))) (mSeq (mAsg (mOp addD (mSlot 3) (opd (mSl (opd (mLst (aCons (mSlot 6) (aCons (mSlot 6) (aCons (opd (mCall F__law_draw_letter (aCons (mSlot 1) (aCons (opd (mCall F__law_all_words aNil)) (aNil))))) (aNil)))))) (pNo) (pIs (opd (mOp addD (opd (mC (.int 1))) (opd (mCall F__law_pick (aCons (mSlot 1) (aCons (opd (mC (.int 3))) (aNil))))))))))) 3) (mSeq (mAsg (mOp addD (mSlot 4) (opd (mSl (mSlot 8) (pNo) (pIs (opd (mCall F__law_pick (aCons (mSlot 1) (aCons (opd (mC (.int 4))) (aNil))))))))) 4) (mNx))))))))) (mSeq (mPar 3 12 (mCall F__law_any_order (aCons (mSlot 1) (aCons (mSlot 3) (aNil)))) (mLst (aNil))) (mSeq (mSq (mVar 3) >>= mFor (gN 6) (mSeq (mAsg (mOp eqD (opd (mLc [9] (mSq (mVar 4)) (gN 9) (mTru (opd (mCall F__law_answers (aCons (mSlot 6) (aCons (mSlot 9) (aNil)))))) (mC (.int 1)))) (opd (mLst (aNil)))) 13) (mSeq (mAsg (mOp addD (mSlot 12) (opd (mIf (mAnd (mB (mOp (inDV false) (opd (mOp ixD (mSlot 6) (opd (mC (.int 0))))) (mSlot 2))) (mAnd (mB (mOp (inDV true) (mSlot 6) (mSlot 12))) (mTru (mSlot 13)))) (mLst (aCons (mSlot 6) (aNil))) (mLst (aNil))))) 12) (mNx)))) (mSeq (mIf (mB (mOp neD (opd (mBui (op1 reprF) (aCons (opd (mLst (aCons (opd (mCall F_unanswered (aCons (mSlot 3) (aCons (mSlot 4) (aNil))))) (aCons (opd (mCall F_unanswered (aCons (opd (mBui (op1 tupF) (aCons (mSlot 3) (aNil)))) (aCons (opd (mBui (op1 tupF) (aCons (mSlot 4) (aNil)))) (aNil))))) (aNil))))) (aNil)))) (opd (mBui (op1 reprF) (aCons (opd (mOp mulD (opd (mLst (aCons (opd (mBui (op1 tupF) (aCons (mSlot 12) (aNil)))) (aNil)))) (opd (mC (.int 2))))) (aNil)))))) (mSeq (mRet (mC (.bl false))) (mNx)) (mNx)) (mSeq (mAsg (mDisp (pCons (opd (mC (.str "take"))) (opd (mTup (aCons (opd (mC (.str "epoch"))) (aCons (opd (mC (.str "moment"))) (aNil))))) (pCons (opd (mC (.str "grant"))) (opd (mTup (aCons (opd (mC (.str "fence"))) (aCons (opd (mC (.str "holds"))) (aCons (opd (mC (.str "moment"))) (aNil)))))) (pCons (opd (mC (.str "free"))) (opd (mTup (aCons (opd (mC (.str "freed"))) (aCons (opd (mC (.str "holds"))) (aCons (opd (mC (.str "moment"))) (aNil)))))) (pNil))))) 14) (mSeq (mAsgH (mTup (aCons (opd (mTup (aCons (opd (mC (.str "barred"))) (aCons (opd (mC (.str "moment"))) (aNil))))) (aCons (opd (mTup (aCons (opd (mC (.str "ends"))) (aCons (opd (mC (.str "holds"))) (aCons (opd (mC (.str "moment"))) (aNil)))))) (aNil)))) (gTp 2 (gCn (gSb 14 (opd (mC (.str "bar")))) (gCn (gSb 14 (opd (mC (.str "end")))) (gNl))))) (mSeq (mSq (mOp addD (mSlot 3) (mSlot 4)) >>= mFor (gN 6) (mSeq (mIf (mB (mOp neD (opd (mCall F_fields_of (aCons (mSlot 6) (aNil)))) (opd (mGet2 (mSlot 14) (opd (mOp ixD (mSlot 6) (opd (mC (.int 0))))) (opd (mTup (aNil))))))) (mSeq (mRet (mC (.bl false))) (mNx)) (mNx)) (mNx))) (mSeq (mAsg (mSl (opd (mBui (op1 tupF) (aCons (opd (mOp addD (mSlot 4) (mSlot 3))) (aNil)))) (pNo) (pIs (opd (mCall F__law_pick (aCons (mSlot 1) (aCons (opd (mC (.int 12))) (aNil))))))) 15) (mSeq (mRg rg1 (aCons (opd (mC (.int 3))) (aNil)) >>= mFor (gN 5) (mSeq (mAsg (mCall F__law_pick (aCons (mSlot 1) (aCons (opd (mC (.int 40))) (aNil)))) 16) (mSeq (mAsg (mOp modD (opd (mBui (op1 intF) (aCons (mSlot 16) (aNil)))) (opd (mBui (op2' max2) (aCons (opd (mC (.int 1))) (aCons (opd (mBui (op1 lenD) (aCons (mSlot 15) (aNil)))) (aNil)))))) 17) (mSeq (mAsg (mIf (mB (mOp neD (mSlot 15) (opd (mTup (aNil))))) (mTup (aCons (opd (mOp ixD (mSlot 15) (mSlot 17))) (aCons (opd (mOp addD (opd (mSl (mSlot 15) (pNo) (pIs (mSlot 17)))) (opd (mSl (mSlot 15) (pIs (opd (mOp addD (mSlot 17) (opd (mC (.int 1)))))) (pNo))))) (aNil)))) (mTup (aCons (opd (mC .non)) (aCons (opd (mTup (aNil))) (aNil))))) 12) (mSeq (mIf (mB (mOp neD (opd (mBui (op1 reprF) (aCons (opd (mLst (aCons (opd (mCall F_taken_out (aCons (mSlot 15) (aCons (mSlot 16) (aNil))))) (aCons (opd (mCall F_doubled (aCons (mSlot 15) (aCons (mSlot 16) (aNil))))) (aNil))))) (aNil)))) (opd (mBui (op1 reprF) (aCons (opd (mLst (aCons (mSlot 12) (aCons (opd (mOp addD (mSlot 15) (opd (mSl (mSlot 15) (pIs (mSlot 17)) (pIs (opd (mOp addD (mSlot 17) (opd (mC (.int 1)))))))))) (aNil))))) (aNil)))))) (mSeq (mRet (mC (.bl false))) (mNx)) (mNx)) (mSeq (mSq (mLst (aCons (opd (mTup (aCons (opd (mC (.str "store"))) (aNil)))) (aCons (opd (mTup (aCons (opd (mC (.str "keeper"))) (aNil)))) (aCons (opd (mTup (aCons (opd (mC (.str "machine"))) (aCons (opd (mCall F__law_pick (aCons (mSlot 1) (aCons (opd (mC (.int 8))) (aNil))))) (aNil))))) (aNil))))) >>= mFor (gN 18) (mSeq (mIf (mB (mOp neD (opd (mCall F_for_whom (aCons (mSlot 15) (aCons (mSlot 18) (aNil))))) (opd (mBui (op1 tupF) (aCons (opd (mLc [6] (mSq (mVar 15)) (gN 6) (mB (mOp eqD (opd (mCall F_goes_to (aCons (mSlot 6) (aNil)))) (mSlot 18))) (mVar 6))) (aNil)))))) (mSeq (mRet (mC (.bl false))) (mNx)) (mNx)) (mNx))) (mNx))))))) (mSeq (mRet (mC (.bl true))) (mNx))))))))))))
def lawLevel : Nat := 9
structure B_law (P : Program) (w : World) (K : PySem.W.Frag) (mg : Str → Option Value) (base : Heap) (T : List Addr) : Prop where
  _law_all_words : FnA P w K mg base T 1 "_law_all_words" [] F__law_all_words
  _law_answers : FnA P w K mg base T 1 "_law_answers" ["_law_letter", "_law_answer"] F__law_answers
  _law_any_order : FnA P w K mg base T 2 "_law_any_order" ["_law_source", "_law_things"] F__law_any_order
  _law_draw_letter : FnA P w K mg base T 7 "_law_draw_letter" ["_law_source", "_law_words"] F__law_draw_letter
  _law_near_answer : FnA P w K mg base T 7 "_law_near_answer" ["_law_source", "_law_answer"] F__law_near_answer
  _law_pick : FnA P w K mg base T 1 "_law_pick" ["_law_source", "_law_most"] F__law_pick
  _law_right_answers : FnA P w K mg base T 8 "_law_right_answers" ["_law_source", "_law_letter"] F__law_right_answers
  doubled : FnA P w K mg base T 1 "doubled" ["air", "k"] F_doubled
  fields_of : FnA P w K mg base T 1 "fields_of" ["letter"] F_fields_of
  for_whom : FnA P w K mg base T 3 "for_whom" ["air", "whom"] F_for_whom
  goes_to : FnA P w K mg base T 1 "goes_to" ["letter"] F_goes_to
  is_answer : FnA P w K mg base T 1 "is_answer" ["letter", "answer"] F_is_answer
  taken_out : FnA P w K mg base T 1 "taken_out" ["air", "k"] F_taken_out
  unanswered : FnA P w K mg base T 3 "unanswered" ["sent", "heard"] F_unanswered
/-- the slots behind the first statement -/
def lawEnv : DL.Env := none :: some (.sh .src) :: List.replicate 17 none
theorem law_body {P : Program} {w : World} {K : PySem.W.Frag} {mg : Str → Option Value} {base : Heap} {T : List Addr} (Z : Free mg) (C : Csts K w mg) (B : B_law P w K mg base T) (f : Addr) (cdv : Value) (A : Around) (outer : List PySem.Env) (s : Shared) (H : Hp) (E : XK) (g : G) (hK : g.K = K) (hT : g.T = T) (hz : g.rz = false) (ga : A.guards = some []) (hr : Room 8 (cxA P w K mg base n_law "law" s_law f cdv A outer s H E).A) :
    DSs (cxA P w K mg base n_law "law" s_law f cdv A outer s H E) g ((defBody s_law).drop 1) m_law := by
    have hK := hK.symm
    have nd := sc_law.nd
    exact (dss_cons (ds_set (i := 2) nd rfl (by first | exact .inl rfl | exact .inr rfl) (de_lst (da_cons (do_of de_str) (da_cons (do_of de_str) (da_cons (do_of de_str) (da_cons (do_of de_str) (da_cons (do_of de_str) (da_cons (do_of de_str) da_nil))))))))
    (dss_cons (ds_par (i := 3) (j := 4) rfl nd rfl rfl (by decide) rfl rfl (de_lst da_nil) (de_lst da_nil))
    (dss_cons (ds_for PassesOwn.never rfl (di_range1 (by rfl) Z.range (da_cons (do_of de_int) da_nil)) (dg_name nd rfl (by first | exact .inl rfl | exact .inr rfl)) (nox_name 5) (dss_cons (ds_set (i := 6) nd rfl (by first | exact .inl rfl | exact .inr rfl) (de_callT (j := 7) hK hT B._law_draw_letter ga hr (by decide) (by rfl) (da_cons (do_name 1) (da_cons (do_name 2) da_nil)) (alen_cons (alen_cons alen_nil)) hz))
    (dss_cons (ds_set (i := 7) nd rfl (by first | exact .inl rfl | exact .inr rfl) (de_callT (j := 8) hK hT B._law_right_answers ga hr (by decide) (by rfl) (da_cons (do_name 1) (da_cons (do_name 6) da_nil)) (alen_cons (alen_cons alen_nil)) hz))
    (dss_cons (ds_set (i := 8) nd rfl (by first | exact .inl rfl | exact .inr rfl) (de_add hK (do_name 7) (do_of (de_lc (own := [("_law_answer", 9)]) rfl nd (di_seq hK (de_name 7)) (blkOk_by (N := n_law) (sc := defScope s_law) (by decide +kernel)) (by decide) (nox_name 9) (fun _ _ _ _ _ => (dg_name nd rfl (by first | exact .inl rfl | exact .inr rfl))) (fun _ _ _ _ _ => have hz : (g.nx).rz = false := rfl; dts_nil) (fun _ _ _ _ _ => have hz : (g.nx).rz = false := rfl; (de_callT (j := 7) hK hT B._law_near_answer ga hr (by decide) (by rfl) (da_cons (do_name 1) (da_cons (do_name 9) da_nil)) (alen_cons (alen_cons alen_nil)) hz))))))
    (dss_cons (ds_set (i := 8) nd rfl (by first | exact .inl rfl | exact .inr rfl) (de_add hK (do_of (de_add hK (do_name 8) (do_of (de_lc (own := [("_law_turn", 10)]) rfl nd (di_range1 (by rfl) Z.range (da_cons (do_of de_int) da_nil)) (blkOk_by (N := n_law) (sc := defScope s_law) (by decide +kernel)) (by decide) (nox_name 10) (fun _ _ _ _ _ => (dg_name nd rfl (by first | exact .inl rfl | exact .inr rfl))) (fun _ _ _ _ _ => have hz : (g.nx).rz = false := rfl; dts_nil) (fun _ _ _ _ _ => have hz : (g.nx).rz = false := rfl; (de_callT (j := 7) hK hT B._law_draw_letter ga hr (by decide) (by rfl) (da_cons (do_name 1) (da_cons (do_of (de_callT0 (j := 1) hK hT B._law_all_words ga hr (by decide) (by rfl) hz)) da_nil)) (alen_cons (alen_cons alen_nil)) hz)))))) (do_of (de_lst (da_cons (do_name 6) da_nil)))))
    (dss_cons (ds_for PassesOwn.never rfl (di_seq hK (de_name 8)) (dg_name nd rfl (by first | exact .inl rfl | exact .inr rfl)) (nox_name 9) (dss_cons (ds_for PassesOwn.never rfl (di_seq hK (de_tup (da_cons (do_name 6) (da_cons (do_of (de_callT (j := 7) hK hT B._law_draw_letter ga hr (by decide) (by rfl) (da_cons (do_name 1) (da_cons (do_of (de_callT0 (j := 1) hK hT B._law_all_words ga hr (by decide) (by rfl) hz)) da_nil)) (alen_cons (alen_cons alen_nil)) hz)) da_nil)))) (dg_name nd rfl (by first | exact .inl rfl | exact .inr rfl)) (nox_name 11) (dss_cons (ds_if (dt_ne hK hr (do_of (de_repr hK ga hr Z (by rfl) (da_cons (do_of (de_callT (j := 1) hK hT B.is_answer ga hr (by decide) (by rfl) (da_cons (do_name 11) (da_cons (do_name 9) da_nil)) (alen_cons (alen_cons alen_nil)) hz)) da_nil))) (do_of (de_repr hK ga hr Z (by rfl) (da_cons (do_of (de_callT (j := 1) hK hT B._law_answers ga hr (by decide) (by rfl) (da_cons (do_name 11) (da_cons (do_name 9) da_nil)) (alen_cons (alen_cons alen_nil)) hz)) da_nil)))) (dss_cons (ds_ret de_bl)
    dss_nil) dss_nil)
    dss_nil))
    dss_nil))
    (dss_cons (ds_set (i := 3) nd rfl (by first | exact .inl rfl | exact .inr rfl) (de_add hK (do_name 3) (do_of (de_slice hK (do_of (de_lst (da_cons (do_name 6) (da_cons (do_name 6) (da_cons (do_of (de_callT (j := 7) hK hT B._law_draw_letter ga hr (by decide) (by rfl) (da_cons (do_name 1) (da_cons (do_of (de_callT0 (j := 1) hK hT B._law_all_words ga hr (by decide) (by rfl) hz)) da_nil)) (alen_cons (alen_cons alen_nil)) hz)) da_nil))))) dp_none (dp_some (do_of (de_add hK (do_of de_int) (do_of (de_callT (j := 1) hK hT B._law_pick ga hr (by decide) (by rfl) (da_cons (do_name 1) (da_cons (do_of de_int) da_nil)) (alen_cons (alen_cons alen_nil)) hz)))))))))
    (dss_cons (ds_set (i := 4) nd rfl (by first | exact .inl rfl | exact .inr rfl) (de_add hK (do_name 4) (do_of (de_slice hK (do_name 8) dp_none (dp_some (do_of (de_callT (j := 1) hK hT B._law_pick ga hr (by decide) (by rfl) (da_cons (do_name 1) (da_cons (do_of de_int) da_nil)) (alen_cons (alen_cons alen_nil)) hz)))))))
    dss_nil))))))))
    (dss_cons (ds_par (i := 3) (j := 12) rfl nd rfl rfl (by decide) rfl rfl (de_callT (j := 2) hK hT B._law_any_order ga hr (by decide) (by rfl) (da_cons (do_name 1) (da_cons (do_name 3) da_nil)) (alen_cons (alen_cons alen_nil)) hz) (de_lst da_nil))
    (dss_cons (ds_for PassesOwn.never rfl (di_seq hK (de_name 3)) (dg_name nd rfl (by first | exact .inl rfl | exact .inr rfl)) (nox_name 6) (dss_cons (ds_set (i := 13) nd rfl (by first | exact .inl rfl | exact .inr rfl) (de_eq hK hr (do_of (de_lc (own := [("_law_answer", 9)]) rfl nd (di_seq hK (de_name 4)) (blkOk_by (N := n_law) (sc := defScope s_law) (by decide +kernel)) (by decide) (nox_name 9) (fun _ _ _ _ _ => (dg_name nd rfl (by first | exact .inl rfl | exact .inr rfl))) (fun _ _ _ _ _ => have hz : (g.nx).rz = false := rfl; (dts_one (dt_val hK (do_of (de_callT (j := 1) hK hT B._law_answers ga hr (by decide) (by rfl) (da_cons (do_name 6) (da_cons (do_name 9) da_nil)) (alen_cons (alen_cons alen_nil)) hz))))) (fun _ _ _ _ _ => have hz : (g.nx).rz = false := rfl; de_int))) (do_of (de_lst da_nil))))
    (dss_cons (ds_set (i := 12) nd rfl (by first | exact .inl rfl | exact .inr rfl) (de_add hK (do_name 12) (do_of (de_if (dt_bool (dw_and (dt_in hK hr (do_of (de_ix hK hr (do_name 6) (do_of de_int))) (do_name 2)) (dw_and (dt_notIn hK hr (do_name 6) (do_name 12)) (dw_and1 (dt_val hK (do_name 13)))))) (de_lst (da_cons (do_name 6) da_nil)) (de_lst da_nil)))))
    dss_nil)))
    (dss_cons (ds_if (dt_ne hK hr (do_of (de_repr hK ga hr Z (by rfl) (da_cons (do_of (de_lst (da_cons (do_of (de_callT (j := 3) hK hT B.unanswered ga hr (by decide) (by rfl) (da_cons (do_name 3) (da_cons (do_name 4) da_nil)) (alen_cons (alen_cons alen_nil)) hz)) (da_cons (do_of (de_callT (j := 3) hK hT B.unanswered ga hr (by decide) (by rfl) (da_cons (do_of (de_tuple hK Z (by rfl) (da_cons (do_name 3) da_nil))) (da_cons (do_of (de_tuple hK Z (by rfl) (da_cons (do_name 4) da_nil))) da_nil)) (alen_cons (alen_cons alen_nil)) hz)) da_nil)))) da_nil))) (do_of (de_repr hK ga hr Z (by rfl) (da_cons (do_of (de_mul hK (do_of (de_lst (da_cons (do_of (de_tuple hK Z (by rfl) (da_cons (do_name 12) da_nil))) da_nil))) (do_of de_int))) da_nil)))) (dss_cons (ds_ret de_bl)
    dss_nil) dss_nil)
    (dss_cons (ds_set (i := 14) nd rfl (by first | exact .inl rfl | exact .inr rfl) (de_disp (dps_cons (do_of de_str) (do_of (de_tup (da_cons (do_of de_str) (da_cons (do_of de_str) da_nil)))) (dps_cons (do_of de_str) (do_of (de_tup (da_cons (do_of de_str) (da_cons (do_of de_str) (da_cons (do_of de_str) da_nil))))) (dps_cons (do_of de_str) (do_of (de_tup (da_cons (do_of de_str) (da_cons (do_of de_str) (da_cons (do_of de_str) da_nil))))) dps_nil)))))
    (dss_cons (ds_asgH (de_tup (da_cons (do_of (de_tup (da_cons (do_of de_str) (da_cons (do_of de_str) da_nil)))) (da_cons (do_of (de_tup (da_cons (do_of de_str) (da_cons (do_of de_str) (da_cons (do_of de_str) da_nil))))) da_nil))) (dh_tup hK rfl (dhs_cons (dh_sub hr (pv 14) (do_of de_str)) (dhs_cons (dh_sub hr (pv 14) (do_of de_str)) dhs_nil))) (nox_tup (nox_cn (nox_sb (nox_c)) (nox_cn (nox_sb (nox_c)) nox_nl))))
    (dss_cons (ds_for PassesOwn.never rfl (di_seq hK (de_add hK (do_name 3) (do_name 4))) (dg_name nd rfl (by first | exact .inl rfl | exact .inr rfl)) (nox_name 6) (dss_cons (ds_if (dt_ne hK hr (do_of (de_callT (j := 1) hK hT B.fields_of ga hr (by decide) (by rfl) (da_cons (do_name 6) da_nil) (alen_cons alen_nil) hz)) (do_of (de_get2 hr (do_name 14) (do_of (de_ix hK hr (do_name 6) (do_of de_int))) (do_of (de_tup da_nil))))) (dss_cons (ds_ret de_bl)
    dss_nil) dss_nil)
    dss_nil))
    (dss_cons (ds_set (i := 15) nd rfl (by first | exact .inl rfl | exact .inr rfl) (de_slice hK (do_of (de_tuple hK Z (by rfl) (da_cons (do_of (de_add hK (do_name 4) (do_name 3))) da_nil))) dp_none (dp_some (do_of (de_callT (j := 1) hK hT B._law_pick ga hr (by decide) (by rfl) (da_cons (do_name 1) (da_cons (do_of de_int) da_nil)) (alen_cons (alen_cons alen_nil)) hz)))))
    (dss_cons (ds_for PassesOwn.never rfl (di_range1 (by rfl) Z.range (da_cons (do_of de_int) da_nil)) (dg_name nd rfl (by first | exact .inl rfl | exact .inr rfl)) (nox_name 5) (dss_cons (ds_set (i := 16) nd rfl (by first | exact .inl rfl | exact .inr rfl) (de_callT (j := 1) hK hT B._law_pick ga hr (by decide) (by rfl) (da_cons (do_name 1) (da_cons (do_of de_int) da_nil)) (alen_cons (alen_cons alen_nil)) hz))
    (dss_cons (ds_set (i := 17) nd rfl (by first | exact .inl rfl | exact .inr rfl) (de_mod (do_of (de_int' Z (by rfl) (da_cons (do_name 16) da_nil))) (do_of (de_max rfl Z (by rfl) (da_cons (do_of de_int) (da_cons (do_of (de_len hK Z (by rfl) (da_cons (do_name 15) da_nil))) da_nil))))))
    (dss_cons (ds_set (i := 12) nd rfl (by first | exact .inl rfl | exact .inr rfl) (de_if (dt_ne hK hr (do_name 15) (do_of (de_tup da_nil))) (de_tup (da_cons (do_of (de_ix hK hr (do_name 15) (do_name 17))) (da_cons (do_of (de_add hK (do_of (de_slice hK (do_name 15) dp_none (dp_some (do_name 17)))) (do_of (de_slice hK (do_name 15) (dp_some (do_of (de_add hK (do_name 17) (do_of de_int)))) dp_none)))) da_nil))) (de_tup (da_cons (do_of de_non) (da_cons (do_of (de_tup da_nil)) da_nil)))))
    (dss_cons (ds_if (dt_ne hK hr (do_of (de_repr hK ga hr Z (by rfl) (da_cons (do_of (de_lst (da_cons (do_of (de_callT (j := 1) hK hT B.taken_out ga hr (by decide) (by rfl) (da_cons (do_name 15) (da_cons (do_name 16) da_nil)) (alen_cons (alen_cons alen_nil)) hz)) (da_cons (do_of (de_callT (j := 1) hK hT B.doubled ga hr (by decide) (by rfl) (da_cons (do_name 15) (da_cons (do_name 16) da_nil)) (alen_cons (alen_cons alen_nil)) hz)) da_nil)))) da_nil))) (do_of (de_repr hK ga hr Z (by rfl) (da_cons (do_of (de_lst (da_cons (do_name 12) (da_cons (do_of (de_add hK (do_name 15) (do_of (de_slice hK (do_name 15) (dp_some (do_name 17)) (dp_some (do_of (de_add hK (do_name 17) (do_of de_int)))))))) da_nil)))) da_nil)))) (dss_cons (ds_ret de_bl)
    dss_nil) dss_nil)
    (dss_cons (ds_for PassesOwn.never rfl (di_seq hK (de_lst (da_cons (do_of (de_tup (da_cons (do_of de_str) da_nil))) (da_cons (do_of (de_tup (da_cons (do_of de_str) da_nil))) (da_cons (do_of (de_tup (da_cons (do_of de_str) (da_cons (do_of (de_callT (j := 1) hK hT B._law_pick ga hr (by decide) (by rfl) (da_cons (do_name 1) (da_cons (do_of de_int) da_nil)) (alen_cons (alen_cons alen_nil)) hz)) da_nil)))) da_nil))))) (dg_name nd rfl (by first | exact .inl rfl | exact .inr rfl)) (nox_name 18) (dss_cons (ds_if (dt_ne hK hr (do_of (de_callT (j := 3) hK hT B.for_whom ga hr (by decide) (by rfl) (da_cons (do_name 15) (da_cons (do_name 18) da_nil)) (alen_cons (alen_cons alen_nil)) hz)) (do_of (de_tuple hK Z (by rfl) (da_cons (do_of (de_lc (own := [("_law_letter", 6)]) rfl nd (di_seq hK (de_name 15)) (blkOk_by (N := n_law) (sc := defScope s_law) (by decide +kernel)) (by decide) (nox_name 6) (fun _ _ _ _ _ => (dg_name nd rfl (by first | exact .inl rfl | exact .inr rfl))) (fun _ _ _ _ _ => have hz : (g.nx).rz = false := rfl; (dts_one (dt_eq hK hr (do_of (de_callT (j := 1) hK hT B.goes_to ga hr (by decide) (by rfl) (da_cons (do_name 6) da_nil) (alen_cons alen_nil) hz)) (do_name 18)))) (fun _ _ _ _ _ => have hz : (g.nx).rz = false := rfl; (de_name 6)))) da_nil)))) (dss_cons (ds_ret de_bl)
    dss_nil) dss_nil)
    dss_nil))
    dss_nil))))))
    (dss_cons (ds_ret de_bl)
    dss_nil))))))))))))
theorem env1 {y x : DV} {n i : Nat} (h : (none :: some y :: List.replicate n none)[i]? = some (some x)) : i = 1 ∧ x = y := by
  match i, h with
  | 0, h => cases h
  | 1, h => exact ⟨rfl, by cases h; rfl⟩
  | i + 2, h =>
    have h : (List.replicate n (none : Option DV))[i]? = some (some x) := h
    rw [List.getElem?_replicate] at h
    split at h <;> cases h
/-- a source just opened -/
structure SrcOk (S : Src) : Prop where
  l0 : 0 ≤ S.left
  m0 : 0 ≤ S.mixed
  t0 : 0 ≤ S.turn
  c0 : ∀ x ∈ S.cells, 0 ≤ x
  len : S.cells.length ≤ 63
theorem SrcOk.of {H : Hp} {d cl : Addr} {S : Src} (h : SrcAt H d cl S) : SrcOk S := ⟨h.l0, h.m0, h.t0, h.c0, h.len⟩
def spLawD (K : PySem.W.Frag) (T : List Addr) : Sp := fun vs H Q _ => ∃ (a : Addr) (ns : List Int), vs = [.ref a] ∧ SqL K H a (ns.map V.int) ∧ ns.length ≤ 63 ∧ (∀ t ∈ T, GxR.TabG H t) ∧ ∀ H', Q (.bl true) H'
theorem a_law {P : Program} {w : World} {K : PySem.W.Frag} {mg : Str → Option Value} {base : Heap} {T : List Addr} {f fo : Addr} {fd fdo : FuncData} (Z : Free mg) (C : Csts K w mg) (B : B_law P w K mg base T) (F : Fun K "law" "law" s_law f fd)
    (Fo : FnG P w K mg base CX0 8 fo fdo ["_law_script"] (spOpenD K)) (mo : mg "_law_open_cells" = some (.ref fo)) (ko : PySem.W.keepIn K (.ref fo) = true) (bo : Binds K fdo ["_law_script"] [])
    (run : ∀ S, SrcOk S → ∃ ρ' S', m_law lawEnv S = some (.ok (.ret (.sh (.bl true))) ρ' S')) : FnG P w K mg base CX0 (8 + 1) f fd ["_law_script"] (spLawD K T) := by
  refine F.okG sc_law (fun vs H Q E h => ?_) (fun cdv A outer s H vs Q E ga hr h => ?_)
  · obtain ⟨a, ns, rfl, _⟩ := h
    rfl
  · obtain ⟨a, ns, rfl, ha, hn, hT, q⟩ := h
    have nd := sc_law.nd
    have rest : PSs (cxA P w K mg base n_law "law" s_law f cdv A outer s H E) ((defBody s_law).drop 1) (fun D σ H1 => ∃ g : G, g.K = K ∧ g.T = T ∧ g.rz = false ∧ tOfS g m_law D σ H1) :=
      ⟨fun pins z σ H1 D I ⟨g, h1, h2, h3, h4⟩ => (law_body Z C B f cdv A outer s H E g h1 h2 h3 ga hr).run pins z σ H1 D I h4⟩
    refine ⟨_, (show PSs (cxA P w K mg base n_law "law" s_law f cdv A outer s H E) (defBody s_law) _ from pss_cons (ps_set (i := 1) nd rfl (by first | exact .inl rfl | exact .inr rfl) (pe_callG Fo ga hr (by rfl) mo ko bo pass0 (pa_cons (pv 0) pa_nil))) rest).nox, ?_⟩
    refine ⟨.ref a, rfl, a, ns, rfl, ha, hn, fun H' d cl S e nd nc hs => ?_⟩
    refine ⟨⟨K, d, cl, T, H', fun _ => False, fun _ _ _ => False, false⟩, rfl, rfl, rfl, lawEnv, S, fun _ => False, ?_, ?_⟩
    · refine ⟨rfl, fun i d1 h => ?_, fun i d1 h => ?_, fun i j d1 e1 a1 h => ?_, hs, fun _ z => z.elim, fun _ z => z.elim, fun _ _ z _ => z, fun _ z => z, fun _ _ _ z => z, fun t ht => e.tab t (hT t ht)⟩
      · obtain ⟨rfl, e1⟩ := env1 h
        cases e1
        exact ⟨.ref d, rfl, .src⟩
      · obtain ⟨_, e1⟩ := env1 h
        cases e1
      · obtain ⟨_, e1⟩ := env1 h
        cases e1
    · obtain ⟨ρ', S', hm⟩ := run S (SrcOk.of hs)
      unfold wp
      rw [hm]
      intro v σ' H'' Fz' I k av
      have e : v = .bl true := at_bl av
      subst e
      exact q H''

end K22
set_option Elab.async false
set_option linter.all false
set_option maxRecDepth 100000
set_option maxHeartbeats 1000000
/-! runs over data, step by step: what the mathematics of a law uses -/
namespace DL
open PySem PySem.Spec PyProof.Rows L2
abbrev E0' : Po D := fun _ _ _ => False
section
variable {α β : Type} {ρ : Env} {S : Src} {E : Po D}
theorem wq_bind {m : M α} {f : α → M β} {Q : Po β} : wp (m >>= f) ρ S Q E = wp m ρ S (fun a ρ' S' => wp (f a) ρ' S' Q E) E := wp_bind
theorem wq_pure {a : α} {Q : Po α} : wp (pure a) ρ S Q E = Q a ρ S := rfl
theorem wq_of {o : Option α} {Q : Po α} : wp (M.of o) ρ S Q E = ∃ a, o = some a ∧ Q a ρ S := propext wp_of
theorem wq_mC {d : D} {Q : Po DV} : wp (mC d) ρ S Q E = Q (.sh d) ρ S := rfl
theorem wq_opd {m : M DV} {Q : Po Opd} : wp (opd m) ρ S Q E = wp m ρ S (fun r ρ' S' => Q (.val r.d) ρ' S') E := wp_bind
theorem wq_mSlot {i : Nat} {Q : Po Opd} : wp (mSlot i) ρ S Q E = ∃ r, ρ[i]? = some (some r) ∧ Q (.slot i) ρ S := by
  refine propext ⟨fun h => ?_, fun ⟨r, e, h⟩ => by simp only [wp, mSlot, e]; exact h⟩
  cases e : ρ[i]? with
  | none => simp only [wp, mSlot, e] at h
  | some x =>
    cases x with
    | none => simp only [wp, mSlot, e] at h
    | some dv => simp only [wp, mSlot, e] at h; exact ⟨dv, rfl, h⟩
theorem wq_resV {d : D} {Q : Po D} : wp (res (.val d)) ρ S Q E = Q d ρ S := rfl
theorem wq_resS {i : Nat} {Q : Po D} : wp (res (.slot i)) ρ S Q E = ∃ r, ρ[i]? = some (some r) ∧ Q r.d ρ S := by
  refine propext ⟨fun h => ?_, fun ⟨r, e, h⟩ => by simp only [wp, res, e]; exact h⟩
  cases e : ρ[i]? with
  | none => simp only [wp, res, e] at h
  | some x =>
    cases x with
    | none => simp only [wp, res, e] at h
    | some dv => simp only [wp, res, e] at h; exact ⟨dv, rfl, h⟩
theorem wq_mSet {i : Nat} {r : DV} {Q : Po Unit} : wp (mSet i r) ρ S Q E = Q () (ρ.set i (some r)) S := rfl
theorem wq_gN {i : Nat} {d : D} {Q : Po Unit} : wp (gN i d) ρ S Q E = Q () (ρ.set i (some (.sh d))) S := rfl
theorem wq_mNx {Q : Po Fl} : wp mNx ρ S Q E = Q .nx ρ S := rfl
theorem wq_mIf {c : M Bool} {a b : M α} {Q : Po α} : wp (mIf c a b) ρ S Q E = wp c ρ S (fun k ρ' S' => (k = true → wp a ρ' S' Q E) ∧ (k = false → wp b ρ' S' Q E)) E := by
  rw [wp_mIf]
  congr 1
  funext k ρ' S'
  cases k
  · exact propext ⟨fun h => ⟨(fun z => by cases z), fun _ => h⟩, fun h => h.2 rfl⟩
  · exact propext ⟨fun h => ⟨(fun _ => h), (fun z => by cases z)⟩, fun h => h.1 rfl⟩
theorem wq_seq {a b : M Fl} {Q : Po Fl} : wp (mSeq a b) ρ S Q E = wp a ρ S (fun f ρ' S' => match f with | .nx => wp b ρ' S' Q E | f => Q f ρ' S') E := by
  unfold mSeq
  rw [wp_bind]
  congr 1
  funext f ρ' S'
  cases f <;> rfl
theorem wq_asg {m : M DV} {i : Nat} {Q : Po Fl} : wp (mAsg m i) ρ S Q E = wp m ρ S (fun r ρ' S' => Q .nx (ρ'.set i (some r)) S') E := by
  unfold mAsg; rw [wp_bind]; rfl
theorem wq_ret {m : M DV} {Q : Po Fl} : wp (mRet m) ρ S Q E = wp m ρ S (fun r ρ' S' => Q (.ret r) ρ' S') E := by
  unfold mRet; rw [wp_bind]; rfl
theorem wq_drop {m : M DV} {Q : Po Fl} : wp (mDrop m) ρ S Q E = wp m ρ S (fun r ρ' S' => Q .nx ρ' S') E := by
  unfold mDrop; rw [wp_bind]; rfl
theorem wq_op {op : D → D → Option DV} {ma mb : M Opd} {Q : Po DV} : wp (mOp op ma mb) ρ S Q E = wp ma ρ S (fun a ρ1 S1 => wp mb ρ1 S1 (fun b ρ2 S2 => wp (res a) ρ2 S2 (fun x ρ3 S3 => wp (res b) ρ3 S3 (fun y ρ4 S4 => ∃ r, op x y = some r ∧ Q r ρ4 S4) E) E) E) E := by
  unfold mOp
  simp only [wq_bind, wq_of]
theorem wq_k1 {f : D → Option DV} {ma : M Opd} {Q : Po DV} : wp (mK1 f ma) ρ S Q E = wp ma ρ S (fun a ρ1 S1 => wp (res a) ρ1 S1 (fun x ρ3 S3 => ∃ r, f x = some r ∧ Q r ρ3 S3) E) E := by
  unfold mK1
  simp only [wq_bind, wq_of]
theorem wq_mB {m : M DV} {Q : Po Bool} : wp (mB m) ρ S Q E = wp m ρ S (fun r ρ1 S1 => ∃ b, asB r = some b ∧ Q b ρ1 S1) E := by
  unfold mB
  simp only [wq_bind, wq_of]
theorem wq_tru {m : M Opd} {Q : Po Bool} : wp (mTru m) ρ S Q E = wp m ρ S (fun o ρ1 S1 => wp (res o) ρ1 S1 (fun d ρ2 S2 => ∃ b, truD d = some b ∧ Q b ρ2 S2) E) E := by
  unfold mTru
  simp only [wq_bind, wq_of]
theorem wq_not {m : M Bool} {Q : Po Bool} : wp (mNot m) ρ S Q E = wp m ρ S (fun b ρ1 S1 => Q (!b) ρ1 S1) E := by
  unfold mNot
  simp only [wq_bind, wq_pure]
theorem wq_and {a b : M Bool} {Q : Po Bool} : wp (mAnd a b) ρ S Q E = wp a ρ S (fun k ρ1 S1 => (k = true → wp b ρ1 S1 Q E) ∧ (k = false → Q false ρ1 S1)) E := by
  show wp (mIf a b (pure false)) ρ S Q E = _
  rw [wq_mIf]; rfl
theorem wq_or {a b : M Bool} {Q : Po Bool} : wp (mOr a b) ρ S Q E = wp a ρ S (fun k ρ1 S1 => (k = true → Q true ρ1 S1) ∧ (k = false → wp b ρ1 S1 Q E)) E := by
  show wp (mIf a (pure true) b) ρ S Q E = _
  rw [wq_mIf]; rfl
theorem wq_andV {a b : M DV} {Q : Po DV} : wp (mAndV a b) ρ S Q E = wp a ρ S (fun r ρ1 S1 => ∃ k, truD r.d = some k ∧ (k = true → wp b ρ1 S1 Q E) ∧ (k = false → Q (.sh r.d) ρ1 S1)) E := by
  unfold mAndV
  simp only [wq_bind, wq_of]
  congr 1
  funext r ρ1 S1
  refine propext ⟨fun ⟨k, e, h⟩ => ⟨k, e, ?_⟩, fun ⟨k, e, h⟩ => ⟨k, e, ?_⟩⟩
  · cases k
    · exact ⟨(fun z => by cases z), fun _ => h⟩
    · exact ⟨(fun _ => h), (fun z => by cases z)⟩
  · cases k
    · exact h.2 rfl
    · exact h.1 rfl
theorem wq_nil {Q : Po (List Opd)} : wp aNil ρ S Q E = Q [] ρ S := rfl
theorem wq_cons {m : M Opd} {ms : M (List Opd)} {Q : Po (List Opd)} : wp (aCons m ms) ρ S Q E = wp m ρ S (fun o ρ1 S1 => wp ms ρ1 S1 (fun os ρ2 S2 => Q (o :: os) ρ2 S2) E) E := by
  unfold aCons
  simp only [wq_bind, wq_pure]
theorem wq_keep {os : List Opd} {Q : Po (List D)} : wp (keepM os) ρ S Q E = ∃ p, lendR os ρ = some p ∧ Q p.1 p.2 S := by
  refine propext ⟨fun h => ?_, fun ⟨p, e, h⟩ => by simp only [wp, keepM, e]; exact h⟩
  cases e : lendR os ρ with
  | none => simp only [wp, keepM, e] at h
  | some p => simp only [wp, keepM, e] at h; exact ⟨p, rfl, h⟩
theorem wq_tup {ma : M (List Opd)} {Q : Po DV} : wp (mTup ma) ρ S Q E = wp ma ρ S (fun os ρ1 S1 => ∃ p, lendR os ρ1 = some p ∧ p.1.length ≤ sizeLine ∧ Q (.sh (.tup p.1)) p.2 S1) E := by
  unfold mTup
  simp only [wq_bind, wq_of, wq_keep]
  congr 1
  funext os ρ1 S1
  refine propext ⟨fun ⟨p, e, a, h, q⟩ => ⟨p, e, ?_⟩, fun ⟨p, e, l, q⟩ => ⟨p, e, _, if_pos l, q⟩⟩
  by_cases l : p.1.length ≤ sizeLine
  · rw [if_pos l] at h; cases h; exact ⟨l, q⟩
  · rw [if_neg l] at h; cases h
theorem wq_lst {ma : M (List Opd)} {Q : Po DV} : wp (mLst ma) ρ S Q E = wp ma ρ S (fun os ρ1 S1 => ∃ p, lendR os ρ1 = some p ∧ p.1.length ≤ sizeLine ∧ Q (.ow (.lst p.1)) p.2 S1) E := by
  unfold mLst
  simp only [wq_bind, wq_of, wq_keep]
  congr 1
  funext os ρ1 S1
  refine propext ⟨fun ⟨p, e, a, h, q⟩ => ⟨p, e, ?_⟩, fun ⟨p, e, l, q⟩ => ⟨p, e, _, if_pos l, q⟩⟩
  by_cases l : p.1.length ≤ sizeLine
  · rw [if_pos l] at h; cases h; exact ⟨l, q⟩
  · rw [if_neg l] at h; cases h
theorem wq_resL0 {Q : Po (List D)} : wp (resL []) ρ S Q E = Q [] ρ S := rfl
theorem wq_resL1 {o : Opd} {os : List Opd} {Q : Po (List D)} : wp (resL (o :: os)) ρ S Q E = wp (res o) ρ S (fun d ρ1 S1 => wp (resL os) ρ1 S1 (fun ds ρ2 S2 => Q (d :: ds) ρ2 S2) E) E := by
  show wp (res o >>= fun d => resL os >>= fun ds => pure (d :: ds)) ρ S Q E = _
  simp only [wq_bind, wq_pure]
theorem wq_bui {op : List D → Option DV} {ma : M (List Opd)} {Q : Po DV} : wp (mBui op ma) ρ S Q E = wp ma ρ S (fun os ρ1 S1 => wp (resL os) ρ1 S1 (fun ds ρ2 S2 => ∃ r, op ds = some r ∧ Q r ρ2 S2) E) E := by
  unfold mBui
  simp only [wq_bind, wq_of]
theorem wq_pNo {Q : Po (Option Int)} : wp pNo ρ S Q E = Q none ρ S := rfl
theorem wq_pIs {m : M Opd} {Q : Po (Option Int)} : wp (pIs m) ρ S Q E = wp m ρ S (fun o ρ1 S1 => wp (res o) ρ1 S1 (fun d ρ2 S2 => ∃ i, intD d = some i ∧ Q i ρ2 S2) E) E := by
  unfold pIs
  simp only [wq_bind, wq_of]
theorem wq_sl {m : M Opd} {lo hi : M (Option Int)} {Q : Po DV} : wp (mSl m lo hi) ρ S Q E = wp m ρ S (fun o ρ1 S1 => wp lo ρ1 S1 (fun l ρ2 S2 => wp hi ρ2 S2 (fun h ρ3 S3 => wp (res o) ρ3 S3 (fun d ρ4 S4 => ∃ r, slD d l h = some r ∧ Q r ρ4 S4) E) E) E) E := by
  unfold mSl
  simp only [wq_bind, wq_of]
theorem wq_call {F : Fn} {ma : M (List Opd)} {Q : Po DV} : wp (mCall F ma) ρ S Q E = wp ma ρ S (fun os ρ1 S1 => wp (callF F os) ρ1 S1 Q E) E := by
  unfold mCall
  rw [wp_bind]
/-- a call by what is known of the callee -/
theorem wq_callF {F : Fn} {os : List Opd} {ds : List D} {ρL : Env} {r : DV} {S' : Src} {Q : Po DV} (hl : lendR os ρ = some (ds, ρL)) (hF : F ds S = some (.ret r S')) (q : Q r (if purV r = true then ρ else ρL) S') : wp (callF F os) ρ S Q E := by
  unfold wp callF
  rw [hl]
  simp only [hF]
  exact q
theorem wq_sq {m : M DV} {Q : Po (List D)} : wp (mSq m) ρ S Q E = wp m ρ S (fun r ρ1 S1 => ∃ ds, seqD r.d = some ds ∧ Q ds ρ1 S1) E := by
  unfold mSq
  simp only [wq_bind, wq_of]
theorem wq_st {m : M Opd} {Q : Po (List D)} : wp (mSt m) ρ S Q E = wp m ρ S (fun o ρ1 S1 => wp (res o) ρ1 S1 (fun d ρ2 S2 => ∃ ds, (strO d).map signsD = some ds ∧ Q ds ρ2 S2) E) E := by
  unfold mSt
  simp only [wq_bind, wq_of]
theorem wq_rg {f : List D → Option (List D)} {ma : M (List Opd)} {Q : Po (List D)} : wp (mRg f ma) ρ S Q E = wp ma ρ S (fun os ρ1 S1 => wp (resL os) ρ1 S1 (fun ds ρ2 S2 => ∃ r, f ds = some r ∧ Q r ρ2 S2) E) E := by
  unfold mRg
  simp only [wq_bind, wq_of]
theorem wq_par {i j : Nat} {m1 m2 : M DV} {Q : Po Fl} : wp (mPar i j m1 m2) ρ S Q E = wp m1 ρ S (fun r1 ρ1 S1 => wp m2 ρ1 S1 (fun r2 ρ2 S2 => Q .nx ((ρ2.set i (some r1)).set j (some r2)) S2) E) E := by
  unfold mPar
  simp only [wq_bind, wq_mSet, wq_pure]
theorem wq_var {i : Nat} {Q : Po DV} : wp (mVar i) ρ S Q E = ∃ r, ρ[i]? = some (some r) ∧ Q (.sh r.d) (ρ.set i (some (.sh r.d))) S := by
  refine propext ⟨fun h => ?_, fun ⟨r, e, h⟩ => ?_⟩
  · cases e : ρ[i]? with
    | none => simp only [wp, mVar, e] at h
    | some x =>
      cases x with
      | none => simp only [wp, mVar, e] at h
      | some dv =>
        cases dv with
        | sh d => simp only [wp, mVar, e] at h; exact ⟨.sh d, rfl, by show Q _ (ρ.set i (some (.sh d))) S; rw [set_get e]; exact h⟩
        | ow d => simp only [wp, mVar, e] at h; exact ⟨.ow d, rfl, h⟩
  · cases r with
    | sh d =>
      simp only [wp, mVar, e]
      have : ρ.set i (some (.sh (DV.sh d).d)) = ρ := set_get e
      rw [this] at h
      exact h
    | ow d => simp only [wp, mVar, e]; exact h
theorem wq_meth {p : D → Bool} {i : Nat} {ma : M (List Opd)} {f : List D → D → Option (D × D)} {Q : Po DV} {d : D} (h0 : ρ[i]? = some (some (.ow d))) (hp : p d = true)
    (h : wp ma ρ S (fun os ρ1 S1 => ∃ p, lendR os ρ1 = some p ∧ ∃ d1, p.2[i]? = some (some (.ow d1)) ∧ ∃ q, f p.1 d1 = some q ∧ Q (.sh q.2) (p.2.set i (some (.ow q.1))) S1) E) : wp (mMeth p i ma f) ρ S Q E := by
  unfold mMeth
  rw [wq_bind]
  have : wp (mRcv p i) ρ S (fun _ ρ' S' => wp (ma >>= fun os => keepM os >>= fun ds => mutM i (f ds)) ρ' S' Q E) E := by
    unfold wp mRcv
    simp only [h0, hp, if_pos]
    show wp (ma >>= fun os => keepM os >>= fun ds => mutM i (f ds)) ρ S Q E
    rw [wq_bind]
    refine wp_mono h (fun os ρ1 S1 ⟨p, e, d1, e1, q, e2, hq⟩ => ?_) fun _ _ _ z => z
    rw [wq_bind, wq_keep]
    refine ⟨p, e, ?_⟩
    unfold wp mutM
    simp only [e1, e2]
    exact hq
  exact this
end
/-! ### loops -/
section
variable {ρ : Env} {S : Src} {E : Po D}
theorem wq_for {t : D → M Unit} {b : M Fl} {ds : List D} {Q : Po Fl} (I : Nat → Env → Src → Prop) (h0 : I 0 ρ S)
    (hs : ∀ i d ρ S, ds[i]? = some d → I i ρ S → wp (t d) ρ S (fun _ ρ1 S1 => wp b ρ1 S1 (fun f ρ2 S2 => f = .nx ∧ I (i + 1) ρ2 S2) E) E) (hq : ∀ ρ S, I ds.length ρ S → Q .nx ρ S) : wp (mFor t b ds) ρ S Q E := by
  suffices go : ∀ (r : List D) (n : Nat) (ρ : Env) (S : Src), ds.drop n = r → I n ρ S → n ≤ ds.length → wp (mFor t b r) ρ S Q E from go ds 0 ρ S rfl h0 (Nat.zero_le _)
  intro r
  induction r with
  | nil =>
    intro n ρ S e i hn
    have : n = ds.length := by
      have := congrArg List.length e
      rw [List.length_drop] at this
      simp at this
      omega
    subst this
    exact hq ρ S i
  | cons d r ih =>
    intro n ρ S e i hn
    have hd : ds[n]? = some d := by
      have := congrArg (fun l => l[0]?) e
      simpa using this
    have hr : ds.drop (n + 1) = r := by
      rw [← List.drop_drop, e]; rfl
    have hn1 : n + 1 ≤ ds.length := by
      have := congrArg List.length e
      rw [List.length_drop, List.length_cons] at this
      omega
    unfold mFor
    rw [wq_bind]
    refine wp_mono (hs n d ρ S hd i) (fun _ ρ1 S1 h1 => ?_) fun _ _ _ z => z
    rw [wq_bind]
    refine wp_mono h1 (fun f ρ2 S2 ⟨e2, h2⟩ => ?_) fun _ _ _ z => z
    subst e2
    exact ih (n + 1) ρ2 S2 hr h2 hn1
/-- a comprehension; I: what is known when i items are done -/
theorem wq_lcGo {vs : List Nat} {t : D → M Unit} {c : M Bool} {e : M DV} {ds : List D} {Q : Po (List D)} (I : Nat → List D → Env → Src → Prop) (h0 : I 0 [] ρ S) (hl : ds.length ≤ sizeLine) (hA : ∀ i acc ρ S, I i acc ρ S → acc.length ≤ i)
    (hs : ∀ i d acc ρ S, ds[i]? = some d → I i acc ρ S → wp (t d) (wipeE ρ vs) S (fun _ ρ1 S1 => wp c ρ1 S1 (fun k ρ2 S2 => (k = true → wp e ρ2 S2 (fun r ρ3 S3 => I (i + 1) (acc ++ [r.d]) ρ3 S3) E) ∧ (k = false → I (i + 1) acc ρ2 S2)) E) E) (hq : ∀ acc ρ S, I ds.length acc ρ S → Q acc ρ S) : wp (lcGo vs t c e ds []) ρ S Q E := by
  suffices go : ∀ (r : List D) (n : Nat) (acc : List D) (ρ : Env) (S : Src), ds.drop n = r → I n acc ρ S → n ≤ ds.length → wp (lcGo vs t c e r acc) ρ S Q E from go ds 0 [] ρ S rfl h0 (Nat.zero_le _)
  intro r
  induction r with
  | nil =>
    intro n acc ρ S e i hn
    have : n = ds.length := by
      have := congrArg List.length e
      rw [List.length_drop] at this
      simp at this
      omega
    subst this
    exact hq acc ρ S i
  | cons d r ih =>
    intro n acc ρ S e i hn
    have hd : ds[n]? = some d := by
      have := congrArg (fun l => l[0]?) e
      simpa using this
    have hr : ds.drop (n + 1) = r := by
      rw [← List.drop_drop, e]; rfl
    have hn1 : n + 1 ≤ ds.length := by
      have := congrArg List.length e
      rw [List.length_drop, List.length_cons] at this
      omega
    unfold lcGo
    rw [wq_bind]
    show wp (t d >>= _) (wipeE ρ vs) S Q E
    rw [wq_bind]
    refine wp_mono (hs n d acc ρ S hd i) (fun _ ρ1 S1 h1 => ?_) fun _ _ _ z => z
    rw [wq_bind]
    refine wp_mono h1 (fun k ρ2 S2 h2 => ?_) fun _ _ _ z => z
    cases k with
    | false => exact ih (n + 1) acc ρ2 S2 hr (h2.2 rfl) hn1
    | true =>
      show wp (_ >>= _) ρ2 S2 Q E
      rw [wq_bind]
      refine wp_mono (h2.1 rfl) (fun x ρ3 S3 h3 => ?_) fun _ _ _ z => z
      have := hA n acc ρ S i
      rw [if_pos (by omega)]
      exact ih (n + 1) _ ρ3 S3 hr h3 hn1
theorem wq_blk {α β : Type} {vs : List Nat} {f : α → β} {m : M α} {Q : Po β} (h : wp m ρ S (fun a ρ' S' => Q (f a) (restE ρ vs ρ') S') E0') : wp (inBlk vs f m) ρ S Q E := by
  unfold wp inBlk
  unfold wp at h
  revert h
  cases m ρ S with
  | none => exact id
  | some o => cases o with
    | ok a r t => exact id
    | ex e r t => exact fun h => h.elim
theorem wq_lc {vs : List Nat} {mi : M (List D)} {t : D → M Unit} {c : M Bool} {e : M DV} {Q : Po DV} : wp (mLc vs mi t c e) ρ S Q E = wp mi ρ S (fun ds ρ1 S1 => wp (inBlk vs (fun acc => .ow (.lst acc)) (lcGo vs t c e ds [])) ρ1 S1 Q E) E := by
  unfold mLc
  rw [wq_bind]
theorem wq_tg {vs : List Nat} {mi : M (List D)} {t : D → M Unit} {c : M Bool} {e : M DV} {Q : Po DV} : wp (mTg vs mi t c e) ρ S Q E = wp mi ρ S (fun ds ρ1 S1 => wp (inBlk vs (fun acc => .sh (.tup acc)) (lcGo vs t c e ds [])) ρ1 S1 Q E) E := by
  unfold mTg
  rw [wq_bind]
theorem wq_ag {stop : Bool} {vs : List Nat} {mi : M (List D)} {t : D → M Unit} {c : M Bool} {e : M DV} {Q : Po DV} : wp (mAg stop vs mi t c e) ρ S Q E = wp mi ρ S (fun ds ρ1 S1 => wp (inBlk vs (fun b => .sh (.bl b)) (gxGo stop vs t c e ds)) ρ1 S1 Q E) E := by
  unfold mAg
  rw [wq_bind]
/-- one slot put back -/
theorem rest1 {k : Nat} {x : Option DV} : restE ρ [k] (ρ.set k x) = ρ := by
  refine List.ext_getElem? fun i => ?_
  unfold restE
  rw [List.getElem?_mapIdx]
  by_cases h : i = k
  · subst h
    by_cases hi : i < ρ.length
    · rw [List.getElem?_set_self hi]
      simp [List.getElem?_eq_getElem hi]
    · rw [List.getElem?_eq_none (l := ρ.set i x) (by rw [List.length_set]; omega), List.getElem?_eq_none (l := ρ) (by omega)]
      rfl
  · rw [List.getElem?_set_ne (Ne.symm h)]
    cases e : ρ[i]? with
    | none => rfl
    | some y => simp [h]
theorem rest1' {k : Nat} : restE ρ [k] ρ = ρ := by
  refine List.ext_getElem? fun i => ?_
  unfold restE
  rw [List.getElem?_mapIdx]
  cases e : ρ[i]? with
  | none => rfl
  | some y =>
    by_cases h : i = k
    · subst h; simp [e]
    · simp [h]
/-- a comprehension over one name, without a test, that leaves the slots as they are; I tells of the items made and the source -/
theorem wq_lc1 {k : Nat} {e : M DV} {ds : List D} {Q : Po DV} (I : Nat → List D → Src → Prop) (h0 : I 0 [] S) (hl : ds.length ≤ sizeLine)
    (hs : ∀ i d acc S, ds[i]? = some d → I i acc S → wp e ((ρ.set k none).set k (some (.sh d))) S (fun r ρ3 S3 => ρ3 = (ρ.set k none).set k (some (.sh d)) ∧ I (i + 1) (acc ++ [r.d]) S3) E0')
    (hq : ∀ acc S, acc.length = ds.length → I ds.length acc S → Q (.ow (.lst acc)) ρ S) : wp (inBlk [k] (fun acc => DV.ow (.lst acc)) (lcGo [k] (gN k) mYes e ds [])) ρ S Q E := by
  refine wq_blk (wq_lcGo (fun i acc ρ' S' => acc.length = i ∧ (∃ x, ρ' = ρ.set k x) ∧ I i acc S' ∨ (i = 0 ∧ acc = [] ∧ ρ' = ρ ∧ I 0 [] S')) (.inr ⟨rfl, rfl, rfl, h0⟩) hl (fun i acc ρ S h => ?_) (fun i d acc ρ' S' hd h => ?_) fun acc ρ' S' h => ?_)
  · rcases h with h | ⟨rfl, rfl, _⟩
    · exact Nat.le_of_eq h.1
    · exact Nat.le_refl _
  · have key : wipeE ρ' [k] = ρ.set k none ∧ acc.length = i ∧ I i acc S' := by
      rcases h with ⟨h1, ⟨x, rfl⟩, h2⟩ | ⟨rfl, rfl, rfl, h2⟩
      · exact ⟨List.set_set .., h1, h2⟩
      · exact ⟨rfl, rfl, h2⟩
    obtain ⟨k1, k2, k3⟩ := key
    rw [k1]
    rw [wq_gN]
    show (true = true → _) ∧ (true = false → _)
    refine ⟨fun _ => ?_, (fun z => by cases z)⟩
    refine wp_mono (hs i d acc S' hd k3) (fun r ρ3 S3 h3 => .inl ⟨by rw [List.length_append, k2]; rfl, ⟨some (.sh d), by rw [h3.1, List.set_set]⟩, h3.2⟩) fun _ _ _ z => z
  · rcases h with ⟨h1, ⟨x, rfl⟩, h2⟩ | ⟨h1, rfl, rfl, h2⟩
    · rw [rest1]; exact hq acc S' h1 h2
    · rw [rest1']; exact hq [] S' (by rw [h1]; rfl) (by rw [h1]; exact h2)
/-- a def's answer from its body -/
theorem mkF_of {n : Nat} {m : M Fl} {ds : List D} {P : DV → Src → Prop} (h : wp m (ds.map (fun d => some (.sh d)) ++ List.replicate (n - ds.length) none) S (fun f _ S' => ∃ r, f = .ret r ∧ P r S') E0') : ∃ r S', mkF n m ds S = some (.ret r S') ∧ P r S' := by
  unfold wp at h
  unfold mkF
  revert h
  cases m (ds.map (fun d => some (.sh d)) ++ List.replicate (n - ds.length) none) S with
  | none => exact fun h => h.elim
  | some o => cases o with
    | ok a r t =>
      rintro ⟨x, rfl, h⟩
      exact ⟨x, t, rfl, h⟩
    | ex e r t => exact fun h => h.elim
end
end DL
set_option Elab.async false
set_option linter.all false
set_option maxRecDepth 100000
set_option maxHeartbeats 1000000
/-! data of a known size; texts of literals -/
namespace DL
open PySem PySem.Spec PyProof.Rows L2
/-- fits: no dict, no list, as deep and as large as told -/
structure Fit (k b : Nat) (d : D) : Prop where
  nd : nd d = true
  pur : pur d = true
  dep : dep d ≤ k
  bulk : (toP d).bulk ≤ b
  lv : PyData.leavesShort 13 (toP d) = true
  sh : (toP d).showable = true
structure Fits (k b : Nat) (ds : List D) : Prop where
  nd : nds ds = true
  pur : purs ds = true
  dep : deps ds ≤ k
  bulk : PyData.bulkAll (toPs ds) ≤ ds.length * (b + 1)
  lv : PyData.leavesShortAll 13 (toPs ds) = true
  sh : PyData.showableAll (toPs ds) = true
theorem Fit.mono {k b k' b' : Nat} {d : D} (h : Fit k b d) (hk : k ≤ k') (hb : b ≤ b') : Fit k' b' d := ⟨h.nd, h.pur, Nat.le_trans h.dep hk, Nat.le_trans h.bulk hb, h.lv, h.sh⟩
theorem Fit.non {k b : Nat} : Fit k b .non := ⟨rfl, rfl, Nat.zero_le _, by simp [toP, PyData.bulk], by simp [toP, PyData.leavesShort], by simp [toP, PyData.showable]⟩
theorem Fit.bl {k b : Nat} {x : Bool} : Fit k b (.bl x) := ⟨rfl, rfl, Nat.zero_le _, by simp [toP, PyData.bulk], by simp [toP, PyData.leavesShort], by simp [toP, PyData.showable]⟩
theorem Fit.int {k b : Nat} {i : Int} (h : i.natAbs < 10 ^ 12) : Fit k b (.int i) := by
  refine ⟨rfl, rfl, Nat.zero_le _, by simp [toP, PyData.bulk], ?_, ?_⟩
  · simp only [toP, PyData.leavesShort, decide_eq_true_eq]
    exact PyData.shown_int_le h
  · simp only [toP, PyData.showable, decide_eq_true_eq]
    have : i.natAbs.log2 < 1920 := by
      by_cases z : i.natAbs = 0
      · rw [z]; decide
      · exact (Nat.log2_lt z).mpr (Nat.lt_of_lt_of_le h (by decide +kernel))
    exact this
theorem lv_str {s : Str} (h : PyData.strOk s = true) : PyData.leavesShort 13 (.str s) = true := by
  have q := strOk_iff.mp h
  simp [PyData.leavesShort]
  intro i hi
  have := q s.cps[i] (by simp)
  omega
theorem Fit.str {k b : Nat} {s : Str} (h : s.length ≤ b) (ok : PyData.strOk s = true) : Fit k b (.str s) := ⟨rfl, rfl, Nat.zero_le _, by simp only [toP, PyData.bulk]; exact h, by simp only [toP]; exact lv_str ok, by simp [toP, PyData.showable]⟩
theorem Fits.nil {k b : Nat} : Fits k b [] := ⟨rfl, rfl, Nat.zero_le _, by simp [toPs, PyData.bulkAll], by simp [toPs, PyData.leavesShortAll], by simp [toPs, PyData.showableAll]⟩
theorem Fits.cons {k b : Nat} {d : D} {ds : List D} (h : Fit k b d) (hs : Fits k b ds) : Fits k b (d :: ds) := by
  refine ⟨by simp [DL.nds, h.nd, hs.nd], by simp [DL.purs, h.pur, hs.pur], Nat.max_le.mpr ⟨h.dep, hs.dep⟩, ?_, by simp [toPs, PyData.leavesShortAll, h.lv, hs.lv], by simp [toPs, PyData.showableAll, h.sh, hs.sh]⟩
  simp only [toPs, PyData.bulkAll, List.length_cons]
  have h1 := h.bulk
  have h2 := hs.bulk
  rw [Nat.add_mul]
  omega
theorem Fits.of {k b : Nat} : ∀ {ds : List D}, (∀ d ∈ ds, Fit k b d) → Fits k b ds
  | [], _ => .nil
  | d :: ds, h => .cons (h d (List.mem_cons_self ..)) (Fits.of fun x hx => h x (List.mem_cons_of_mem _ hx))
theorem Fit.tup {k b n : Nat} {ds : List D} (h : ∀ d ∈ ds, Fit k b d) (hn : ds.length * (b + 1) ≤ n) : Fit (k + 1) n (.tup ds) := by
  have f := Fits.of h
  exact ⟨f.nd, f.pur, Nat.succ_le_succ f.dep, by simp only [toP, PyData.bulk]; exact Nat.le_trans f.bulk hn, by simp only [toP, PyData.leavesShort]; exact f.lv, by simp only [toP, PyData.showable]; exact f.sh⟩
/-- == of data that fit -/
theorem Fit.eqD {k b k' b' : Nat} {d e : D} (h : Fit k b d) (h' : Fit k' b' e) (hk : k ≤ 64 ∨ k' ≤ 64) : eqD d e = some (.sh (.bl (eqv d e))) := by
  unfold DL.eqD cmpOk
  rw [h.nd, h'.nd]
  have : (decide (DL.dep d ≤ 64) || decide (DL.dep e ≤ 64)) = true := by
    rw [Bool.or_eq_true]
    exact hk.imp (fun z => decide_eq_true (Nat.le_trans h.dep z)) fun z => decide_eq_true (Nat.le_trans h'.dep z)
  rw [this]; rfl
theorem Fit.neD {k b k' b' : Nat} {d e : D} (h : Fit k b d) (h' : Fit k' b' e) (hk : k ≤ 64 ∨ k' ≤ 64) : neD d e = some (.sh (.bl (!eqv d e))) := by
  have q := h.eqD h' hk
  unfold DL.eqD at q
  unfold DL.neD
  split at q
  · rename_i c; rw [if_pos c]
  · cases q
theorem Fit.purV {k b : Nat} {d : D} (h : Fit k b d) : purV (.sh d) = true := h.pur
/-- the texts of two lists of data that fit -/
theorem Fits.repr {k b : Nat} {ds : List D} (h : Fits k b ds) (hk : k + 1 ≤ 64) (hb : ds.length * (b + 1) ≤ 1118480) : reprF (.lst ds) = some (.sh (.str (shownD (.lst ds)))) := by
  unfold reprF
  refine if_pos ⟨h.nd, by simp only [toP, PyData.showable]; exact h.sh, ?_, Nat.le_trans (Nat.succ_le_succ h.dep) hk⟩
  have q := PyData.shown_le_bulk 13 (by decide) (toP (.lst ds)) (by simp only [toP, PyData.leavesShort]; exact h.lv)
  have e : (toP (.lst ds)).bulk ≤ 1118480 := by simp only [toP, PyData.bulk]; exact Nat.le_trans h.bulk hb
  have : shownD (.lst ds) = (toP (.lst ds)).shown := rfl
  rw [this]
  show _ ≤ 16777216
  omega
theorem repr_bl (x : Bool) : reprF (.bl x) = some (.sh (.str (shownD (.bl x)))) := by cases x <;> exact if_pos ⟨rfl, by simp [toP, PyData.showable], by decide +kernel, Nat.zero_le _⟩
/-! equality of data -/
theorem eqv_str {a b : Str} : eqv (.str a) (.str b) = decide (a = b) := by
  unfold eqv
  simp only [toP]
  unfold PyData.eqv
  by_cases h : a = b <;> simp [h]
end DL
set_option Elab.async false
set_option linter.all false
set_option maxRecDepth 100000
set_option maxHeartbeats 1000000
/-! what k22's defs give -/
namespace K22
open PySem PySem.Spec PyProof.Rows L2 DL
theorem atI_mem {α : Type} {xs : List α} {i : Int} (h0 : 0 ≤ i) (h1 : i < xs.length) : ∃ x ∈ xs, atI xs i = some x := by
  have h2 : i.toNat < xs.length := by omega
  refine ⟨xs[i.toNat], List.getElem_mem h2, ?_⟩
  unfold atI ixN
  rw [if_pos h0, if_pos h1]
  exact List.getElem?_eq_getElem h2
theorem ix_lst {ds : List DL.D} {i : Int} (h0 : 0 ≤ i) (h1 : i < ds.length) : ∃ x ∈ ds, ixD (.lst ds) (.int i) = some (.sh x) := by
  obtain ⟨x, hx, e⟩ := atI_mem h0 h1
  exact ⟨x, hx, by unfold ixD; simp only [e, Option.map_some]⟩
theorem ix_str {s : Str} {i : Int} (h0 : 0 ≤ i) (h1 : i < s.cps.toList.length) : ∃ c ∈ s.cps.toList, ixD (.str s) (.int i) = some (.sh (.str ⟨#[c]⟩)) := by
  obtain ⟨x, hx, e⟩ := atI_mem h0 h1
  exact ⟨x, hx, by unfold ixD; simp only [e, Option.map_some]⟩
theorem w_m1 {op : Str → DL.D → Option DV} {ma mb : M Opd} {ρ : DL.Env} {S : Src} {E : Po DL.D} {Q : Po DV} : wp (mM1 op ma mb) ρ S Q E = wp ma ρ S (fun a ρ1 S1 => wp (res a) ρ1 S1 (fun x ρ2 S2 => ∃ s, strO x = some s ∧ wp mb ρ2 S2 (fun b ρ3 S3 => wp (res b) ρ3 S3 (fun y ρ4 S4 => ∃ r, op s y = some r ∧ Q r ρ4 S4) E) E) E) E := by
  unfold mM1
  simp only [wq_bind, wq_of]
theorem eqD_int {i j : Int} : eqD (.int i) (.int j) = some (.sh (.bl (decide (i = j)))) := by
  show some _ = _
  unfold eqv
  simp only [toP]
  unfold PyData.eqv
  by_cases h : i = j <;> simp [h]
theorem eqD_str {i j : Str} : eqD (.str i) (.str j) = some (.sh (.bl (decide (i = j)))) := by
  show some _ = _
  rw [eqv_str]
theorem ltI_eq {i j : Int} : ltI (.int i) (.int j) = some (.sh (.bl (decide (i < j)))) := rfl
theorem subD_eq {i j : Int} : subD (.int i) (.int j) = some (.sh (.int (i - j))) := rfl
theorem pow12 : powD (.int 10) (.int 12) = some (.sh (.int 1000000000000)) := by rfl
theorem lenD_lst {ds : List DL.D} : lenD (.lst ds) = some (.sh (.int ds.length)) := rfl
theorem lenD_tup {ds : List DL.D} : lenD (.tup ds) = some (.sh (.int ds.length)) := rfl
theorem lenD_str {s : Str} : lenD (.str s) = some (.sh (.int s.length)) := rfl
theorem addD_int {i j : Int} : addD (.int i) (.int j) = some (.sh (.int (i + j))) := rfl
theorem rg1_len {j : Int} (h0 : 0 ≤ j) (h1 : j < 1000000) : rg1 [.int j] = some (rangeL 0 j.toNat) := by
  unfold rg1
  exact if_pos ⟨by omega, by omega⟩
theorem rangeL_len {lo : Int} {n : Nat} : (rangeL lo n).length = n := by unfold rangeL; simp
theorem refillL_sub : ∀ (cs : List Int) (l : Int), ∀ x ∈ (refillL cs l).2, x ∈ cs
  | [], _, x, h => h
  | c :: r, l, x, h => by
    unfold refillL at h
    split at h
    · exact List.mem_cons_of_mem _ (refillL_sub r c x h)
    · exact h
theorem refillL_len : ∀ (cs : List Int) (l : Int), (refillL cs l).2.length ≤ cs.length
  | [], _ => Nat.le_refl _
  | c :: r, l => by
    unfold refillL
    split
    · exact Nat.le_trans (refillL_len r c) (Nat.le_succ _)
    · exact Nat.le_refl _
theorem refill_ok {S : Src} (h : SrcOk S) : SrcOk (refill S) := by
  refine ⟨?_, h.m0, h.t0, fun x hx => ?_, ?_⟩
  · exact refillL_nn _ _ h.l0 fun x hx => h.c0 x (List.mem_reverse.mp hx)
  · have hx : x ∈ (refillL S.cells.reverse S.left).2.reverse := hx
    exact h.c0 x (List.mem_reverse.mp (refillL_sub _ _ x (List.mem_reverse.mp hx)))
  · show (refillL S.cells.reverse S.left).2.reverse.length ≤ 63
    rw [List.length_reverse]
    refine Nat.le_trans (refillL_len _ _) ?_
    rw [List.length_reverse]
    exact h.len
theorem pick_src {S : Src} (h : SrcOk S) {n : Int} (h0 : 0 ≤ n) : SrcOk (pick S n).2 := by
  unfold pick
  split
  · exact h
  · have r := refill_ok h
    simp only
    split
    · exact ⟨Int.ediv_nonneg r.l0 h0, r.m0, r.t0, r.c0, r.len⟩
    · exact ⟨r.l0, r.m0, (by have := r.t0; show 0 ≤ (refill S).turn + 1; omega), r.c0, r.len⟩
theorem pick_ok {S : Src} (h : SrcOk S) (n : Int) (h0 : 1 ≤ n) (hb : n ≤ 1000000000000) : ∃ r S', F__law_pick [.src, .int n] S = some (.ret (.sh (.int r)) S') ∧ SrcOk S' ∧ 0 ≤ r ∧ r < n := by
  refine ⟨(pick S n).1, (pick S n).2, ?_, pick_src h (by omega), ?_⟩
  · show fn_law_pick _ _ = _
    unfold fn_law_pick
    refine if_pos ⟨by omega, ?_⟩
    by_cases z : n.natAbs = 0
    · rw [z]; decide
    · exact (Nat.log2_lt z).mpr (Nat.lt_of_lt_of_le (show n.natAbs < 2 ^ 64 by omega) (Nat.pow_le_pow_right (by decide) (by decide)))
  · obtain ⟨a, b⟩ := pick_range S (refill_ok h).l0 h.t0 (most := n) (by omega)
    exact ⟨a, b.elim id fun z => by omega⟩
/-- a pick in a run -/
theorem w_pick {ρ : DL.Env} {S : Src} {E : Po D} {os : List Opd} {Q : Po DV} {n : Int} {ρL : DL.Env} (hl : lendR os ρ = some ([.src, .int n], ρL)) (h : SrcOk S) (h0 : 1 ≤ n) (hb : n ≤ 1000000000000) (q : ∀ r S', SrcOk S' → 0 ≤ r → r < n → Q (.sh (.int r)) ρ S') : wp (callF F__law_pick os) ρ S Q E := by
  obtain ⟨r, S', e, h1, h2, h3⟩ := pick_ok h n h0 hb
  exact wq_callF hl e (q r S' h1 h2 h3)
end K22
set_option Elab.async false
set_option linter.all false
set_option maxRecDepth 100000
set_option maxHeartbeats 1000000
namespace K22
open PySem PySem.Spec PyProof.Rows L2 DL
theorem strsD_map : ∀ ss : List Str, strsD (ss.map DL.D.str) = some ss
  | [] => rfl
  | s :: ss => by
    show (strsD (ss.map DL.D.str)).map (s :: ·) = _
    rw [strsD_map ss]; rfl
theorem one_of {i : Int} {n : Int} {a b : DL.D} (h0 : 0 ≤ i) (h1 : i < 2) : ixD (.lst [a, b]) (.int i) = some (.sh a) ∨ ixD (.lst [a, b]) (.int i) = some (.sh b) := by
  have : i = 0 ∨ i = 1 := by omega
  rcases this with rfl | rfl
  · exact .inl rfl
  · exact .inr rfl
theorem join_fit {ss : List Str} (h : ∀ s ∈ ss, s.length = 1 ∧ SOk s) (hn : ss.length ≤ 24) : ∃ t, joinO (Str.ofString "") (.lst (ss.map DL.D.str)) = some (.sh (.str t)) ∧ Fit 0 24 (.str t) := by
  have sum : (ss.map (·.length)).sum = ss.length := by
    clear hn
    induction ss with
    | nil => rfl
    | cons s r ih =>
      simp only [List.map_cons, List.sum_cons, List.length_cons]
      rw [ih fun x hx => h x (List.mem_cons_of_mem _ hx), (h s (List.mem_cons_self ..)).1]
      omega
  have e0 : (Str.ofString "").length = 0 := by decide +kernel
  have hs : (ss.map (·.length)).sum + ss.length * (Str.ofString "").length ≤ 16777216 := by rw [sum, e0]; omega
  refine ⟨Txt.join (Str.ofString "") ss, ?_, Fit.str ?_ (sok_join (by decide +kernel) (fun s hs => (h s hs).2) hs).2⟩
  · show (strsD (ss.map DL.D.str)).bind (joinS _) = _
    rw [strsD_map]
    exact if_pos hs
  · rw [TL.join_eq]
    have := join_len (Str.ofString "") ss
    rw [sum, e0] at this
    omega
theorem abz_ok : ∀ c ∈ (Str.ofString "ab Z09-_").cps.toList, SOk ⟨#[c]⟩ := by decide +kernel
theorem abz_len : (Str.ofString "ab Z09-_").cps.toList.length = 8 := by decide +kernel
theorem val_ok {S : Src} (h : SrcOk S) : ∃ r S', F__law_any_value [.src] S = some (.ret r S') ∧ ∃ d, r = .sh d ∧ Fit 0 24 d ∧ SrcOk S' := by
  refine mkF_of ?_
  unfold m__law_any_value
  simp only [wq_bind, wq_pure, wq_of, wq_mC, wq_opd, wq_mSlot, wq_resV, wq_resS, wq_mSet, wq_gN, wq_mNx, wq_mIf, wq_seq, wq_asg, wq_ret, wq_drop, wq_op, wq_k1, wq_mB, wq_tru, wq_not, wq_and, wq_or, wq_andV, wq_nil, wq_cons, wq_keep, wq_tup, wq_lst, wq_resL0, wq_resL1, wq_bui, wq_pNo, wq_pIs, wq_sl, wq_call, wq_sq, wq_st, wq_rg, wq_par, wq_var, wq_lc, wq_tg, wq_ag, List.map_cons, List.map_nil, List.cons_append, List.nil_append, List.length_cons, List.length_nil, List.replicate, Nat.reduceAdd, Nat.reduceSub, Nat.sub_zero, List.getElem?_cons_zero, List.getElem?_cons_succ, List.set_cons_zero, List.set_cons_succ, Option.some.injEq, exists_eq_left', exists_eq_left, DV.d, lendR, DL.asB, DL.intD, DL.op1, DL.op2', DL.seqD, w_m1, eqD_int, eqD_str, ltI_eq, subD_eq, addD_int, pow12, lenD_lst, lenD_tup, lenD_str, DL.strO, decide_eq_true_eq, decide_eq_false_iff_not]
  refine w_pick (n := 5) rfl h (by decide) (by decide) fun r S1 h1 r0 r1 => ?_
  simp only [wq_bind, wq_pure, wq_of, wq_mC, wq_opd, wq_mSlot, wq_resV, wq_resS, wq_mSet, wq_gN, wq_mNx, wq_mIf, wq_seq, wq_asg, wq_ret, wq_drop, wq_op, wq_k1, wq_mB, wq_tru, wq_not, wq_and, wq_or, wq_andV, wq_nil, wq_cons, wq_keep, wq_tup, wq_lst, wq_resL0, wq_resL1, wq_bui, wq_pNo, wq_pIs, wq_sl, wq_call, wq_sq, wq_st, wq_rg, wq_par, wq_var, wq_lc, wq_tg, wq_ag, List.map_cons, List.map_nil, List.cons_append, List.nil_append, List.length_cons, List.length_nil, List.replicate, Nat.reduceAdd, Nat.reduceSub, Nat.sub_zero, List.getElem?_cons_zero, List.getElem?_cons_succ, List.set_cons_zero, List.set_cons_succ, Option.some.injEq, exists_eq_left', exists_eq_left, DV.d, lendR, DL.asB, DL.intD, DL.op1, DL.op2', DL.seqD, w_m1, eqD_int, eqD_str, ltI_eq, subD_eq, addD_int, pow12, lenD_lst, lenD_tup, lenD_str, DL.strO, decide_eq_true_eq, decide_eq_false_iff_not]
  refine ⟨fun z => ⟨_, rfl, .non, rfl, Fit.non, h1⟩, fun ne => ⟨fun c => ?_, fun c => ?_⟩⟩
  · refine w_pick (n := 9) rfl h1 (by decide) (by decide) fun a S2 h2 a0 a1 => ?_
    simp only [wq_bind, wq_pure, wq_of, wq_mC, wq_opd, wq_mSlot, wq_resV, wq_resS, wq_mSet, wq_gN, wq_mNx, wq_mIf, wq_seq, wq_asg, wq_ret, wq_drop, wq_op, wq_k1, wq_mB, wq_tru, wq_not, wq_and, wq_or, wq_andV, wq_nil, wq_cons, wq_keep, wq_tup, wq_lst, wq_resL0, wq_resL1, wq_bui, wq_pNo, wq_pIs, wq_sl, wq_call, wq_sq, wq_st, wq_rg, wq_par, wq_var, wq_lc, wq_tg, wq_ag, List.map_cons, List.map_nil, List.cons_append, List.nil_append, List.length_cons, List.length_nil, List.replicate, Nat.reduceAdd, Nat.reduceSub, Nat.sub_zero, List.getElem?_cons_zero, List.getElem?_cons_succ, List.set_cons_zero, List.set_cons_succ, Option.some.injEq, exists_eq_left', exists_eq_left, DV.d, lendR, DL.asB, DL.intD, DL.op1, DL.op2', DL.seqD, w_m1, eqD_int, eqD_str, ltI_eq, subD_eq, addD_int, pow12, lenD_lst, lenD_tup, lenD_str, DL.strO, decide_eq_true_eq, decide_eq_false_iff_not]
    refine w_pick (n := 1000000000000) rfl h2 (by decide) (by decide) fun b S3 h3 b0 b1 => ?_
    simp only [wq_bind, wq_pure, wq_of, wq_mC, wq_opd, wq_mSlot, wq_resV, wq_resS, wq_mSet, wq_gN, wq_mNx, wq_mIf, wq_seq, wq_asg, wq_ret, wq_drop, wq_op, wq_k1, wq_mB, wq_tru, wq_not, wq_and, wq_or, wq_andV, wq_nil, wq_cons, wq_keep, wq_tup, wq_lst, wq_resL0, wq_resL1, wq_bui, wq_pNo, wq_pIs, wq_sl, wq_call, wq_sq, wq_st, wq_rg, wq_par, wq_var, wq_lc, wq_tg, wq_ag, List.map_cons, List.map_nil, List.cons_append, List.nil_append, List.length_cons, List.length_nil, List.replicate, Nat.reduceAdd, Nat.reduceSub, Nat.sub_zero, List.getElem?_cons_zero, List.getElem?_cons_succ, List.set_cons_zero, List.set_cons_succ, Option.some.injEq, exists_eq_left', exists_eq_left, DV.d, lendR, DL.asB, DL.intD, DL.op1, DL.op2', DL.seqD, w_m1, eqD_int, eqD_str, ltI_eq, subD_eq, addD_int, pow12, lenD_lst, lenD_tup, lenD_str, DL.strO, decide_eq_true_eq, decide_eq_false_iff_not]
    refine ⟨by decide, ?_⟩
    obtain ⟨x, hx, e⟩ := ix_lst (ds := [.int (a - 3), .int b]) (i := r - 1) (by omega) (by show r - 1 < 2; omega)
    refine ⟨_, e, _, rfl, x, rfl, ?_, h3⟩
    rcases List.mem_cons.mp hx with rfl | hx
    · exact Fit.int (by omega)
    · rw [List.mem_singleton.mp hx]; exact Fit.int (by omega)
  · refine ⟨by decide, ?_⟩
    obtain ⟨x, hx, e⟩ := ix_lst (ds := [.int 4, .int 25]) (i := r - 3) (by omega) (by show r - 3 < 2; omega)
    obtain ⟨n, rfl, n1, n2⟩ : ∃ n : Int, x = .int n ∧ 1 ≤ n ∧ n ≤ 25 := by
      rcases List.mem_cons.mp hx with rfl | hx
      · exact ⟨_, rfl, by decide, by decide⟩
      · rw [List.mem_singleton.mp hx]; exact ⟨_, rfl, by decide, by decide⟩
    refine ⟨_, e, ?_⟩
    refine w_pick (n := n) rfl h1 n1 (by omega) fun k S2 h2 k0 k1 => ?_
    refine ⟨_, rg1_len k0 (by omega), ?_⟩
    refine wq_lc1 (I := fun i acc S => SrcOk S ∧ acc.length = i ∧ ∃ ss : List Str, acc = ss.map DL.D.str ∧ ∀ s ∈ ss, s.length = 1 ∧ SOk s) ⟨h2, rfl, [], rfl, fun _ z => by cases z⟩ (by rw [rangeL_len]; exact Nat.le_trans (m := 25) (by omega) (by decide)) (fun i d acc S3 hd hI => ?_) (fun acc S3 hl hI => ?_)
    · obtain ⟨h3, la, ss, rfl, hss⟩ := hI
      simp only [wq_bind, wq_pure, wq_of, wq_mC, wq_opd, wq_mSlot, wq_resV, wq_resS, wq_mSet, wq_gN, wq_mNx, wq_mIf, wq_seq, wq_asg, wq_ret, wq_drop, wq_op, wq_k1, wq_mB, wq_tru, wq_not, wq_and, wq_or, wq_andV, wq_nil, wq_cons, wq_keep, wq_tup, wq_lst, wq_resL0, wq_resL1, wq_bui, wq_pNo, wq_pIs, wq_sl, wq_call, wq_sq, wq_st, wq_rg, wq_par, wq_var, wq_lc, wq_tg, wq_ag, List.map_cons, List.map_nil, List.cons_append, List.nil_append, List.length_cons, List.length_nil, List.replicate, Nat.reduceAdd, Nat.reduceSub, Nat.sub_zero, List.getElem?_cons_zero, List.getElem?_cons_succ, List.set_cons_zero, List.set_cons_succ, Option.some.injEq, exists_eq_left', exists_eq_left, DV.d, lendR, DL.asB, DL.intD, DL.op1, DL.op2', DL.seqD, w_m1, eqD_int, eqD_str, ltI_eq, subD_eq, addD_int, pow12, lenD_lst, lenD_tup, lenD_str, DL.strO, decide_eq_true_eq, decide_eq_false_iff_not]
      refine w_pick (n := 8) rfl h3 (by decide) (by decide) fun j S4 h4 j0 j1 => ?_
      simp only [wq_bind, wq_pure, wq_of, wq_mC, wq_opd, wq_mSlot, wq_resV, wq_resS, wq_mSet, wq_gN, wq_mNx, wq_mIf, wq_seq, wq_asg, wq_ret, wq_drop, wq_op, wq_k1, wq_mB, wq_tru, wq_not, wq_and, wq_or, wq_andV, wq_nil, wq_cons, wq_keep, wq_tup, wq_lst, wq_resL0, wq_resL1, wq_bui, wq_pNo, wq_pIs, wq_sl, wq_call, wq_sq, wq_st, wq_rg, wq_par, wq_var, wq_lc, wq_tg, wq_ag, List.map_cons, List.map_nil, List.cons_append, List.nil_append, List.length_cons, List.length_nil, List.replicate, Nat.reduceAdd, Nat.reduceSub, Nat.sub_zero, List.getElem?_cons_zero, List.getElem?_cons_succ, List.set_cons_zero, List.set_cons_succ, Option.some.injEq, exists_eq_left', exists_eq_left, DV.d, lendR, DL.asB, DL.intD, DL.op1, DL.op2', DL.seqD, w_m1, eqD_int, eqD_str, ltI_eq, subD_eq, addD_int, pow12, lenD_lst, lenD_tup, lenD_str, DL.strO, decide_eq_true_eq, decide_eq_false_iff_not]
      obtain ⟨cc, hc, e⟩ := ix_str (s := Str.ofString "ab Z09-_") j0 (by rw [abz_len]; exact j1)
      refine ⟨_, e, trivial, h4, by rw [List.length_append, la]; rfl, ss ++ [⟨#[cc]⟩], by rw [List.map_append]; rfl, fun s hs => ?_⟩
      rcases List.mem_append.mp hs with hs | hs
      · exact hss s hs
      · rw [List.mem_singleton.mp hs]; exact ⟨rfl, abz_ok cc hc⟩
    · obtain ⟨h3, la, ss, rfl, hss⟩ := hI
      rw [rangeL_len] at hl
      obtain ⟨t, e, ft⟩ := join_fit hss (by rw [List.length_map] at hl; omega)
      exact ⟨_, e, _, rfl, _, rfl, ft, h3⟩
end K22
set_option Elab.async false
set_option linter.all false
set_option maxRecDepth 100000
set_option maxHeartbeats 1000000
namespace K22
open PySem PySem.Spec PyProof.Rows L2 DL
theorem pop_ok {os : List DL.D} {i : Int} (h0 : 0 ≤ i) (h1 : i < os.length) (hb : os.length ≤ 1000000) : ∃ x os', popAtF [.int i] (.lst os) = some (.lst os', x) ∧ x ∈ os ∧ os'.length + 1 = os.length ∧ ∀ y ∈ os', y ∈ os := by
  have h2 : i.toNat < os.length := by omega
  refine ⟨os[i.toNat], os.eraseIdx i.toNat, ?_, List.getElem_mem h2, ?_, fun y hy => List.mem_of_mem_eraseIdx hy⟩
  · unfold popAtF
    have c : -(2 ^ 63) ≤ i ∧ i < 2 ^ 63 := ⟨by omega, by omega⟩
    have e : ixN os.length i = some i.toNat := by unfold ixN; rw [if_pos h0, if_pos h1]
    simp only [if_pos c, e, List.getElem?_eq_getElem h2]
  · rw [List.length_eraseIdx_of_lt h2]; omega
theorem order_ok {S : Src} (h : SrcOk S) {ds : List DL.D} (hn : ds.length ≤ 1000) : ∃ r S', F__law_any_order [.src, .lst ds] S = some (.ret r S') ∧ ∃ os, r = .ow (.lst os) ∧ os.length = ds.length ∧ (∀ d ∈ os, d ∈ ds) ∧ SrcOk S' := by
  refine mkF_of ?_
  unfold m__law_any_order
  simp only [wq_bind, wq_pure, wq_of, wq_mC, wq_opd, wq_mSlot, wq_resV, wq_resS, wq_mSet, wq_gN, wq_mNx, wq_mIf, wq_seq, wq_asg, wq_ret, wq_drop, wq_op, wq_k1, wq_mB, wq_tru, wq_not, wq_and, wq_or, wq_andV, wq_nil, wq_cons, wq_keep, wq_tup, wq_lst, wq_resL0, wq_resL1, wq_bui, wq_pNo, wq_pIs, wq_sl, wq_call, wq_sq, wq_st, wq_rg, wq_par, wq_var, wq_lc, wq_tg, wq_ag, List.map_cons, List.map_nil, List.cons_append, List.nil_append, List.length_cons, List.length_nil, List.replicate, Nat.reduceAdd, Nat.reduceSub, Nat.sub_zero, List.getElem?_cons_zero, List.getElem?_cons_succ, List.set_cons_zero, List.set_cons_succ, Option.some.injEq, exists_eq_left', exists_eq_left, DV.d, lendR, DL.asB, DL.intD, DL.op1, DL.op2', DL.seqD, w_m1, eqD_int, eqD_str, ltI_eq, subD_eq, addD_int, pow12, lenD_lst, lenD_tup, lenD_str, DL.strO, decide_eq_true_eq, decide_eq_false_iff_not]
  refine ⟨.ow (.lst ds), rfl, ?_⟩
  simp only [wq_bind, wq_pure, wq_of, wq_mC, wq_opd, wq_mSlot, wq_resV, wq_resS, wq_mSet, wq_gN, wq_mNx, wq_mIf, wq_seq, wq_asg, wq_ret, wq_drop, wq_op, wq_k1, wq_mB, wq_tru, wq_not, wq_and, wq_or, wq_andV, wq_nil, wq_cons, wq_keep, wq_tup, wq_lst, wq_resL0, wq_resL1, wq_bui, wq_pNo, wq_pIs, wq_sl, wq_call, wq_sq, wq_st, wq_rg, wq_par, wq_var, wq_lc, wq_tg, wq_ag, List.map_cons, List.map_nil, List.cons_append, List.nil_append, List.length_cons, List.length_nil, List.replicate, Nat.reduceAdd, Nat.reduceSub, Nat.sub_zero, List.getElem?_cons_zero, List.getElem?_cons_succ, List.set_cons_zero, List.set_cons_succ, Option.some.injEq, exists_eq_left', exists_eq_left, DV.d, lendR, DL.asB, DL.intD, DL.op1, DL.op2', DL.seqD, w_m1, eqD_int, eqD_str, ltI_eq, subD_eq, addD_int, pow12, lenD_lst, lenD_tup, lenD_str, DL.strO, decide_eq_true_eq, decide_eq_false_iff_not]
  refine ⟨_, rg1_len (by omega) (by omega), ?_⟩
  refine wq_blk (wq_lcGo (fun i acc ρ S => SrcOk S ∧ acc.length = i ∧ (∀ d ∈ acc, d ∈ ds) ∧ ∃ os : List DL.D, ∃ x, ρ = [some (.sh .src), some (.sh (.lst ds)), some (.ow (.lst os)), x] ∧ os.length + i = ds.length ∧ ∀ d ∈ os, d ∈ ds) ⟨h, rfl, (fun _ z => by cases z), ds, none, rfl, rfl, fun _ z => z⟩ (by rw [rangeL_len]; exact Nat.le_trans (m := 1000) (by omega) (by decide)) (fun i acc ρ S hI => Nat.le_of_eq hI.2.1) (fun i d acc ρ S1 hd hI => ?_) (fun acc ρ S1 hI => ?_))
  · obtain ⟨h1, la, ha, os, x, rfl, lo, ho⟩ := hI
    have hi : i < ds.length := by
      have := (List.getElem?_eq_some_iff.mp hd).1
      rw [rangeL_len] at this
      omega
    show wp (gN 3 d) [some (.sh .src), some (.sh (.lst ds)), some (.ow (.lst os)), none] S1 _ E0'
    rw [wq_gN]
    show (true = true → _) ∧ (true = false → _)
    refine ⟨fun _ => ?_, (fun z => by cases z)⟩
    refine wq_meth (d := .lst os) rfl rfl ?_
    simp only [wq_bind, wq_pure, wq_of, wq_mC, wq_opd, wq_mSlot, wq_resV, wq_resS, wq_mSet, wq_gN, wq_mNx, wq_mIf, wq_seq, wq_asg, wq_ret, wq_drop, wq_op, wq_k1, wq_mB, wq_tru, wq_not, wq_and, wq_or, wq_andV, wq_nil, wq_cons, wq_keep, wq_tup, wq_lst, wq_resL0, wq_resL1, wq_bui, wq_pNo, wq_pIs, wq_sl, wq_call, wq_sq, wq_st, wq_rg, wq_par, wq_var, wq_lc, wq_tg, wq_ag, List.map_cons, List.map_nil, List.cons_append, List.nil_append, List.length_cons, List.length_nil, List.replicate, Nat.reduceAdd, Nat.reduceSub, Nat.sub_zero, List.getElem?_cons_zero, List.getElem?_cons_succ, List.set_cons_zero, List.set_cons_succ, Option.some.injEq, exists_eq_left', exists_eq_left, DV.d, lendR, DL.asB, DL.intD, DL.op1, DL.op2', DL.seqD, w_m1, eqD_int, eqD_str, ltI_eq, subD_eq, addD_int, pow12, lenD_lst, lenD_tup, lenD_str, DL.strO, decide_eq_true_eq, decide_eq_false_iff_not]
    refine w_pick (n := os.length) rfl h1 (by omega) (by omega) fun r S2 h2 r0 r1 => ?_
    obtain ⟨y, os', e, hy, l1, l2⟩ := pop_ok r0 r1 (by omega)
    refine ⟨_, rfl, _, e, ?_⟩
    refine ⟨h2, by rw [List.length_append, la]; rfl, fun z hz => ?_, os', _, rfl, by omega, fun z hz => ho z (l2 z hz)⟩
    rcases List.mem_append.mp hz with hz | hz
    · exact ha z hz
    · rw [List.mem_singleton.mp hz]; exact ho y hy
  · obtain ⟨h1, la, ha, os, x, rfl, lo, ho⟩ := hI
    rw [rangeL_len] at la
    exact ⟨_, rfl, acc, rfl, by omega, ha, h1⟩
theorem w_val {ρ : DL.Env} {S : Src} {E : Po DL.D} {os : List Opd} {Q : Po DV} {ρL : DL.Env} (hl : lendR os ρ = some ([.src], ρL)) (h : SrcOk S) (q : ∀ d S', SrcOk S' → Fit 0 24 d → Q (.sh d) ρ S') : wp (callF F__law_any_value os) ρ S Q E := by
  obtain ⟨r, S', e, d, rfl, f, h1⟩ := val_ok h
  refine wq_callF hl e ?_
  rw [f.purV]
  exact q d S' h1 f
theorem ending_ok {S : Src} (h : SrcOk S) : ∃ r S', F__law_draw_ending [.src] S = some (.ret r S') ∧ ∃ d, r = .sh d ∧ Fit 1 150 d ∧ SrcOk S' := by
  refine mkF_of ?_
  unfold m__law_draw_ending
  simp only [wq_bind, wq_pure, wq_of, wq_mC, wq_opd, wq_mSlot, wq_resV, wq_resS, wq_mSet, wq_gN, wq_mNx, wq_mIf, wq_seq, wq_asg, wq_ret, wq_drop, wq_op, wq_k1, wq_mB, wq_tru, wq_not, wq_and, wq_or, wq_andV, wq_nil, wq_cons, wq_keep, wq_tup, wq_lst, wq_resL0, wq_resL1, wq_bui, wq_pNo, wq_pIs, wq_sl, wq_call, wq_sq, wq_st, wq_rg, wq_par, wq_var, wq_lc, wq_tg, wq_ag, List.map_cons, List.map_nil, List.cons_append, List.nil_append, List.length_cons, List.length_nil, List.replicate, Nat.reduceAdd, Nat.reduceSub, Nat.sub_zero, List.getElem?_cons_zero, List.getElem?_cons_succ, List.set_cons_zero, List.set_cons_succ, Option.some.injEq, exists_eq_left', exists_eq_left, DV.d, lendR, DL.asB, DL.intD, DL.op1, DL.op2', DL.seqD, w_m1, eqD_int, eqD_str, ltI_eq, subD_eq, addD_int, pow12, lenD_lst, lenD_tup, lenD_str, DL.strO, decide_eq_true_eq, decide_eq_false_iff_not]
  refine w_pick (n := 9) rfl h (by decide) (by decide) fun b S1 h1 b0 b1 => ?_
  simp only [wq_bind, wq_pure, wq_of, wq_mC, wq_opd, wq_mSlot, wq_resV, wq_resS, wq_mSet, wq_gN, wq_mNx, wq_mIf, wq_seq, wq_asg, wq_ret, wq_drop, wq_op, wq_k1, wq_mB, wq_tru, wq_not, wq_and, wq_or, wq_andV, wq_nil, wq_cons, wq_keep, wq_tup, wq_lst, wq_resL0, wq_resL1, wq_bui, wq_pNo, wq_pIs, wq_sl, wq_call, wq_sq, wq_st, wq_rg, wq_par, wq_var, wq_lc, wq_tg, wq_ag, List.map_cons, List.map_nil, List.cons_append, List.nil_append, List.length_cons, List.length_nil, List.replicate, Nat.reduceAdd, Nat.reduceSub, Nat.sub_zero, List.getElem?_cons_zero, List.getElem?_cons_succ, List.set_cons_zero, List.set_cons_succ, Option.some.injEq, exists_eq_left', exists_eq_left, DV.d, lendR, DL.asB, DL.intD, DL.op1, DL.op2', DL.seqD, w_m1, eqD_int, eqD_str, ltI_eq, subD_eq, addD_int, pow12, lenD_lst, lenD_tup, lenD_str, DL.strO, decide_eq_true_eq, decide_eq_false_iff_not]
  refine ⟨by decide, ?_⟩
  refine w_pick (n := 2) rfl h1 (by decide) (by decide) fun r S2 h2 r0 r1 => ?_
  simp only [wq_bind, wq_pure, wq_of, wq_mC, wq_opd, wq_mSlot, wq_resV, wq_resS, wq_mSet, wq_gN, wq_mNx, wq_mIf, wq_seq, wq_asg, wq_ret, wq_drop, wq_op, wq_k1, wq_mB, wq_tru, wq_not, wq_and, wq_or, wq_andV, wq_nil, wq_cons, wq_keep, wq_tup, wq_lst, wq_resL0, wq_resL1, wq_bui, wq_pNo, wq_pIs, wq_sl, wq_call, wq_sq, wq_st, wq_rg, wq_par, wq_var, wq_lc, wq_tg, wq_ag, List.map_cons, List.map_nil, List.cons_append, List.nil_append, List.length_cons, List.length_nil, List.replicate, Nat.reduceAdd, Nat.reduceSub, Nat.sub_zero, List.getElem?_cons_zero, List.getElem?_cons_succ, List.set_cons_zero, List.set_cons_succ, Option.some.injEq, exists_eq_left', exists_eq_left, DV.d, lendR, DL.asB, DL.intD, DL.op1, DL.op2', DL.seqD, w_m1, eqD_int, eqD_str, ltI_eq, subD_eq, addD_int, pow12, lenD_lst, lenD_tup, lenD_str, DL.strO, decide_eq_true_eq, decide_eq_false_iff_not]
  obtain ⟨x, hx, e⟩ := ix_lst (ds := [.str (Str.ofString "done"), .str (Str.ofString "failed")]) (i := r) r0 r1
  obtain ⟨s, rfl, hs⟩ : ∃ s : Str, x = .str s ∧ (s = Str.ofString "done" ∨ s = Str.ofString "failed") := by
    rcases List.mem_cons.mp hx with rfl | hx
    · exact ⟨_, rfl, .inl rfl⟩
    · rw [List.mem_singleton.mp hx]; exact ⟨_, rfl, .inr rfl⟩
  have fs : Fit 0 24 (.str s) := by
    rcases hs with rfl | rfl
    · exact Fit.str (by decide +kernel) (by decide +kernel)
    · exact Fit.str (by decide +kernel) (by decide +kernel)
  refine ⟨_, e, ?_⟩
  simp only [wq_bind, wq_pure, wq_of, wq_mC, wq_opd, wq_mSlot, wq_resV, wq_resS, wq_mSet, wq_gN, wq_mNx, wq_mIf, wq_seq, wq_asg, wq_ret, wq_drop, wq_op, wq_k1, wq_mB, wq_tru, wq_not, wq_and, wq_or, wq_andV, wq_nil, wq_cons, wq_keep, wq_tup, wq_lst, wq_resL0, wq_resL1, wq_bui, wq_pNo, wq_pIs, wq_sl, wq_call, wq_sq, wq_st, wq_rg, wq_par, wq_var, wq_lc, wq_tg, wq_ag, List.map_cons, List.map_nil, List.cons_append, List.nil_append, List.length_cons, List.length_nil, List.replicate, Nat.reduceAdd, Nat.reduceSub, Nat.sub_zero, List.getElem?_cons_zero, List.getElem?_cons_succ, List.set_cons_zero, List.set_cons_succ, Option.some.injEq, exists_eq_left', exists_eq_left, DV.d, lendR, DL.asB, DL.intD, DL.op1, DL.op2', DL.seqD, w_m1, eqD_int, eqD_str, ltI_eq, subD_eq, addD_int, pow12, lenD_lst, lenD_tup, lenD_str, DL.strO, decide_eq_true_eq, decide_eq_false_iff_not]
  refine ⟨fun _ => w_val rfl h2 fun v S3 h3 fv => ?_, fun _ => ?_⟩
  · simp only [wq_bind, wq_pure, wq_of, wq_mC, wq_opd, wq_mSlot, wq_resV, wq_resS, wq_mSet, wq_gN, wq_mNx, wq_mIf, wq_seq, wq_asg, wq_ret, wq_drop, wq_op, wq_k1, wq_mB, wq_tru, wq_not, wq_and, wq_or, wq_andV, wq_nil, wq_cons, wq_keep, wq_tup, wq_lst, wq_resL0, wq_resL1, wq_bui, wq_pNo, wq_pIs, wq_sl, wq_call, wq_sq, wq_st, wq_rg, wq_par, wq_var, wq_lc, wq_tg, wq_ag, List.map_cons, List.map_nil, List.cons_append, List.nil_append, List.length_cons, List.length_nil, List.replicate, Nat.reduceAdd, Nat.reduceSub, Nat.sub_zero, List.getElem?_cons_zero, List.getElem?_cons_succ, List.set_cons_zero, List.set_cons_succ, Option.some.injEq, exists_eq_left', exists_eq_left, DV.d, lendR, DL.asB, DL.intD, DL.op1, DL.op2', DL.seqD, w_m1, eqD_int, eqD_str, ltI_eq, subD_eq, addD_int, pow12, lenD_lst, lenD_tup, lenD_str, DL.strO, decide_eq_true_eq, decide_eq_false_iff_not]
    refine w_pick (n := 9) rfl h3 (by decide) (by decide) fun b2 S4 h4 p0 p1 => ?_
    simp only [wq_bind, wq_pure, wq_of, wq_mC, wq_opd, wq_mSlot, wq_resV, wq_resS, wq_mSet, wq_gN, wq_mNx, wq_mIf, wq_seq, wq_asg, wq_ret, wq_drop, wq_op, wq_k1, wq_mB, wq_tru, wq_not, wq_and, wq_or, wq_andV, wq_nil, wq_cons, wq_keep, wq_tup, wq_lst, wq_resL0, wq_resL1, wq_bui, wq_pNo, wq_pIs, wq_sl, wq_call, wq_sq, wq_st, wq_rg, wq_par, wq_var, wq_lc, wq_tg, wq_ag, List.map_cons, List.map_nil, List.cons_append, List.nil_append, List.length_cons, List.length_nil, List.replicate, Nat.reduceAdd, Nat.reduceSub, Nat.sub_zero, List.getElem?_cons_zero, List.getElem?_cons_succ, List.set_cons_zero, List.set_cons_succ, Option.some.injEq, exists_eq_left', exists_eq_left, DV.d, lendR, DL.asB, DL.intD, DL.op1, DL.op2', DL.seqD, w_m1, eqD_int, eqD_str, ltI_eq, subD_eq, addD_int, pow12, lenD_lst, lenD_tup, lenD_str, DL.strO, decide_eq_true_eq, decide_eq_false_iff_not]
    refine w_pick (n := 9) rfl h4 (by decide) (by decide) fun b3 S5 h5 q0 q1 => ?_
    simp only [wq_bind, wq_pure, wq_of, wq_mC, wq_opd, wq_mSlot, wq_resV, wq_resS, wq_mSet, wq_gN, wq_mNx, wq_mIf, wq_seq, wq_asg, wq_ret, wq_drop, wq_op, wq_k1, wq_mB, wq_tru, wq_not, wq_and, wq_or, wq_andV, wq_nil, wq_cons, wq_keep, wq_tup, wq_lst, wq_resL0, wq_resL1, wq_bui, wq_pNo, wq_pIs, wq_sl, wq_call, wq_sq, wq_st, wq_rg, wq_par, wq_var, wq_lc, wq_tg, wq_ag, List.map_cons, List.map_nil, List.cons_append, List.nil_append, List.length_cons, List.length_nil, List.replicate, Nat.reduceAdd, Nat.reduceSub, Nat.sub_zero, List.getElem?_cons_zero, List.getElem?_cons_succ, List.set_cons_zero, List.set_cons_succ, Option.some.injEq, exists_eq_left', exists_eq_left, DV.d, lendR, DL.asB, DL.intD, DL.op1, DL.op2', DL.seqD, w_m1, eqD_int, eqD_str, ltI_eq, subD_eq, addD_int, pow12, lenD_lst, lenD_tup, lenD_str, DL.strO, decide_eq_true_eq, decide_eq_false_iff_not]
    refine w_pick (n := 5) rfl h5 (by decide) (by decide) fun b4 S6 h6 t0 t1 => ?_
    simp only [wq_bind, wq_pure, wq_of, wq_mC, wq_opd, wq_mSlot, wq_resV, wq_resS, wq_mSet, wq_gN, wq_mNx, wq_mIf, wq_seq, wq_asg, wq_ret, wq_drop, wq_op, wq_k1, wq_mB, wq_tru, wq_not, wq_and, wq_or, wq_andV, wq_nil, wq_cons, wq_keep, wq_tup, wq_lst, wq_resL0, wq_resL1, wq_bui, wq_pNo, wq_pIs, wq_sl, wq_call, wq_sq, wq_st, wq_rg, wq_par, wq_var, wq_lc, wq_tg, wq_ag, List.map_cons, List.map_nil, List.cons_append, List.nil_append, List.length_cons, List.length_nil, List.replicate, Nat.reduceAdd, Nat.reduceSub, Nat.sub_zero, List.getElem?_cons_zero, List.getElem?_cons_succ, List.set_cons_zero, List.set_cons_succ, Option.some.injEq, exists_eq_left', exists_eq_left, DV.d, lendR, DL.asB, DL.intD, DL.op1, DL.op2', DL.seqD, w_m1, eqD_int, eqD_str, ltI_eq, subD_eq, addD_int, pow12, lenD_lst, lenD_tup, lenD_str, DL.strO, decide_eq_true_eq, decide_eq_false_iff_not]
    refine ⟨(by show 6 ≤ sizeLine; decide), _, rfl, _, rfl, ?_, h6⟩
    refine Fit.tup (b := 24) (fun d hd => ?_) (by show 6 * 25 ≤ 150; decide)
    simp only [List.mem_cons, List.not_mem_nil, or_false] at hd
    rcases hd with rfl | rfl | rfl | rfl | rfl | rfl
    · exact fs
    · exact Fit.int (by omega)
    · exact Fit.int (by omega)
    · exact Fit.int (by omega)
    · exact Fit.int (by omega)
    · exact fv
  · refine w_pick (n := 9) rfl h2 (by decide) (by decide) fun b2 S4 h4 p0 p1 => ?_
    simp only [wq_bind, wq_pure, wq_of, wq_mC, wq_opd, wq_mSlot, wq_resV, wq_resS, wq_mSet, wq_gN, wq_mNx, wq_mIf, wq_seq, wq_asg, wq_ret, wq_drop, wq_op, wq_k1, wq_mB, wq_tru, wq_not, wq_and, wq_or, wq_andV, wq_nil, wq_cons, wq_keep, wq_tup, wq_lst, wq_resL0, wq_resL1, wq_bui, wq_pNo, wq_pIs, wq_sl, wq_call, wq_sq, wq_st, wq_rg, wq_par, wq_var, wq_lc, wq_tg, wq_ag, List.map_cons, List.map_nil, List.cons_append, List.nil_append, List.length_cons, List.length_nil, List.replicate, Nat.reduceAdd, Nat.reduceSub, Nat.sub_zero, List.getElem?_cons_zero, List.getElem?_cons_succ, List.set_cons_zero, List.set_cons_succ, Option.some.injEq, exists_eq_left', exists_eq_left, DV.d, lendR, DL.asB, DL.intD, DL.op1, DL.op2', DL.seqD, w_m1, eqD_int, eqD_str, ltI_eq, subD_eq, addD_int, pow12, lenD_lst, lenD_tup, lenD_str, DL.strO, decide_eq_true_eq, decide_eq_false_iff_not]
    refine w_pick (n := 9) rfl h4 (by decide) (by decide) fun b3 S5 h5 q0 q1 => ?_
    simp only [wq_bind, wq_pure, wq_of, wq_mC, wq_opd, wq_mSlot, wq_resV, wq_resS, wq_mSet, wq_gN, wq_mNx, wq_mIf, wq_seq, wq_asg, wq_ret, wq_drop, wq_op, wq_k1, wq_mB, wq_tru, wq_not, wq_and, wq_or, wq_andV, wq_nil, wq_cons, wq_keep, wq_tup, wq_lst, wq_resL0, wq_resL1, wq_bui, wq_pNo, wq_pIs, wq_sl, wq_call, wq_sq, wq_st, wq_rg, wq_par, wq_var, wq_lc, wq_tg, wq_ag, List.map_cons, List.map_nil, List.cons_append, List.nil_append, List.length_cons, List.length_nil, List.replicate, Nat.reduceAdd, Nat.reduceSub, Nat.sub_zero, List.getElem?_cons_zero, List.getElem?_cons_succ, List.set_cons_zero, List.set_cons_succ, Option.some.injEq, exists_eq_left', exists_eq_left, DV.d, lendR, DL.asB, DL.intD, DL.op1, DL.op2', DL.seqD, w_m1, eqD_int, eqD_str, ltI_eq, subD_eq, addD_int, pow12, lenD_lst, lenD_tup, lenD_str, DL.strO, decide_eq_true_eq, decide_eq_false_iff_not]
    refine w_pick (n := 5) rfl h5 (by decide) (by decide) fun b4 S6 h6 t0 t1 => ?_
    simp only [wq_bind, wq_pure, wq_of, wq_mC, wq_opd, wq_mSlot, wq_resV, wq_resS, wq_mSet, wq_gN, wq_mNx, wq_mIf, wq_seq, wq_asg, wq_ret, wq_drop, wq_op, wq_k1, wq_mB, wq_tru, wq_not, wq_and, wq_or, wq_andV, wq_nil, wq_cons, wq_keep, wq_tup, wq_lst, wq_resL0, wq_resL1, wq_bui, wq_pNo, wq_pIs, wq_sl, wq_call, wq_sq, wq_st, wq_rg, wq_par, wq_var, wq_lc, wq_tg, wq_ag, List.map_cons, List.map_nil, List.cons_append, List.nil_append, List.length_cons, List.length_nil, List.replicate, Nat.reduceAdd, Nat.reduceSub, Nat.sub_zero, List.getElem?_cons_zero, List.getElem?_cons_succ, List.set_cons_zero, List.set_cons_succ, Option.some.injEq, exists_eq_left', exists_eq_left, DV.d, lendR, DL.asB, DL.intD, DL.op1, DL.op2', DL.seqD, w_m1, eqD_int, eqD_str, ltI_eq, subD_eq, addD_int, pow12, lenD_lst, lenD_tup, lenD_str, DL.strO, decide_eq_true_eq, decide_eq_false_iff_not]
    refine ⟨(by show 6 ≤ sizeLine; decide), _, rfl, _, rfl, ?_, h6⟩
    refine Fit.tup (b := 24) (fun d hd => ?_) (by show 6 * 25 ≤ 150; decide)
    simp only [List.mem_cons, List.not_mem_nil, or_false] at hd
    rcases hd with rfl | rfl | rfl | rfl | rfl | rfl
    · exact fs
    · exact Fit.int (by omega)
    · exact Fit.int (by omega)
    · exact Fit.int (by omega)
    · exact Fit.int (by omega)
    · exact Fit.non
end K22
set_option Elab.async false
set_option linter.all false
set_option maxRecDepth 100000
set_option maxHeartbeats 1000000
namespace K22
open PySem PySem.Spec PyProof.Rows L2 DL
def asks5 : List Str := [Str.ofString "take", Str.ofString "grant", Str.ofString "free", Str.ofString "bar", Str.ofString "ask"]
def AskL (d : DL.D) : Prop := ∃ w ps, d = .tup (.str w :: ps) ∧ w ∈ asks5 ∧ Fit 1 60 d
theorem inDV_str {n : Bool} {i j : Str} : inDV n (.str i) (.str j) = some (.sh (.bl (if n then !(inS i j) else inS i j))) := rfl
theorem intsD_str {s : Str} {r : List DL.D} : intsD (.str s :: r) = none := rfl
theorem sort_ok {ss : List Str} (h : ss.length < 64) : ∃ ts : List Str, sortF (.lst (ss.map DL.D.str)) = some (.ow (.lst (ts.map DL.D.str))) ∧ ts.length = ss.length ∧ ∀ t ∈ ts, t ∈ ss := by
  unfold sortF
  simp only [List.length_map, if_pos h]
  cases ss with
  | nil => exact ⟨[], by simp [intsD, sortZ], rfl, fun _ z => z⟩
  | cons s r =>
    refine ⟨sortT (s :: r), ?_, ?_, fun t ht => ?_⟩
    · rw [strsD_map]; rfl
    · unfold sortT; rw [List.length_mergeSort]
    · unfold sortT at ht
      exact (List.mem_mergeSort).mp ht
theorem strs_of : ∀ {ds : List DL.D} {L : List Str}, (∀ d ∈ ds, d ∈ L.map DL.D.str) → ∃ ss : List Str, ds = ss.map DL.D.str ∧ ∀ s ∈ ss, s ∈ L
  | [], _, _ => ⟨[], rfl, fun _ z => by cases z⟩
  | d :: r, L, h => by
    obtain ⟨ss, rfl, hs⟩ := strs_of (ds := r) (L := L) fun x hx => h x (List.mem_cons_of_mem _ hx)
    obtain ⟨s, h1, rfl⟩ := List.mem_map.mp (h d (List.mem_cons_self ..))
    refine ⟨s :: ss, rfl, fun t ht => ?_⟩
    rcases List.mem_cons.mp ht with rfl | ht
    · exact h1
    · exact hs t ht
def nms : List Str := [Str.ofString "a", Str.ofString "b", Str.ofString "c", Str.ofString "abcdefgh"]
theorem nms_ok : ∀ s ∈ nms, s.length ≤ 8 ∧ PyData.strOk s = true := by decide +kernel
theorem nm_fit {k b : Nat} {s : Str} (h : s ∈ nms) (hb : 8 ≤ b) : Fit k b (.str s) := Fit.str (Nat.le_trans (nms_ok s h).1 hb) (nms_ok s h).2
theorem cut_mem {α : Type} {xs : List α} {lo hi : Option Int} : ∀ x ∈ cutL xs lo hi, x ∈ xs := fun x h => List.mem_of_mem_drop (List.mem_of_mem_take h)
theorem cut_len {α : Type} {xs : List α} {k : Int} (h : 0 ≤ k) : (cutL xs none (some k)).length ≤ k.toNat := by
  unfold cutL
  refine Nat.le_trans (List.length_take_le _ _) ?_
  unfold HT.sIx
  simp only
  rw [if_neg (by omega)]
  omega
theorem w_end {ρ : DL.Env} {S : Src} {E : Po DL.D} {os : List Opd} {Q : Po DV} {ρL : DL.Env} (hl : lendR os ρ = some ([.src], ρL)) (h : SrcOk S) (q : ∀ d S', SrcOk S' → Fit 1 150 d → Q (.sh d) ρ S') : wp (callF F__law_draw_ending os) ρ S Q E := by
  obtain ⟨r, S', e, d, rfl, f, h1⟩ := ending_ok h
  refine wq_callF hl e ?_
  rw [f.purV]
  exact q d S' h1 f
theorem addD_tup {a b : List DL.D} (h : a.length + b.length ≤ sizeLine) : addD (.tup a) (.tup b) = some (.sh (.tup (a ++ b))) := if_pos h
theorem addD_lst {a b : List DL.D} (h : a.length + b.length ≤ sizeLine) : addD (.lst a) (.lst b) = some (.ow (.lst (a ++ b))) := if_pos h
theorem appF_ok {x : DL.D} {ds : List DL.D} (h : ds.length < sizeLine) : appF [x] (.lst ds) = some (.lst (ds ++ [x]), .non) := if_pos h
theorem intF_bl {b : Bool} : intF (.bl b) = some (.sh (.int (if b then 1 else 0))) := rfl
theorem tupF_lst {ds : List DL.D} : tupF (.lst ds) = some (.sh (.tup ds)) := rfl
theorem slD_lst {ds : List DL.D} {l h : Option Int} : slD (.lst ds) l h = some (.ow (.lst (cutL ds l h))) := rfl
theorem slD_tup {ds : List DL.D} {l h : Option Int} : slD (.tup ds) l h = some (.sh (.tup (cutL ds l h))) := rfl
theorem part_ok {F0 : Fn} {S : Src} (h : SrcOk S) {s : Str} (hF : s = Str.ofString "l" → ∀ S, SrcOk S → ∃ r S', F0 [.src, .lst (asks5.map DL.D.str)] S = some (.ret r S') ∧ ∃ d, r = .sh d ∧ AskL d ∧ SrcOk S') :
    ∃ r S', mkF 7 (m__law_draw_part F0) [.src, .str s] S = some (.ret r S') ∧ ∃ d, r = .sh d ∧ Fit 5 2730 d ∧ (s = Str.ofString "l" → AskL d) ∧ (inS s (Str.ofString "ec") = true ∨ inS s (Str.ofString "nm") = true → Fit 0 8 d) ∧ SrcOk S' := by
  refine mkF_of ?_
  unfold m__law_draw_part
  simp only [wq_bind, wq_pure, wq_of, wq_mC, wq_opd, wq_mSlot, wq_resV, wq_resS, wq_mSet, wq_gN, wq_mNx, wq_mIf, wq_seq, wq_asg, wq_ret, wq_drop, wq_op, wq_k1, wq_mB, wq_tru, wq_not, wq_and, wq_or, wq_andV, wq_nil, wq_cons, wq_keep, wq_tup, wq_lst, wq_resL0, wq_resL1, wq_bui, wq_pNo, wq_pIs, wq_sl, wq_call, wq_sq, wq_st, wq_rg, wq_par, wq_var, wq_lc, wq_tg, wq_ag, List.map_cons, List.map_nil, List.cons_append, List.nil_append, List.length_cons, List.length_nil, List.replicate, Nat.reduceAdd, Nat.reduceSub, Nat.sub_zero, List.getElem?_cons_zero, List.getElem?_cons_succ, List.set_cons_zero, List.set_cons_succ, Option.some.injEq, exists_eq_left', exists_eq_left, DV.d, lendR, DL.asB, DL.intD, DL.op1, DL.op2', DL.seqD, w_m1, eqD_int, eqD_str, ltI_eq, subD_eq, addD_int, pow12, lenD_lst, lenD_tup, lenD_str, DL.strO, decide_eq_true_eq, decide_eq_false_iff_not]
  simp only [inDV_str, intF_bl, Option.some.injEq, exists_eq_left', Bool.false_eq_true, if_false]
  have nl : s = Str.ofString "l" → ¬ inS s (Str.ofString "ec") = true ∧ ¬ inS s (Str.ofString "nm") = true := by
    rintro rfl
    exact ⟨by decide +kernel, by decide +kernel⟩
  have no1 : inS s (Str.ofString "ec") = false → inS s (Str.ofString "nm") = false → ¬ (inS s (Str.ofString "ec") = true ∨ inS s (Str.ofString "nm") = true) := fun a b z => by
    rcases z with z | z
    · rw [a] at z; cases z
    · rw [b] at z; cases z
  refine ⟨fun c => ?_, fun c => ⟨fun c2 => ⟨fun c3 => ?_, fun c3 => ?_⟩, fun c2 => ⟨fun c3 => ?_, fun c3 => ⟨fun c4 => ?_, fun c4 => ?_⟩⟩⟩⟩
  · refine w_pick (n := 5) rfl h (by decide) (by decide) fun r S1 h1 r0 r1 => ?_
    simp only [wq_bind, wq_pure, wq_of, wq_mC, wq_opd, wq_mSlot, wq_resV, wq_resS, wq_mSet, wq_gN, wq_mNx, wq_mIf, wq_seq, wq_asg, wq_ret, wq_drop, wq_op, wq_k1, wq_mB, wq_tru, wq_not, wq_and, wq_or, wq_andV, wq_nil, wq_cons, wq_keep, wq_tup, wq_lst, wq_resL0, wq_resL1, wq_bui, wq_pNo, wq_pIs, wq_sl, wq_call, wq_sq, wq_st, wq_rg, wq_par, wq_var, wq_lc, wq_tg, wq_ag, List.map_cons, List.map_nil, List.cons_append, List.nil_append, List.length_cons, List.length_nil, List.replicate, Nat.reduceAdd, Nat.reduceSub, Nat.sub_zero, List.getElem?_cons_zero, List.getElem?_cons_succ, List.set_cons_zero, List.set_cons_succ, Option.some.injEq, exists_eq_left', exists_eq_left, DV.d, lendR, DL.asB, DL.intD, DL.op1, DL.op2', DL.seqD, w_m1, eqD_int, eqD_str, ltI_eq, subD_eq, addD_int, pow12, lenD_lst, lenD_tup, lenD_str, DL.strO, decide_eq_true_eq, decide_eq_false_iff_not]
    have f : ∀ k b, Fit k b (.int ((if s = Str.ofString "e" then 1 else 0) + r)) := fun k b => Fit.int (by split <;> omega)
    exact ⟨_, rfl, _, rfl, f _ _, fun z => absurd c (nl z).1, fun _ => f _ _, h1⟩
  · refine ⟨by decide, ?_⟩
    refine w_pick (n := 4) rfl h (by decide) (by decide) fun r S1 h1 r0 r1 => ?_
    simp only [wq_bind, wq_pure, wq_of, wq_mC, wq_opd, wq_mSlot, wq_resV, wq_resS, wq_mSet, wq_gN, wq_mNx, wq_mIf, wq_seq, wq_asg, wq_ret, wq_drop, wq_op, wq_k1, wq_mB, wq_tru, wq_not, wq_and, wq_or, wq_andV, wq_nil, wq_cons, wq_keep, wq_tup, wq_lst, wq_resL0, wq_resL1, wq_bui, wq_pNo, wq_pIs, wq_sl, wq_call, wq_sq, wq_st, wq_rg, wq_par, wq_var, wq_lc, wq_tg, wq_ag, List.map_cons, List.map_nil, List.cons_append, List.nil_append, List.length_cons, List.length_nil, List.replicate, Nat.reduceAdd, Nat.reduceSub, Nat.sub_zero, List.getElem?_cons_zero, List.getElem?_cons_succ, List.set_cons_zero, List.set_cons_succ, Option.some.injEq, exists_eq_left', exists_eq_left, DV.d, lendR, DL.asB, DL.intD, DL.op1, DL.op2', DL.seqD, w_m1, eqD_int, eqD_str, ltI_eq, subD_eq, addD_int, pow12, lenD_lst, lenD_tup, lenD_str, DL.strO, decide_eq_true_eq, decide_eq_false_iff_not]
    obtain ⟨x, hx, e⟩ := ix_lst (ds := nms.map DL.D.str) (i := r) r0 r1
    obtain ⟨t, ht, rfl⟩ := List.mem_map.mp hx
    exact ⟨_, e, _, rfl, _, rfl, nm_fit ht (by decide), fun z => absurd c2 (nl z).2, fun _ => nm_fit ht (by decide), h1⟩
  · refine w_pick (n := 8) rfl h (by decide) (by decide) fun r S1 h1 r0 r1 => ?_
    have f : ∀ k b, Fit k b (.int r) := fun k b => Fit.int (by omega)
    exact ⟨_, rfl, _, rfl, f _ _, fun z => absurd c2 (nl z).2, fun _ => f _ _, h1⟩
  · refine ⟨by decide, ?_⟩
    refine w_val rfl h fun v S1 h1 fv => ?_
    simp only [wq_bind, wq_pure, wq_of, wq_mC, wq_opd, wq_mSlot, wq_resV, wq_resS, wq_mSet, wq_gN, wq_mNx, wq_mIf, wq_seq, wq_asg, wq_ret, wq_drop, wq_op, wq_k1, wq_mB, wq_tru, wq_not, wq_and, wq_or, wq_andV, wq_nil, wq_cons, wq_keep, wq_tup, wq_lst, wq_resL0, wq_resL1, wq_bui, wq_pNo, wq_pIs, wq_sl, wq_call, wq_sq, wq_st, wq_rg, wq_par, wq_var, wq_lc, wq_tg, wq_ag, List.map_cons, List.map_nil, List.cons_append, List.nil_append, List.length_cons, List.length_nil, List.replicate, Nat.reduceAdd, Nat.reduceSub, Nat.sub_zero, List.getElem?_cons_zero, List.getElem?_cons_succ, List.set_cons_zero, List.set_cons_succ, Option.some.injEq, exists_eq_left', exists_eq_left, DV.d, lendR, DL.asB, DL.intD, DL.op1, DL.op2', DL.seqD, w_m1, eqD_int, eqD_str, ltI_eq, subD_eq, addD_int, pow12, lenD_lst, lenD_tup, lenD_str, DL.strO, decide_eq_true_eq, decide_eq_false_iff_not]
    refine ⟨by decide, by decide, ?_⟩
    refine w_pick (n := 2) rfl h1 (by decide) (by decide) fun r S2 h2 r0 r1 => ?_
    simp only [wq_bind, wq_pure, wq_of, wq_mC, wq_opd, wq_mSlot, wq_resV, wq_resS, wq_mSet, wq_gN, wq_mNx, wq_mIf, wq_seq, wq_asg, wq_ret, wq_drop, wq_op, wq_k1, wq_mB, wq_tru, wq_not, wq_and, wq_or, wq_andV, wq_nil, wq_cons, wq_keep, wq_tup, wq_lst, wq_resL0, wq_resL1, wq_bui, wq_pNo, wq_pIs, wq_sl, wq_call, wq_sq, wq_st, wq_rg, wq_par, wq_var, wq_lc, wq_tg, wq_ag, List.map_cons, List.map_nil, List.cons_append, List.nil_append, List.length_cons, List.length_nil, List.replicate, Nat.reduceAdd, Nat.reduceSub, Nat.sub_zero, List.getElem?_cons_zero, List.getElem?_cons_succ, List.set_cons_zero, List.set_cons_succ, Option.some.injEq, exists_eq_left', exists_eq_left, DV.d, lendR, DL.asB, DL.intD, DL.op1, DL.op2', DL.seqD, w_m1, eqD_int, eqD_str, ltI_eq, subD_eq, addD_int, pow12, lenD_lst, lenD_tup, lenD_str, DL.strO, decide_eq_true_eq, decide_eq_false_iff_not]
    obtain ⟨x, hx, e⟩ := ix_lst (ds := [.tup [.str (Str.ofString "failed")], .tup [.str (Str.ofString "done"), v]]) (i := r) r0 r1
    refine ⟨_, e, _, rfl, _, rfl, ?_, fun z => absurd (z.symm.trans c3) (by decide +kernel), fun z => absurd z (no1 c c2), h2⟩
    have f : Fit 1 50 x := by
      rcases List.mem_cons.mp hx with rfl | hx
      · exact Fit.tup (b := 24) (fun d hd => by rw [List.mem_singleton.mp hd]; exact Fit.str (by decide +kernel) (by decide +kernel)) (by decide)
      · rw [List.mem_singleton.mp hx]
        refine Fit.tup (b := 24) (fun d hd => ?_) (by show 2 * 25 ≤ 50; decide)
        rcases List.mem_cons.mp hd with rfl | hd
        · exact Fit.str (by decide +kernel) (by decide +kernel)
        · rw [List.mem_singleton.mp hd]; exact fv
    exact f.mono (by decide) (by decide)
  · refine ⟨by decide, ?_⟩
    obtain ⟨r, S1, e, d, rfl, ⟨w, ps, rfl, hw, fd⟩, h1⟩ := hF c4 S h
    refine wq_callF rfl e ?_
    exact ⟨_, rfl, _, rfl, fd.mono (by decide) (by decide), fun _ => ⟨w, ps, rfl, hw, fd⟩, fun z => absurd z (no1 c c2), h1⟩
  · refine ⟨by decide, ?_⟩
    obtain ⟨r, S1, e, os, rfl, l1, l2, h1⟩ := order_ok h (ds := nms.map DL.D.str) (by decide)
    refine wq_callF rfl e ?_
    obtain ⟨ss, rfl, hss⟩ := strs_of l2
    have hp : purV (.ow (.lst (ss.map DL.D.str))) = true := (Fits.of (k := 0) (b := 8) fun d hd => by
      obtain ⟨t, ht, rfl⟩ := List.mem_map.mp hd
      exact nm_fit (hss t ht) (by decide)).pur
    rw [hp, if_pos rfl]
    simp only [wq_bind, wq_pure, wq_of, wq_mC, wq_opd, wq_mSlot, wq_resV, wq_resS, wq_mSet, wq_gN, wq_mNx, wq_mIf, wq_seq, wq_asg, wq_ret, wq_drop, wq_op, wq_k1, wq_mB, wq_tru, wq_not, wq_and, wq_or, wq_andV, wq_nil, wq_cons, wq_keep, wq_tup, wq_lst, wq_resL0, wq_resL1, wq_bui, wq_pNo, wq_pIs, wq_sl, wq_call, wq_sq, wq_st, wq_rg, wq_par, wq_var, wq_lc, wq_tg, wq_ag, List.map_cons, List.map_nil, List.cons_append, List.nil_append, List.length_cons, List.length_nil, List.replicate, Nat.reduceAdd, Nat.reduceSub, Nat.sub_zero, List.getElem?_cons_zero, List.getElem?_cons_succ, List.set_cons_zero, List.set_cons_succ, Option.some.injEq, exists_eq_left', exists_eq_left, DV.d, lendR, DL.asB, DL.intD, DL.op1, DL.op2', DL.seqD, w_m1, eqD_int, eqD_str, ltI_eq, subD_eq, addD_int, pow12, lenD_lst, lenD_tup, lenD_str, DL.strO, decide_eq_true_eq, decide_eq_false_iff_not]
    refine w_pick (n := 4) rfl h1 (by decide) (by decide) fun k S2 h2 k0 k1 => ?_
    simp only [wq_bind, wq_pure, wq_of, wq_mC, wq_opd, wq_mSlot, wq_resV, wq_resS, wq_mSet, wq_gN, wq_mNx, wq_mIf, wq_seq, wq_asg, wq_ret, wq_drop, wq_op, wq_k1, wq_mB, wq_tru, wq_not, wq_and, wq_or, wq_andV, wq_nil, wq_cons, wq_keep, wq_tup, wq_lst, wq_resL0, wq_resL1, wq_bui, wq_pNo, wq_pIs, wq_sl, wq_call, wq_sq, wq_st, wq_rg, wq_par, wq_var, wq_lc, wq_tg, wq_ag, List.map_cons, List.map_nil, List.cons_append, List.nil_append, List.length_cons, List.length_nil, List.replicate, Nat.reduceAdd, Nat.reduceSub, Nat.sub_zero, List.getElem?_cons_zero, List.getElem?_cons_succ, List.set_cons_zero, List.set_cons_succ, Option.some.injEq, exists_eq_left', exists_eq_left, DV.d, lendR, DL.asB, DL.intD, DL.op1, DL.op2', DL.seqD, w_m1, eqD_int, eqD_str, ltI_eq, subD_eq, addD_int, pow12, lenD_lst, lenD_tup, lenD_str, DL.strO, decide_eq_true_eq, decide_eq_false_iff_not]
    refine ⟨_, slD_lst, ?_⟩
    have hcut : cutL (ss.map DL.D.str) none (some k) = (cutL ss none (some k)).map DL.D.str := by
      unfold cutL
      rw [List.length_map, List.map_take, List.map_drop]
    rw [hcut]
    have lc := cut_len (xs := ss) k0
    obtain ⟨ts, e2, l3, l4⟩ := sort_ok (ss := cutL ss none (some k)) (by omega)
    refine ⟨_, e2, Nat.zero_le _, ?_⟩
    simp only [wq_bind, wq_pure, wq_of, wq_mC, wq_opd, wq_mSlot, wq_resV, wq_resS, wq_mSet, wq_gN, wq_mNx, wq_mIf, wq_seq, wq_asg, wq_ret, wq_drop, wq_op, wq_k1, wq_mB, wq_tru, wq_not, wq_and, wq_or, wq_andV, wq_nil, wq_cons, wq_keep, wq_tup, wq_lst, wq_resL0, wq_resL1, wq_bui, wq_pNo, wq_pIs, wq_sl, wq_call, wq_sq, wq_st, wq_rg, wq_par, wq_var, wq_lc, wq_tg, wq_ag, List.map_cons, List.map_nil, List.cons_append, List.nil_append, List.length_cons, List.length_nil, List.replicate, Nat.reduceAdd, Nat.reduceSub, Nat.sub_zero, List.getElem?_cons_zero, List.getElem?_cons_succ, List.set_cons_zero, List.set_cons_succ, Option.some.injEq, exists_eq_left', exists_eq_left, DV.d, lendR, DL.asB, DL.intD, DL.op1, DL.op2', DL.seqD, w_m1, eqD_int, eqD_str, ltI_eq, subD_eq, addD_int, pow12, lenD_lst, lenD_tup, lenD_str, DL.strO, decide_eq_true_eq, decide_eq_false_iff_not]
    have hts : ∀ t ∈ ts, t ∈ nms := fun t ht => hss t (cut_mem t (l4 t ht))
    have none1 : s = Str.ofString "l" → False := c4
    refine wq_for (I := fun i ρ S => SrcOk S ∧ ∃ fs : List DL.D, ∃ x4 x5 x6, ρ = [some (.sh .src), some (.sh (.str s)), some (.sh (.lst (ts.map DL.D.str))), some (.ow (.lst fs)), x4, x5, x6] ∧ fs.length = i ∧ ∀ f ∈ fs, Fit 4 909 f) ⟨h2, [], none, none, none, rfl, rfl, fun _ z => by cases z⟩ (fun i d ρ S3 hd hI => ?_) (fun ρ S3 hI => ?_)
    · obtain ⟨h3, fs, x4, x5, x6, rfl, lf, hf⟩ := hI
      rw [List.getElem?_map] at hd
      obtain ⟨t, ht, rfl⟩ := Option.map_eq_some_iff.mp hd
      have tn := hts t (List.mem_of_getElem? ht)
      have li : i < ts.length := (List.getElem?_eq_some_iff.mp ht).1
      have ls : fs.length < sizeLine := Nat.lt_of_lt_of_le (m := 4) (by omega) (by decide)
      have fin : ∀ (y : DL.D) (S4 : Src) (x5 x6 : Option DV), SrcOk S4 → Fit 4 909 y → SrcOk S4 ∧ ∃ gs : List DL.D, ∃ y4 y5 y6, ([some (.sh .src), some (.sh (.str s)), some (.sh (.lst (ts.map DL.D.str))), some (.ow (.lst (fs ++ [y]))), some (.sh (.str t)), x5, x6] : DL.Env) = [some (.sh .src), some (.sh (.str s)), some (.sh (.lst (ts.map DL.D.str))), some (.ow (.lst gs)), y4, y5, y6] ∧ gs.length = i + 1 ∧ ∀ f ∈ gs, Fit 4 909 f := fun y S4 x5 x6 h4 fy =>
        ⟨h4, fs ++ [y], _, _, _, rfl, by rw [List.length_append, lf]; rfl, fun f hm => (List.mem_append.mp hm).elim (hf f) fun z => by rw [List.mem_singleton.mp z]; exact fy⟩
      simp only [wq_bind, wq_pure, wq_of, wq_mC, wq_opd, wq_mSlot, wq_resV, wq_resS, wq_mSet, wq_gN, wq_mNx, wq_mIf, wq_seq, wq_asg, wq_ret, wq_drop, wq_op, wq_k1, wq_mB, wq_tru, wq_not, wq_and, wq_or, wq_andV, wq_nil, wq_cons, wq_keep, wq_tup, wq_lst, wq_resL0, wq_resL1, wq_bui, wq_pNo, wq_pIs, wq_sl, wq_call, wq_sq, wq_st, wq_rg, wq_par, wq_var, wq_lc, wq_tg, wq_ag, List.map_cons, List.map_nil, List.cons_append, List.nil_append, List.length_cons, List.length_nil, List.replicate, Nat.reduceAdd, Nat.reduceSub, Nat.sub_zero, List.getElem?_cons_zero, List.getElem?_cons_succ, List.set_cons_zero, List.set_cons_succ, Option.some.injEq, exists_eq_left', exists_eq_left, DV.d, lendR, DL.asB, DL.intD, DL.op1, DL.op2', DL.seqD, w_m1, eqD_int, eqD_str, ltI_eq, subD_eq, addD_int, pow12, lenD_lst, lenD_tup, lenD_str, DL.strO, decide_eq_true_eq, decide_eq_false_iff_not]
      refine ⟨fun c5 => ?_, fun c5 => ⟨fun c6 => ?_, fun c6 => ⟨fun c7 => ?_, fun c7 => ?_⟩⟩⟩
      · refine wq_meth (d := .lst fs) rfl rfl ?_
        simp only [wq_bind, wq_pure, wq_of, wq_mC, wq_opd, wq_mSlot, wq_resV, wq_resS, wq_mSet, wq_gN, wq_mNx, wq_mIf, wq_seq, wq_asg, wq_ret, wq_drop, wq_op, wq_k1, wq_mB, wq_tru, wq_not, wq_and, wq_or, wq_andV, wq_nil, wq_cons, wq_keep, wq_tup, wq_lst, wq_resL0, wq_resL1, wq_bui, wq_pNo, wq_pIs, wq_sl, wq_call, wq_sq, wq_st, wq_rg, wq_par, wq_var, wq_lc, wq_tg, wq_ag, List.map_cons, List.map_nil, List.cons_append, List.nil_append, List.length_cons, List.length_nil, List.replicate, Nat.reduceAdd, Nat.reduceSub, Nat.sub_zero, List.getElem?_cons_zero, List.getElem?_cons_succ, List.set_cons_zero, List.set_cons_succ, Option.some.injEq, exists_eq_left', exists_eq_left, DV.d, lendR, DL.asB, DL.intD, DL.op1, DL.op2', DL.seqD, w_m1, eqD_int, eqD_str, ltI_eq, subD_eq, addD_int, pow12, lenD_lst, lenD_tup, lenD_str, DL.strO, decide_eq_true_eq, decide_eq_false_iff_not]
        refine w_val rfl h3 fun v S4 h4 fv => ?_
        simp only [wq_bind, wq_pure, wq_of, wq_mC, wq_opd, wq_mSlot, wq_resV, wq_resS, wq_mSet, wq_gN, wq_mNx, wq_mIf, wq_seq, wq_asg, wq_ret, wq_drop, wq_op, wq_k1, wq_mB, wq_tru, wq_not, wq_and, wq_or, wq_andV, wq_nil, wq_cons, wq_keep, wq_tup, wq_lst, wq_resL0, wq_resL1, wq_bui, wq_pNo, wq_pIs, wq_sl, wq_call, wq_sq, wq_st, wq_rg, wq_par, wq_var, wq_lc, wq_tg, wq_ag, List.map_cons, List.map_nil, List.cons_append, List.nil_append, List.length_cons, List.length_nil, List.replicate, Nat.reduceAdd, Nat.reduceSub, Nat.sub_zero, List.getElem?_cons_zero, List.getElem?_cons_succ, List.set_cons_zero, List.set_cons_succ, Option.some.injEq, exists_eq_left', exists_eq_left, DV.d, lendR, DL.asB, DL.intD, DL.op1, DL.op2', DL.seqD, w_m1, eqD_int, eqD_str, ltI_eq, subD_eq, addD_int, pow12, lenD_lst, lenD_tup, lenD_str, DL.strO, decide_eq_true_eq, decide_eq_false_iff_not]
        refine ⟨by decide, .lst fs, rfl, _, appF_ok ls, ?_⟩
        refine ⟨trivial, fin _ S4 x5 x6 h4 ?_⟩
        have f : Fit 1 50 (.tup [.str t, v]) := Fit.tup (b := 24) (fun d hd => by
          rcases List.mem_cons.mp hd with rfl | hd
          · exact nm_fit tn (by decide)
          · rw [List.mem_singleton.mp hd]; exact fv) (by show 2 * 25 ≤ 50; decide)
        exact f.mono (by decide) (by decide)
      · refine w_pick (n := 9) rfl h3 (by decide) (by decide) fun a1 S4 h4 p0 p1 => ?_
        simp only [wq_bind, wq_pure, wq_of, wq_mC, wq_opd, wq_mSlot, wq_resV, wq_resS, wq_mSet, wq_gN, wq_mNx, wq_mIf, wq_seq, wq_asg, wq_ret, wq_drop, wq_op, wq_k1, wq_mB, wq_tru, wq_not, wq_and, wq_or, wq_andV, wq_nil, wq_cons, wq_keep, wq_tup, wq_lst, wq_resL0, wq_resL1, wq_bui, wq_pNo, wq_pIs, wq_sl, wq_call, wq_sq, wq_st, wq_rg, wq_par, wq_var, wq_lc, wq_tg, wq_ag, List.map_cons, List.map_nil, List.cons_append, List.nil_append, List.length_cons, List.length_nil, List.replicate, Nat.reduceAdd, Nat.reduceSub, Nat.sub_zero, List.getElem?_cons_zero, List.getElem?_cons_succ, List.set_cons_zero, List.set_cons_succ, Option.some.injEq, exists_eq_left', exists_eq_left, DV.d, lendR, DL.asB, DL.intD, DL.op1, DL.op2', DL.seqD, w_m1, eqD_int, eqD_str, ltI_eq, subD_eq, addD_int, pow12, lenD_lst, lenD_tup, lenD_str, DL.strO, decide_eq_true_eq, decide_eq_false_iff_not]
        refine w_pick (n := 8) rfl h4 (by decide) (by decide) fun a2 S5 h5 q0 q1 => ?_
        simp only [wq_bind, wq_pure, wq_of, wq_mC, wq_opd, wq_mSlot, wq_resV, wq_resS, wq_mSet, wq_gN, wq_mNx, wq_mIf, wq_seq, wq_asg, wq_ret, wq_drop, wq_op, wq_k1, wq_mB, wq_tru, wq_not, wq_and, wq_or, wq_andV, wq_nil, wq_cons, wq_keep, wq_tup, wq_lst, wq_resL0, wq_resL1, wq_bui, wq_pNo, wq_pIs, wq_sl, wq_call, wq_sq, wq_st, wq_rg, wq_par, wq_var, wq_lc, wq_tg, wq_ag, List.map_cons, List.map_nil, List.cons_append, List.nil_append, List.length_cons, List.length_nil, List.replicate, Nat.reduceAdd, Nat.reduceSub, Nat.sub_zero, List.getElem?_cons_zero, List.getElem?_cons_succ, List.set_cons_zero, List.set_cons_succ, Option.some.injEq, exists_eq_left', exists_eq_left, DV.d, lendR, DL.asB, DL.intD, DL.op1, DL.op2', DL.seqD, w_m1, eqD_int, eqD_str, ltI_eq, subD_eq, addD_int, pow12, lenD_lst, lenD_tup, lenD_str, DL.strO, decide_eq_true_eq, decide_eq_false_iff_not]
        refine w_pick (n := 5) rfl h5 (by decide) (by decide) fun a3 S6 h6 t0 t1 => ?_
        simp only [wq_bind, wq_pure, wq_of, wq_mC, wq_opd, wq_mSlot, wq_resV, wq_resS, wq_mSet, wq_gN, wq_mNx, wq_mIf, wq_seq, wq_asg, wq_ret, wq_drop, wq_op, wq_k1, wq_mB, wq_tru, wq_not, wq_and, wq_or, wq_andV, wq_nil, wq_cons, wq_keep, wq_tup, wq_lst, wq_resL0, wq_resL1, wq_bui, wq_pNo, wq_pIs, wq_sl, wq_call, wq_sq, wq_st, wq_rg, wq_par, wq_var, wq_lc, wq_tg, wq_ag, List.map_cons, List.map_nil, List.cons_append, List.nil_append, List.length_cons, List.length_nil, List.replicate, Nat.reduceAdd, Nat.reduceSub, Nat.sub_zero, List.getElem?_cons_zero, List.getElem?_cons_succ, List.set_cons_zero, List.set_cons_succ, Option.some.injEq, exists_eq_left', exists_eq_left, DV.d, lendR, DL.asB, DL.intD, DL.op1, DL.op2', DL.seqD, w_m1, eqD_int, eqD_str, ltI_eq, subD_eq, addD_int, pow12, lenD_lst, lenD_tup, lenD_str, DL.strO, decide_eq_true_eq, decide_eq_false_iff_not]
        refine ⟨(by show 3 ≤ sizeLine; decide), ?_⟩
        refine wq_meth (d := .lst fs) rfl rfl ?_
        simp only [wq_bind, wq_pure, wq_of, wq_mC, wq_opd, wq_mSlot, wq_resV, wq_resS, wq_mSet, wq_gN, wq_mNx, wq_mIf, wq_seq, wq_asg, wq_ret, wq_drop, wq_op, wq_k1, wq_mB, wq_tru, wq_not, wq_and, wq_or, wq_andV, wq_nil, wq_cons, wq_keep, wq_tup, wq_lst, wq_resL0, wq_resL1, wq_bui, wq_pNo, wq_pIs, wq_sl, wq_call, wq_sq, wq_st, wq_rg, wq_par, wq_var, wq_lc, wq_tg, wq_ag, List.map_cons, List.map_nil, List.cons_append, List.nil_append, List.length_cons, List.length_nil, List.replicate, Nat.reduceAdd, Nat.reduceSub, Nat.sub_zero, List.getElem?_cons_zero, List.getElem?_cons_succ, List.set_cons_zero, List.set_cons_succ, Option.some.injEq, exists_eq_left', exists_eq_left, DV.d, lendR, DL.asB, DL.intD, DL.op1, DL.op2', DL.seqD, w_m1, eqD_int, eqD_str, ltI_eq, subD_eq, addD_int, pow12, lenD_lst, lenD_tup, lenD_str, DL.strO, decide_eq_true_eq, decide_eq_false_iff_not]
        refine w_pick (n := 9) rfl h6 (by decide) (by decide) fun a4 S7 h7 u0 u1 => ?_
        simp only [wq_bind, wq_pure, wq_of, wq_mC, wq_opd, wq_mSlot, wq_resV, wq_resS, wq_mSet, wq_gN, wq_mNx, wq_mIf, wq_seq, wq_asg, wq_ret, wq_drop, wq_op, wq_k1, wq_mB, wq_tru, wq_not, wq_and, wq_or, wq_andV, wq_nil, wq_cons, wq_keep, wq_tup, wq_lst, wq_resL0, wq_resL1, wq_bui, wq_pNo, wq_pIs, wq_sl, wq_call, wq_sq, wq_st, wq_rg, wq_par, wq_var, wq_lc, wq_tg, wq_ag, List.map_cons, List.map_nil, List.cons_append, List.nil_append, List.length_cons, List.length_nil, List.replicate, Nat.reduceAdd, Nat.reduceSub, Nat.sub_zero, List.getElem?_cons_zero, List.getElem?_cons_succ, List.set_cons_zero, List.set_cons_succ, Option.some.injEq, exists_eq_left', exists_eq_left, DV.d, lendR, DL.asB, DL.intD, DL.op1, DL.op2', DL.seqD, w_m1, eqD_int, eqD_str, ltI_eq, subD_eq, addD_int, pow12, lenD_lst, lenD_tup, lenD_str, DL.strO, decide_eq_true_eq, decide_eq_false_iff_not]
        refine w_pick (n := 9) rfl h7 (by decide) (by decide) fun a5 S8 h8 v0 v1 => ?_
        simp only [wq_bind, wq_pure, wq_of, wq_mC, wq_opd, wq_mSlot, wq_resV, wq_resS, wq_mSet, wq_gN, wq_mNx, wq_mIf, wq_seq, wq_asg, wq_ret, wq_drop, wq_op, wq_k1, wq_mB, wq_tru, wq_not, wq_and, wq_or, wq_andV, wq_nil, wq_cons, wq_keep, wq_tup, wq_lst, wq_resL0, wq_resL1, wq_bui, wq_pNo, wq_pIs, wq_sl, wq_call, wq_sq, wq_st, wq_rg, wq_par, wq_var, wq_lc, wq_tg, wq_ag, List.map_cons, List.map_nil, List.cons_append, List.nil_append, List.length_cons, List.length_nil, List.replicate, Nat.reduceAdd, Nat.reduceSub, Nat.sub_zero, List.getElem?_cons_zero, List.getElem?_cons_succ, List.set_cons_zero, List.set_cons_succ, Option.some.injEq, exists_eq_left', exists_eq_left, DV.d, lendR, DL.asB, DL.intD, DL.op1, DL.op2', DL.seqD, w_m1, eqD_int, eqD_str, ltI_eq, subD_eq, addD_int, pow12, lenD_lst, lenD_tup, lenD_str, DL.strO, decide_eq_true_eq, decide_eq_false_iff_not]
        refine ⟨(by show 2 ≤ sizeLine; decide), _, addD_tup (by show 5 ≤ sizeLine; decide), (by show 2 ≤ sizeLine; decide), .lst fs, rfl, _, appF_ok ls, trivial, fin _ _ _ _ h8 ?_⟩
        refine Fit.mono (k := 2) (b := 260) ?_ (by decide) (by decide)
        refine Fit.tup (b := 125) (fun d hd => ?_) (by show 2 * 126 ≤ 260; decide)
        rcases List.mem_cons.mp hd with rfl | hd
        · exact nm_fit tn (by decide)
        · rw [List.mem_singleton.mp hd]
          refine Fit.tup (b := 24) (fun d hd => ?_) (by show 5 * 25 ≤ 125; decide)
          simp only [List.cons_append, List.nil_append, List.mem_cons, List.not_mem_nil, or_false] at hd
          rcases hd with rfl | rfl | rfl | rfl | rfl
          · exact Fit.int (by omega)
          · exact Fit.int (by omega)
          · exact Fit.int (by omega)
          · exact Fit.int (by omega)
          · exact Fit.int (by omega)
      · refine wq_meth (d := .lst fs) rfl rfl ?_
        simp only [wq_bind, wq_pure, wq_of, wq_mC, wq_opd, wq_mSlot, wq_resV, wq_resS, wq_mSet, wq_gN, wq_mNx, wq_mIf, wq_seq, wq_asg, wq_ret, wq_drop, wq_op, wq_k1, wq_mB, wq_tru, wq_not, wq_and, wq_or, wq_andV, wq_nil, wq_cons, wq_keep, wq_tup, wq_lst, wq_resL0, wq_resL1, wq_bui, wq_pNo, wq_pIs, wq_sl, wq_call, wq_sq, wq_st, wq_rg, wq_par, wq_var, wq_lc, wq_tg, wq_ag, List.map_cons, List.map_nil, List.cons_append, List.nil_append, List.length_cons, List.length_nil, List.replicate, Nat.reduceAdd, Nat.reduceSub, Nat.sub_zero, List.getElem?_cons_zero, List.getElem?_cons_succ, List.set_cons_zero, List.set_cons_succ, Option.some.injEq, exists_eq_left', exists_eq_left, DV.d, lendR, DL.asB, DL.intD, DL.op1, DL.op2', DL.seqD, w_m1, eqD_int, eqD_str, ltI_eq, subD_eq, addD_int, pow12, lenD_lst, lenD_tup, lenD_str, DL.strO, decide_eq_true_eq, decide_eq_false_iff_not]
        refine ⟨(by show 2 ≤ sizeLine; decide), ?_⟩
        refine w_pick (n := 2) rfl h3 (by decide) (by decide) fun r S4 h4 r0 r1 => ?_
        simp only [wq_bind, wq_pure, wq_of, wq_mC, wq_opd, wq_mSlot, wq_resV, wq_resS, wq_mSet, wq_gN, wq_mNx, wq_mIf, wq_seq, wq_asg, wq_ret, wq_drop, wq_op, wq_k1, wq_mB, wq_tru, wq_not, wq_and, wq_or, wq_andV, wq_nil, wq_cons, wq_keep, wq_tup, wq_lst, wq_resL0, wq_resL1, wq_bui, wq_pNo, wq_pIs, wq_sl, wq_call, wq_sq, wq_st, wq_rg, wq_par, wq_var, wq_lc, wq_tg, wq_ag, List.map_cons, List.map_nil, List.cons_append, List.nil_append, List.length_cons, List.length_nil, List.replicate, Nat.reduceAdd, Nat.reduceSub, Nat.sub_zero, List.getElem?_cons_zero, List.getElem?_cons_succ, List.set_cons_zero, List.set_cons_succ, Option.some.injEq, exists_eq_left', exists_eq_left, DV.d, lendR, DL.asB, DL.intD, DL.op1, DL.op2', DL.seqD, w_m1, eqD_int, eqD_str, ltI_eq, subD_eq, addD_int, pow12, lenD_lst, lenD_tup, lenD_str, DL.strO, decide_eq_true_eq, decide_eq_false_iff_not]
        obtain ⟨x, hx, e⟩ := ix_lst (ds := [Str.ofString "a", Str.ofString "z"].map DL.D.str) (i := r) r0 r1
        obtain ⟨z, hz, rfl⟩ := List.mem_map.mp hx
        refine ⟨_, e, (by show 2 ≤ sizeLine; decide), .lst fs, rfl, _, appF_ok ls, trivial, fin _ _ _ _ h4 ?_⟩
        have zo : ∀ z ∈ [Str.ofString "a", Str.ofString "z"], z.length ≤ 24 ∧ PyData.strOk z = true := by decide +kernel
        have f : Fit 1 50 (.tup [.str t, .str z]) := Fit.tup (b := 24) (fun d hd => by
          rcases List.mem_cons.mp hd with rfl | hd
          · exact nm_fit tn (by decide)
          · rw [List.mem_singleton.mp hd]; exact Fit.str (zo z hz).1 (zo z hz).2) (by show 2 * 25 ≤ 50; decide)
        exact f.mono (by decide) (by decide)
      · refine wq_meth (d := .lst fs) rfl rfl ?_
        simp only [wq_bind, wq_pure, wq_of, wq_mC, wq_opd, wq_mSlot, wq_resV, wq_resS, wq_mSet, wq_gN, wq_mNx, wq_mIf, wq_seq, wq_asg, wq_ret, wq_drop, wq_op, wq_k1, wq_mB, wq_tru, wq_not, wq_and, wq_or, wq_andV, wq_nil, wq_cons, wq_keep, wq_tup, wq_lst, wq_resL0, wq_resL1, wq_bui, wq_pNo, wq_pIs, wq_sl, wq_call, wq_sq, wq_st, wq_rg, wq_par, wq_var, wq_lc, wq_tg, wq_ag, List.map_cons, List.map_nil, List.cons_append, List.nil_append, List.length_cons, List.length_nil, List.replicate, Nat.reduceAdd, Nat.reduceSub, Nat.sub_zero, List.getElem?_cons_zero, List.getElem?_cons_succ, List.set_cons_zero, List.set_cons_succ, Option.some.injEq, exists_eq_left', exists_eq_left, DV.d, lendR, DL.asB, DL.intD, DL.op1, DL.op2', DL.seqD, w_m1, eqD_int, eqD_str, ltI_eq, subD_eq, addD_int, pow12, lenD_lst, lenD_tup, lenD_str, DL.strO, decide_eq_true_eq, decide_eq_false_iff_not]
        refine w_pick (n := 3) rfl h3 (by decide) (by decide) fun r S4 h4 r0 r1 => ?_
        simp only [wq_bind, wq_pure, wq_of, wq_mC, wq_opd, wq_mSlot, wq_resV, wq_resS, wq_mSet, wq_gN, wq_mNx, wq_mIf, wq_seq, wq_asg, wq_ret, wq_drop, wq_op, wq_k1, wq_mB, wq_tru, wq_not, wq_and, wq_or, wq_andV, wq_nil, wq_cons, wq_keep, wq_tup, wq_lst, wq_resL0, wq_resL1, wq_bui, wq_pNo, wq_pIs, wq_sl, wq_call, wq_sq, wq_st, wq_rg, wq_par, wq_var, wq_lc, wq_tg, wq_ag, List.map_cons, List.map_nil, List.cons_append, List.nil_append, List.length_cons, List.length_nil, List.replicate, Nat.reduceAdd, Nat.reduceSub, Nat.sub_zero, List.getElem?_cons_zero, List.getElem?_cons_succ, List.set_cons_zero, List.set_cons_succ, Option.some.injEq, exists_eq_left', exists_eq_left, DV.d, lendR, DL.asB, DL.intD, DL.op1, DL.op2', DL.seqD, w_m1, eqD_int, eqD_str, ltI_eq, subD_eq, addD_int, pow12, lenD_lst, lenD_tup, lenD_str, DL.strO, decide_eq_true_eq, decide_eq_false_iff_not]
        refine ⟨_, rg1_len (by omega) (by omega), ?_⟩
        refine wq_lc1 (I := fun i acc S => SrcOk S ∧ acc.length = i ∧ ∀ d ∈ acc, Fit 1 150 d) ⟨h4, rfl, fun _ z => by cases z⟩ (by rw [rangeL_len]; exact Nat.le_trans (m := 4) (by omega) (by decide)) (fun i d acc S3 hd hI => ?_) (fun acc S3 hl hI => ?_)
        · obtain ⟨h5, la, ha⟩ := hI
          simp only [wq_bind, wq_pure, wq_of, wq_mC, wq_opd, wq_mSlot, wq_resV, wq_resS, wq_mSet, wq_gN, wq_mNx, wq_mIf, wq_seq, wq_asg, wq_ret, wq_drop, wq_op, wq_k1, wq_mB, wq_tru, wq_not, wq_and, wq_or, wq_andV, wq_nil, wq_cons, wq_keep, wq_tup, wq_lst, wq_resL0, wq_resL1, wq_bui, wq_pNo, wq_pIs, wq_sl, wq_call, wq_sq, wq_st, wq_rg, wq_par, wq_var, wq_lc, wq_tg, wq_ag, List.map_cons, List.map_nil, List.cons_append, List.nil_append, List.length_cons, List.length_nil, List.replicate, Nat.reduceAdd, Nat.reduceSub, Nat.sub_zero, List.getElem?_cons_zero, List.getElem?_cons_succ, List.set_cons_zero, List.set_cons_succ, Option.some.injEq, exists_eq_left', exists_eq_left, DV.d, lendR, DL.asB, DL.intD, DL.op1, DL.op2', DL.seqD, w_m1, eqD_int, eqD_str, ltI_eq, subD_eq, addD_int, pow12, lenD_lst, lenD_tup, lenD_str, DL.strO, decide_eq_true_eq, decide_eq_false_iff_not]
          refine w_end rfl h5 fun e S6 h6 fe => ?_
          refine ⟨rfl, h6, by rw [List.length_append, la]; rfl, fun d hd => ?_⟩
          rcases List.mem_append.mp hd with hd | hd
          · exact ha d hd
          · rw [List.mem_singleton.mp hd]; exact fe
        · obtain ⟨h5, la, ha⟩ := hI
          rw [rangeL_len] at la
          simp only [wq_bind, wq_pure, wq_of, wq_mC, wq_opd, wq_mSlot, wq_resV, wq_resS, wq_mSet, wq_gN, wq_mNx, wq_mIf, wq_seq, wq_asg, wq_ret, wq_drop, wq_op, wq_k1, wq_mB, wq_tru, wq_not, wq_and, wq_or, wq_andV, wq_nil, wq_cons, wq_keep, wq_tup, wq_lst, wq_resL0, wq_resL1, wq_bui, wq_pNo, wq_pIs, wq_sl, wq_call, wq_sq, wq_st, wq_rg, wq_par, wq_var, wq_lc, wq_tg, wq_ag, List.map_cons, List.map_nil, List.cons_append, List.nil_append, List.length_cons, List.length_nil, List.replicate, Nat.reduceAdd, Nat.reduceSub, Nat.sub_zero, List.getElem?_cons_zero, List.getElem?_cons_succ, List.set_cons_zero, List.set_cons_succ, Option.some.injEq, exists_eq_left', exists_eq_left, DV.d, lendR, DL.asB, DL.intD, DL.op1, DL.op2', DL.seqD, w_m1, eqD_int, eqD_str, ltI_eq, subD_eq, addD_int, pow12, lenD_lst, lenD_tup, lenD_str, DL.strO, decide_eq_true_eq, decide_eq_false_iff_not]
          refine ⟨_, tupF_lst, ?_⟩
          refine ⟨(by show 2 ≤ sizeLine; decide), .lst fs, rfl, _, appF_ok ls, trivial, fin _ _ _ _ h5 ?_⟩
          refine Fit.mono (k := 3) (b := 908) ?_ (by decide) (by decide)
          refine Fit.tup (b := 453) (fun d hd => ?_) (by show 2 * 454 ≤ 908; decide)
          rcases List.mem_cons.mp hd with rfl | hd
          · exact nm_fit tn (by decide)
          · rw [List.mem_singleton.mp hd]
            exact Fit.tup ha (by omega)
    · obtain ⟨h3, fs, x4, x5, x6, rfl, lf, hf⟩ := hI
      simp only [wq_bind, wq_pure, wq_of, wq_mC, wq_opd, wq_mSlot, wq_resV, wq_resS, wq_mSet, wq_gN, wq_mNx, wq_mIf, wq_seq, wq_asg, wq_ret, wq_drop, wq_op, wq_k1, wq_mB, wq_tru, wq_not, wq_and, wq_or, wq_andV, wq_nil, wq_cons, wq_keep, wq_tup, wq_lst, wq_resL0, wq_resL1, wq_bui, wq_pNo, wq_pIs, wq_sl, wq_call, wq_sq, wq_st, wq_rg, wq_par, wq_var, wq_lc, wq_tg, wq_ag, List.map_cons, List.map_nil, List.cons_append, List.nil_append, List.length_cons, List.length_nil, List.replicate, Nat.reduceAdd, Nat.reduceSub, Nat.sub_zero, List.getElem?_cons_zero, List.getElem?_cons_succ, List.set_cons_zero, List.set_cons_succ, Option.some.injEq, exists_eq_left', exists_eq_left, DV.d, lendR, DL.asB, DL.intD, DL.op1, DL.op2', DL.seqD, w_m1, eqD_int, eqD_str, ltI_eq, subD_eq, addD_int, pow12, lenD_lst, lenD_tup, lenD_str, DL.strO, decide_eq_true_eq, decide_eq_false_iff_not]
      rw [List.length_map] at lf
      exact ⟨_, tupF_lst, _, rfl, _, rfl, Fit.tup hf (by omega), fun z => (none1 z).elim, fun z => absurd z (no1 c c2), h3⟩
end K22
set_option Elab.async false
set_option linter.all false
set_option maxRecDepth 100000
set_option maxHeartbeats 1000000
namespace K22
open PySem PySem.Spec PyProof.Rows L2 DL
def srtT : List (Str × Str) := [("take", "e"), ("grant", "enem"), ("free", "ene"), ("bar", "enn"), ("ask", "e"), ("end", "mneeo"), ("taken", "e"), ("granted", "enemer"), ("freed", "ene"), ("barred", "en"), ("no", "cl"), ("told", "eccchEb"), ("work", "emneer"), ("ended", "mne"), ("refused", "mne")]
def words : List Str := srtT.map (·.1)
theorem sorts_ok {S : Src} {w : Str} (h : w ∈ words) : ∃ t, F__law_sorts [.str w] S = some (.ret (.sh (.str t)) S) ∧ (w, t) ∈ srtT := by
  have m : ∀ (n : Nat) (w t : Str), srtT[n]? = some (w, t) → (w, t) ∈ srtT := fun n w t e => List.mem_of_getElem? e
  unfold words srtT at h
  simp only [List.map_cons, List.map_nil, List.mem_cons, List.not_mem_nil, or_false] at h
  rcases h with rfl | rfl | rfl | rfl | rfl | rfl | rfl | rfl | rfl | rfl | rfl | rfl | rfl | rfl | rfl
  · exact ⟨_, rfl, m 0 _ _ rfl⟩
  · exact ⟨_, rfl, m 1 _ _ rfl⟩
  · exact ⟨_, rfl, m 2 _ _ rfl⟩
  · exact ⟨_, rfl, m 3 _ _ rfl⟩
  · exact ⟨_, rfl, m 4 _ _ rfl⟩
  · exact ⟨_, rfl, m 5 _ _ rfl⟩
  · exact ⟨_, rfl, m 6 _ _ rfl⟩
  · exact ⟨_, rfl, m 7 _ _ rfl⟩
  · exact ⟨_, rfl, m 8 _ _ rfl⟩
  · exact ⟨_, rfl, m 9 _ _ rfl⟩
  · exact ⟨_, rfl, m 10 _ _ rfl⟩
  · exact ⟨_, rfl, m 11 _ _ rfl⟩
  · exact ⟨_, rfl, m 12 _ _ rfl⟩
  · exact ⟨_, rfl, m 13 _ _ rfl⟩
  · exact ⟨_, rfl, m 14 _ _ rfl⟩
theorem srt_small : ∀ p ∈ srtT, p.2.cps.toList.length ≤ 7 ∧ p.1.length ≤ 8 ∧ PyData.strOk p.1 = true := by decide +kernel
theorem wq_lcX {k : Nat} {ρ : DL.Env} {S : Src} {E : Po DL.D} {e : M DV} {ds : List DL.D} {Q : Po DV} (P : Nat → DL.D → Prop) (h0 : SrcOk S) (hl : ds.length ≤ sizeLine)
    (hs : ∀ i d S, ds[i]? = some d → SrcOk S → wp e ((ρ.set k none).set k (some (.sh d))) S (fun r ρ3 S3 => ρ3 = (ρ.set k none).set k (some (.sh d)) ∧ SrcOk S3 ∧ P i r.d) E0')
    (hq : ∀ acc S, acc.length = ds.length → SrcOk S → (∀ i d, acc[i]? = some d → P i d) → Q (.ow (.lst acc)) ρ S) : wp (inBlk [k] (fun acc => DV.ow (.lst acc)) (lcGo [k] (gN k) mYes e ds [])) ρ S Q E := by
  refine wq_lc1 (I := fun i acc S => SrcOk S ∧ acc.length = i ∧ ∀ j d, acc[j]? = some d → P j d) ⟨h0, rfl, fun _ _ z => by simp at z⟩ hl (fun i d acc S hd hI => ?_) fun acc S hl hI => hq acc S hl hI.1 hI.2.2
  refine wp_mono (hs i d S hd hI.1) (fun r ρ3 S3 h3 => ⟨h3.1, h3.2.1, by rw [List.length_append, hI.2.1]; rfl, fun j x hx => ?_⟩) fun _ _ _ z => z
  rw [List.getElem?_append] at hx
  split at hx
  · exact hI.2.2 j x hx
  · rename_i hj
    have hj2 : j - acc.length = 0 := by
      cases q : j - acc.length with
      | zero => rfl
      | succ n => rw [q] at hx; simp at hx
    have : j = i := by have := hI.2.1; omega
    subst this
    rw [hj2] at hx
    simp at hx
    rw [← hx]; exact h3.2.2
theorem letter_gen {F0 : Fn} {S : Src} (h : SrcOk S) {L : List Str} (hL : L ≠ []) (hn : L.length ≤ 20) (hw : ∀ w ∈ L, w ∈ words) (P : Nat → DL.D → Prop)
    (hP : ∀ w t c, w ∈ L → (w, t) ∈ srtT → c ∈ t.cps.toList → ∀ S, SrcOk S → ∃ r S', F0 [.src, sgn c] S = some (.ret r S') ∧ ∃ d, r = .sh d ∧ P c d ∧ pur d = true ∧ SrcOk S') :
    ∃ r S', mkF 4 (m__law_draw_letter F0) [.src, .lst (L.map DL.D.str)] S = some (.ret r S') ∧ ∃ (w t : Str) (ps : List DL.D), r = .sh (.tup (.str w :: ps)) ∧ w ∈ L ∧ (w, t) ∈ srtT ∧ ps.length = t.cps.toList.length ∧ (∀ (i c : Nat) (d : DL.D), t.cps.toList[i]? = some c → ps[i]? = some d → P c d) ∧ SrcOk S' := by
  refine mkF_of ?_
  unfold m__law_draw_letter
  simp only [wq_bind, wq_pure, wq_of, wq_mC, wq_opd, wq_mSlot, wq_resV, wq_resS, wq_mSet, wq_gN, wq_mNx, wq_mIf, wq_seq, wq_asg, wq_ret, wq_drop, wq_op, wq_k1, wq_mB, wq_tru, wq_not, wq_and, wq_or, wq_andV, wq_nil, wq_cons, wq_keep, wq_tup, wq_lst, wq_resL0, wq_resL1, wq_bui, wq_pNo, wq_pIs, wq_sl, wq_call, wq_sq, wq_st, wq_rg, wq_par, wq_var, wq_lc, wq_tg, wq_ag, List.map_cons, List.map_nil, List.cons_append, List.nil_append, List.length_cons, List.length_nil, List.replicate, Nat.reduceAdd, Nat.reduceSub, Nat.sub_zero, List.getElem?_cons_zero, List.getElem?_cons_succ, List.set_cons_zero, List.set_cons_succ, Option.some.injEq, exists_eq_left', exists_eq_left, DV.d, lendR, DL.asB, DL.intD, DL.op1, DL.op2', DL.seqD, w_m1, eqD_int, eqD_str, ltI_eq, subD_eq, addD_int, pow12, lenD_lst, lenD_tup, lenD_str, DL.strO, decide_eq_true_eq, decide_eq_false_iff_not]
  have l0 : 0 < L.length := List.length_pos_iff.mpr hL
  rw [List.length_map]
  refine w_pick (n := (L.length : Nat)) rfl h (by omega) (by omega) fun r S1 h1 r0 r1 => ?_
  simp only [wq_bind, wq_pure, wq_of, wq_mC, wq_opd, wq_mSlot, wq_resV, wq_resS, wq_mSet, wq_gN, wq_mNx, wq_mIf, wq_seq, wq_asg, wq_ret, wq_drop, wq_op, wq_k1, wq_mB, wq_tru, wq_not, wq_and, wq_or, wq_andV, wq_nil, wq_cons, wq_keep, wq_tup, wq_lst, wq_resL0, wq_resL1, wq_bui, wq_pNo, wq_pIs, wq_sl, wq_call, wq_sq, wq_st, wq_rg, wq_par, wq_var, wq_lc, wq_tg, wq_ag, List.map_cons, List.map_nil, List.cons_append, List.nil_append, List.length_cons, List.length_nil, List.replicate, Nat.reduceAdd, Nat.reduceSub, Nat.sub_zero, List.getElem?_cons_zero, List.getElem?_cons_succ, List.set_cons_zero, List.set_cons_succ, Option.some.injEq, exists_eq_left', exists_eq_left, DV.d, lendR, DL.asB, DL.intD, DL.op1, DL.op2', DL.seqD, w_m1, eqD_int, eqD_str, ltI_eq, subD_eq, addD_int, pow12, lenD_lst, lenD_tup, lenD_str, DL.strO, decide_eq_true_eq, decide_eq_false_iff_not]
  obtain ⟨x, hx, e⟩ := ix_lst (ds := L.map DL.D.str) (i := r) r0 (by rw [List.length_map]; exact r1)
  obtain ⟨w, hwL, rfl⟩ := List.mem_map.mp hx
  refine ⟨_, e, ?_⟩
  simp only [wq_bind, wq_pure, wq_of, wq_mC, wq_opd, wq_mSlot, wq_resV, wq_resS, wq_mSet, wq_gN, wq_mNx, wq_mIf, wq_seq, wq_asg, wq_ret, wq_drop, wq_op, wq_k1, wq_mB, wq_tru, wq_not, wq_and, wq_or, wq_andV, wq_nil, wq_cons, wq_keep, wq_tup, wq_lst, wq_resL0, wq_resL1, wq_bui, wq_pNo, wq_pIs, wq_sl, wq_call, wq_sq, wq_st, wq_rg, wq_par, wq_var, wq_lc, wq_tg, wq_ag, List.map_cons, List.map_nil, List.cons_append, List.nil_append, List.length_cons, List.length_nil, List.replicate, Nat.reduceAdd, Nat.reduceSub, Nat.sub_zero, List.getElem?_cons_zero, List.getElem?_cons_succ, List.set_cons_zero, List.set_cons_succ, Option.some.injEq, exists_eq_left', exists_eq_left, DV.d, lendR, DL.asB, DL.intD, DL.op1, DL.op2', DL.seqD, w_m1, eqD_int, eqD_str, ltI_eq, subD_eq, addD_int, pow12, lenD_lst, lenD_tup, lenD_str, DL.strO, decide_eq_true_eq, decide_eq_false_iff_not]
  obtain ⟨t, e2, ht⟩ := sorts_ok (S := S1) (hw w hwL)
  refine ⟨by decide, ?_⟩
  refine wq_callF rfl e2 ?_
  rw [show purV (.sh (.str t)) = true from rfl, if_pos rfl]
  refine ⟨signsD t, rfl, ?_⟩
  have sm := srt_small _ ht
  have smt : t.cps.toList.length ≤ 7 := sm.1
  have ls : (signsD t).length = t.cps.toList.length := by unfold signsD; rw [List.length_map]
  refine wq_lcX (P := fun i d => ∀ c, t.cps.toList[i]? = some c → P c d) h1 (by rw [ls]; exact Nat.le_trans sm.1 (by decide)) (fun i d S2 hd h2 => ?_) (fun acc S2 hl h2 hp => ?_)
  · unfold signsD at hd
    rw [List.getElem?_map] at hd
    obtain ⟨c, hc, rfl⟩ := Option.map_eq_some_iff.mp hd
    obtain ⟨r, S3, e3, d, rfl, pd, pu, h3⟩ := hP w t c hwL ht (List.mem_of_getElem? hc) S2 h2
    simp only [wq_bind, wq_pure, wq_of, wq_mC, wq_opd, wq_mSlot, wq_resV, wq_resS, wq_mSet, wq_gN, wq_mNx, wq_mIf, wq_seq, wq_asg, wq_ret, wq_drop, wq_op, wq_k1, wq_mB, wq_tru, wq_not, wq_and, wq_or, wq_andV, wq_nil, wq_cons, wq_keep, wq_tup, wq_lst, wq_resL0, wq_resL1, wq_bui, wq_pNo, wq_pIs, wq_sl, wq_call, wq_sq, wq_st, wq_rg, wq_par, wq_var, wq_lc, wq_tg, wq_ag, List.map_cons, List.map_nil, List.cons_append, List.nil_append, List.length_cons, List.length_nil, List.replicate, Nat.reduceAdd, Nat.reduceSub, Nat.sub_zero, List.getElem?_cons_zero, List.getElem?_cons_succ, List.set_cons_zero, List.set_cons_succ, Option.some.injEq, exists_eq_left', exists_eq_left, DV.d, lendR, DL.asB, DL.intD, DL.op1, DL.op2', DL.seqD, w_m1, eqD_int, eqD_str, ltI_eq, subD_eq, addD_int, pow12, lenD_lst, lenD_tup, lenD_str, DL.strO, decide_eq_true_eq, decide_eq_false_iff_not]
    refine wq_callF rfl e3 ?_
    rw [show purV (.sh d) = true from pu, if_pos rfl]
    refine ⟨rfl, h3, fun c2 hc2 => ?_⟩
    rw [hc] at hc2
    cases hc2
    exact pd
  · simp only [wq_bind, wq_pure, wq_of, wq_mC, wq_opd, wq_mSlot, wq_resV, wq_resS, wq_mSet, wq_gN, wq_mNx, wq_mIf, wq_seq, wq_asg, wq_ret, wq_drop, wq_op, wq_k1, wq_mB, wq_tru, wq_not, wq_and, wq_or, wq_andV, wq_nil, wq_cons, wq_keep, wq_tup, wq_lst, wq_resL0, wq_resL1, wq_bui, wq_pNo, wq_pIs, wq_sl, wq_call, wq_sq, wq_st, wq_rg, wq_par, wq_var, wq_lc, wq_tg, wq_ag, List.map_cons, List.map_nil, List.cons_append, List.nil_append, List.length_cons, List.length_nil, List.replicate, Nat.reduceAdd, Nat.reduceSub, Nat.sub_zero, List.getElem?_cons_zero, List.getElem?_cons_succ, List.set_cons_zero, List.set_cons_succ, Option.some.injEq, exists_eq_left', exists_eq_left, DV.d, lendR, DL.asB, DL.intD, DL.op1, DL.op2', DL.seqD, w_m1, eqD_int, eqD_str, ltI_eq, subD_eq, addD_int, pow12, lenD_lst, lenD_tup, lenD_str, DL.strO, decide_eq_true_eq, decide_eq_false_iff_not]
    refine ⟨_, tupF_lst, ?_⟩
    rw [ls] at hl
    refine ⟨_, addD_tup (by show 1 + acc.length ≤ sizeLine; rw [hl]; have : sizeLine = 16777216 := sizeLine_eq; omega), _, rfl, w, t, acc, rfl, hwL, ht, hl, fun i c d hc hd => hp i d hd c hc, h2⟩
/-- a letter -/
structure Let (d : DL.D) : Prop where
  ex : ∃ (w t : Str) (ps : List DL.D), d = .tup (.str w :: ps) ∧ (w, t) ∈ srtT ∧ ps.length = t.cps.toList.length ∧ (∀ p ∈ ps, Fit 5 2730 p) ∧ (w = Str.ofString "no" → ∃ a b, ps = [a, b] ∧ AskL b) ∧ (w ∈ asks5 → ∀ p ∈ ps, Fit 0 8 p)
theorem words_of {w t : Str} (h : (w, t) ∈ srtT) : w ∈ words := List.mem_map.mpr ⟨_, h, rfl⟩
theorem Let.fit {d : DL.D} (h : Let d) : Fit 6 21848 d := by
  obtain ⟨w, t, ps, rfl, ht, hl, hp, _⟩ := h.ex
  have sm := srt_small _ ht
  have s1 : t.cps.toList.length ≤ 7 := sm.1
  refine Fit.tup (b := 2730) (fun d hd => ?_) (by rw [List.length_cons, hl]; omega)
  rcases List.mem_cons.mp hd with rfl | hd
  · exact Fit.str (Nat.le_trans sm.2.1 (by decide)) sm.2.2
  · exact hp d hd
theorem asks5_sub : ∀ w ∈ asks5, w ∈ words := by decide +kernel
theorem asks5_sorts : ∀ p ∈ srtT, p.1 ∈ asks5 → ∀ c ∈ p.2.cps.toList, (inS ⟨#[c]⟩ (Str.ofString "ec") = true ∨ inS ⟨#[c]⟩ (Str.ofString "nm") = true) ∧ (⟨#[c]⟩ : Str) ≠ Str.ofString "l" := by decide +kernel
theorem asks5_small : ∀ p ∈ srtT, p.1 ∈ asks5 → p.2.cps.toList.length ≤ 4 ∧ p.1.length ≤ 8 := by decide +kernel
theorem ask_of {w t : Str} {ps : List DL.D} (ht : (w, t) ∈ srtT) (hw : w ∈ asks5) (hl : ps.length = t.cps.toList.length) (hp : ∀ p ∈ ps, Fit 0 8 p) : AskL (.tup (.str w :: ps)) := by
  refine ⟨w, ps, rfl, hw, ?_⟩
  have s := asks5_small _ ht hw
  have s1 : t.cps.toList.length ≤ 4 := s.1
  refine Fit.tup (b := 8) (fun d hd => ?_) (by rw [List.length_cons, hl]; omega)
  rcases List.mem_cons.mp hd with rfl | hd
  · exact Fit.str s.2 (srt_small _ ht).2.2
  · exact hp d hd
theorem letter1_ok {S : Src} (h : SrcOk S) : ∃ r S', F__law_draw_letter_1 [.src, .lst (asks5.map DL.D.str)] S = some (.ret r S') ∧ ∃ d, r = .sh d ∧ AskL d ∧ SrcOk S' := by
  obtain ⟨r, S', e, w, t, ps, rfl, hw, ht, hl, hp, h1⟩ := letter_gen (F0 := F__law_draw_part_1) h (L := asks5) (by decide) (by decide) asks5_sub (fun c d => Fit 0 8 d) (fun w t c hw ht hc S h => by
    have q := asks5_sorts _ ht hw c hc
    obtain ⟨r, S', e, d, rfl, f, _, f8, h1⟩ := part_ok (F0 := F__law_draw_letter_0) h (s := ⟨#[c]⟩) (fun z => absurd z q.2)
    exact ⟨_, _, e, d, rfl, f8 q.1, f.pur, h1⟩)
  refine ⟨_, _, e, _, rfl, ask_of ht hw hl (fun p hm => ?_), h1⟩
  obtain ⟨i, hi⟩ := List.mem_iff_getElem?.mp hm
  have li : i < ps.length := (List.getElem?_eq_some_iff.mp hi).1
  exact hp i _ p (List.getElem?_eq_getElem (by omega)) hi
/-- a part of a letter, by its sort -/
def PartP (c : Nat) (d : DL.D) : Prop := Fit 5 2730 d ∧ ((⟨#[c]⟩ : Str) = Str.ofString "l" → AskL d) ∧ (inS ⟨#[c]⟩ (Str.ofString "ec") = true ∨ inS ⟨#[c]⟩ (Str.ofString "nm") = true → Fit 0 8 d)
theorem part2_ok {S : Src} (h : SrcOk S) (c : Nat) : ∃ r S', F__law_draw_part [.src, sgn c] S = some (.ret r S') ∧ ∃ d, r = .sh d ∧ PartP c d ∧ SrcOk S' := by
  obtain ⟨r, S', e, d, rfl, f, fl, f8, h1⟩ := part_ok (F0 := F__law_draw_letter_1) h (s := ⟨#[c]⟩) (fun _ S h => letter1_ok h)
  exact ⟨_, _, e, d, rfl, ⟨f, fl, f8⟩, h1⟩
theorem no_sorts : ∀ p ∈ srtT, p.1 = Str.ofString "no" → p.2 = Str.ofString "cl" := by decide +kernel
theorem let_of {w t : Str} {ps : List DL.D} (ht : (w, t) ∈ srtT) (hl : ps.length = t.cps.toList.length) (hp : ∀ (i c : Nat) (d : DL.D), t.cps.toList[i]? = some c → ps[i]? = some d → PartP c d) : Let (.tup (.str w :: ps)) := by
  have hp2 : ∀ p ∈ ps, ∃ c ∈ t.cps.toList, PartP c p := fun p hm => by
    obtain ⟨i, hi⟩ := List.mem_iff_getElem?.mp hm
    have li : i < ps.length := (List.getElem?_eq_some_iff.mp hi).1
    have e := List.getElem?_eq_getElem (l := t.cps.toList) (i := i) (by omega)
    exact ⟨_, List.mem_of_getElem? e, hp i _ p e hi⟩
  refine ⟨w, t, ps, rfl, ht, hl, fun p hm => ?_, fun z => ?_, fun hw p hm => ?_⟩
  · obtain ⟨c, _, q⟩ := hp2 p hm
    exact q.1
  · have e : t = Str.ofString "cl" := no_sorts _ ht z
    subst e
    have l2 : ps.length = 2 := hl
    match ps, l2, hp with
    | [a, b], _, hp => exact ⟨a, b, rfl, (hp 1 108 b (by decide +kernel) rfl).2.1 (by decide +kernel)⟩
  · obtain ⟨c, hc, q⟩ := hp2 p hm
    exact q.2.2 (asks5_sorts _ ht hw c hc).1
theorem letter_ok {S : Src} (h : SrcOk S) {L : List Str} (hL : L ≠ []) (hn : L.length ≤ 20) (hw : ∀ w ∈ L, w ∈ words) : ∃ r S', F__law_draw_letter [.src, .lst (L.map DL.D.str)] S = some (.ret r S') ∧ ∃ (w : Str) (ps : List DL.D), r = .sh (.tup (.str w :: ps)) ∧ w ∈ L ∧ Let (.tup (.str w :: ps)) ∧ SrcOk S' := by
  obtain ⟨r, S', e, w, t, ps, rfl, hw, ht, hl, hp, h1⟩ := letter_gen (F0 := F__law_draw_part_2) h hL hn hw PartP (fun w t c _ _ _ S h => by
    obtain ⟨r, S', e, d, rfl, p, h1⟩ := part2_ok h c
    exact ⟨_, _, e, d, rfl, p, p.1.pur, h1⟩)
  exact ⟨_, _, e, w, ps, rfl, hw, let_of ht hl hp, h1⟩
end K22
set_option Elab.async false
set_option linter.all false
set_option maxRecDepth 100000
set_option maxHeartbeats 1000000
namespace K22
open PySem PySem.Spec PyProof.Rows L2 DL
theorem all_ok {S : Src} : F__law_all_words [] S = some (.ret (.ow (.lst (words.map DL.D.str))) S) := rfl
theorem Let.ask {w : Str} {ps : List DL.D} (h : Let (.tup (.str w :: ps))) (hw : w ∈ asks5) : AskL (.tup (.str w :: ps)) := by
  obtain ⟨w', t, ps', e, ht, hl, _, _, ha⟩ := h.ex
  cases e
  exact ask_of ht hw hl (ha hw)
theorem let_mk {w t : Str} {ps : List DL.D} (ht : (w, t) ∈ srtT) (hl : ps.length = t.cps.toList.length) (hp : ∀ p ∈ ps, Fit 5 2730 p) (h1 : w ≠ Str.ofString "no") (h2 : w ∉ asks5) : Let (.tup (.str w :: ps)) :=
  ⟨w, t, ps, rfl, ht, hl, hp, fun z => absurd z h1, fun z => absurd z h2⟩
theorem srt_fun : ∀ p ∈ srtT, ∀ q ∈ srtT, p.1 = q.1 → p.2 = q.2 := by decide +kernel
theorem cut_take {α : Type} {xs : List α} {n : Int} (h : 0 ≤ n) : cutL xs none (some n) = xs.take n.toNat := by
  unfold cutL HT.sIx
  simp only
  rw [if_neg (by omega), List.drop_zero, Nat.sub_zero]
  by_cases c : n.toNat ≤ xs.length
  · rw [Nat.min_eq_left c]
  · rw [Nat.min_eq_right (by omega), List.take_length, List.take_of_length_le (by omega)]
theorem cut_drop {α : Type} {xs : List α} {n : Int} (h : 0 ≤ n) : cutL xs (some n) none = xs.drop n.toNat := by
  unfold cutL HT.sIx
  simp only
  rw [if_neg (by omega)]
  by_cases c : n.toNat ≤ xs.length
  · rw [Nat.min_eq_left c, List.take_of_length_le (by rw [List.length_drop]; omega)]
  · rw [Nat.min_eq_right (by omega), List.drop_length, List.take_nil, List.drop_eq_nil_of_le (by omega)]
theorem ix0 {x : DL.D} {r : List DL.D} : ixD (.tup (x :: r)) (.int 0) = some (.sh x) := by
  unfold ixD atI ixN
  simp
theorem let_set {w t : Str} {ps : List DL.D} {k c : Nat} {p : DL.D} (h : Let (.tup (.str w :: ps))) (ht : (w, t) ∈ srtT) (hc : t.cps.toList[k]? = some c) (hp : PartP c p) : Let (.tup (.str w :: ps.set k p)) := by
  obtain ⟨w', t', ps', e, ht', hl, hf, hn, ha⟩ := h.ex
  cases e
  have et : t' = t := srt_fun _ ht' _ ht rfl
  subst et
  have hm : ∀ x ∈ ps.set k p, x ∈ ps ∨ x = p := fun x hx => List.mem_or_eq_of_mem_set hx
  refine ⟨w, t', ps.set k p, rfl, ht, by rw [List.length_set]; exact hl, fun x hx => ?_, fun z => ?_, fun hw x hx => ?_⟩
  · rcases hm x hx with hx | rfl
    · exact hf x hx
    · exact hp.1
  · obtain ⟨a, b, rfl, hb⟩ := hn z
    have e : t' = Str.ofString "cl" := no_sorts _ ht z
    subst e
    have lk : k < 2 := (List.getElem?_eq_some_iff.mp hc).1
    match k, lk, hc with
    | 0, _, _ => exact ⟨p, b, rfl, hb⟩
    | 1, _, hc =>
      refine ⟨a, p, rfl, hp.2.1 ?_⟩
      have : c = 108 := by
        have q : (Str.ofString "cl").cps.toList[1]? = some 108 := by decide +kernel
        rw [q] at hc; cases hc; rfl
      rw [this]; decide +kernel
  · rcases hm x hx with hx | rfl
    · exact ha hw x hx
    · exact hp.2.2 (asks5_sorts _ ht hw c (List.mem_of_getElem? hc)).1
theorem w_part {ρ : DL.Env} {S : Src} {E : Po DL.D} {os : List Opd} {Q : Po DV} {ρL : DL.Env} {c : Nat} (hl : lendR os ρ = some ([.src, sgn c], ρL)) (h : SrcOk S) (q : ∀ d S', SrcOk S' → PartP c d → Q (.sh d) ρ S') : wp (callF F__law_draw_part os) ρ S Q E := by
  obtain ⟨r, S', e, d, rfl, f, h1⟩ := part2_ok h c
  refine wq_callF hl e ?_
  rw [f.1.purV]
  exact q d S' h1 f
theorem w_letter {ρ : DL.Env} {S : Src} {E : Po DL.D} {os : List Opd} {Q : Po DV} {ρL : DL.Env} {L : List Str} (hl : lendR os ρ = some ([.src, .lst (L.map DL.D.str)], ρL)) (h : SrcOk S) (hL : L ≠ []) (hn : L.length ≤ 20) (hw : ∀ w ∈ L, w ∈ words)
    (q : ∀ w ps S', SrcOk S' → w ∈ L → Let (.tup (.str w :: ps)) → Q (.sh (.tup (.str w :: ps))) ρ S') : wp (callF F__law_draw_letter os) ρ S Q E := by
  obtain ⟨r, S', e, w, ps, rfl, hw, hd, h1⟩ := letter_ok h hL hn hw
  refine wq_callF hl e ?_
  rw [hd.fit.purV]
  exact q w ps S' h1 hw hd
theorem near_ok {S : Src} (h : SrcOk S) {d : DL.D} (hd : Let d) : ∃ r S', F__law_near_answer [.src, d] S = some (.ret r S') ∧ ∃ e, r = .sh e ∧ Let e ∧ SrcOk S' := by
  obtain ⟨w, t, ps, rfl, ht, hl, _⟩ := hd.ex
  refine mkF_of ?_
  unfold m__law_near_answer
  simp only [wq_bind, wq_pure, wq_of, wq_mC, wq_opd, wq_mSlot, wq_resV, wq_resS, wq_mSet, wq_gN, wq_mNx, wq_mIf, wq_seq, wq_asg, wq_ret, wq_drop, wq_op, wq_k1, wq_mB, wq_tru, wq_not, wq_and, wq_or, wq_andV, wq_nil, wq_cons, wq_keep, wq_tup, wq_lst, wq_resL0, wq_resL1, wq_bui, wq_pNo, wq_pIs, wq_sl, wq_call, wq_sq, wq_st, wq_rg, wq_par, wq_var, wq_lc, wq_tg, wq_ag, List.map_cons, List.map_nil, List.cons_append, List.nil_append, List.length_cons, List.length_nil, List.replicate, Nat.reduceAdd, Nat.reduceSub, Nat.sub_zero, List.getElem?_cons_zero, List.getElem?_cons_succ, List.set_cons_zero, List.set_cons_succ, Option.some.injEq, exists_eq_left', exists_eq_left, DV.d, lendR, DL.asB, DL.intD, DL.op1, DL.op2', DL.seqD, w_m1, eqD_int, eqD_str, ltI_eq, subD_eq, addD_int, pow12, lenD_lst, lenD_tup, lenD_str, DL.strO, decide_eq_true_eq, decide_eq_false_iff_not]
  simp only [ix0, Option.some.injEq, exists_eq_left']
  obtain ⟨t', e, ht'⟩ := sorts_ok (S := S) (words_of ht)
  have et : t' = t := srt_fun _ ht' _ ht rfl
  subst et
  refine wq_callF rfl e ?_
  rw [show purV (.sh (.str t')) = true from rfl, if_pos rfl]
  simp only [wq_bind, wq_pure, wq_of, wq_mC, wq_opd, wq_mSlot, wq_resV, wq_resS, wq_mSet, wq_gN, wq_mNx, wq_mIf, wq_seq, wq_asg, wq_ret, wq_drop, wq_op, wq_k1, wq_mB, wq_tru, wq_not, wq_and, wq_or, wq_andV, wq_nil, wq_cons, wq_keep, wq_tup, wq_lst, wq_resL0, wq_resL1, wq_bui, wq_pNo, wq_pIs, wq_sl, wq_call, wq_sq, wq_st, wq_rg, wq_par, wq_var, wq_lc, wq_tg, wq_ag, List.map_cons, List.map_nil, List.cons_append, List.nil_append, List.length_cons, List.length_nil, List.replicate, Nat.reduceAdd, Nat.reduceSub, Nat.sub_zero, List.getElem?_cons_zero, List.getElem?_cons_succ, List.set_cons_zero, List.set_cons_succ, Option.some.injEq, exists_eq_left', exists_eq_left, DV.d, lendR, DL.asB, DL.intD, DL.op1, DL.op2', DL.seqD, w_m1, eqD_int, eqD_str, ltI_eq, subD_eq, addD_int, pow12, lenD_lst, lenD_tup, lenD_str, DL.strO, decide_eq_true_eq, decide_eq_false_iff_not]
  have s7 : t'.cps.toList.length ≤ 7 := (srt_small _ ht).1
  have s1 : 1 ≤ t'.cps.toList.length := by
    have : ∀ p ∈ srtT, 1 ≤ p.2.cps.toList.length := by decide +kernel
    exact this _ ht
  have el : t'.length = t'.cps.toList.length := by show t'.cps.size = _; simp
  refine w_pick (n := (t'.length : Nat)) rfl h (by rw [el]; omega) (by rw [el]; omega) fun k S1 h1 k0 k1 => ?_
  simp only [wq_bind, wq_pure, wq_of, wq_mC, wq_opd, wq_mSlot, wq_resV, wq_resS, wq_mSet, wq_gN, wq_mNx, wq_mIf, wq_seq, wq_asg, wq_ret, wq_drop, wq_op, wq_k1, wq_mB, wq_tru, wq_not, wq_and, wq_or, wq_andV, wq_nil, wq_cons, wq_keep, wq_tup, wq_lst, wq_resL0, wq_resL1, wq_bui, wq_pNo, wq_pIs, wq_sl, wq_call, wq_sq, wq_st, wq_rg, wq_par, wq_var, wq_lc, wq_tg, wq_ag, List.map_cons, List.map_nil, List.cons_append, List.nil_append, List.length_cons, List.length_nil, List.replicate, Nat.reduceAdd, Nat.reduceSub, Nat.sub_zero, List.getElem?_cons_zero, List.getElem?_cons_succ, List.set_cons_zero, List.set_cons_succ, Option.some.injEq, exists_eq_left', exists_eq_left, DV.d, lendR, DL.asB, DL.intD, DL.op1, DL.op2', DL.seqD, w_m1, eqD_int, eqD_str, ltI_eq, subD_eq, addD_int, pow12, lenD_lst, lenD_tup, lenD_str, DL.strO, decide_eq_true_eq, decide_eq_false_iff_not]
  rw [el] at k1
  obtain ⟨c, hc, e2⟩ : ∃ c, t'.cps.toList[k.toNat]? = some c ∧ ixD (.str t') (.int k) = some (.sh (sgn c)) := by
    have hk : k.toNat < t'.cps.toList.length := by omega
    refine ⟨_, List.getElem?_eq_getElem hk, ?_⟩
    show (atI t'.cps.toList k).map _ = _
    unfold atI ixN
    rw [if_pos k0, if_pos k1]
    simp only [Option.bind_some, List.getElem?_eq_getElem hk, Option.map_some]
    rfl
  refine ⟨_, slD_tup, _, e2, ?_⟩
  refine w_part rfl h1 fun p S2 h2 hp => ?_
  simp only [wq_bind, wq_pure, wq_of, wq_mC, wq_opd, wq_mSlot, wq_resV, wq_resS, wq_mSet, wq_gN, wq_mNx, wq_mIf, wq_seq, wq_asg, wq_ret, wq_drop, wq_op, wq_k1, wq_mB, wq_tru, wq_not, wq_and, wq_or, wq_andV, wq_nil, wq_cons, wq_keep, wq_tup, wq_lst, wq_resL0, wq_resL1, wq_bui, wq_pNo, wq_pIs, wq_sl, wq_call, wq_sq, wq_st, wq_rg, wq_par, wq_var, wq_lc, wq_tg, wq_ag, List.map_cons, List.map_nil, List.cons_append, List.nil_append, List.length_cons, List.length_nil, List.replicate, Nat.reduceAdd, Nat.reduceSub, Nat.sub_zero, List.getElem?_cons_zero, List.getElem?_cons_succ, List.set_cons_zero, List.set_cons_succ, Option.some.injEq, exists_eq_left', exists_eq_left, DV.d, lendR, DL.asB, DL.intD, DL.op1, DL.op2', DL.seqD, w_m1, eqD_int, eqD_str, ltI_eq, subD_eq, addD_int, pow12, lenD_lst, lenD_tup, lenD_str, DL.strO, decide_eq_true_eq, decide_eq_false_iff_not]
  refine ⟨by decide, ?_⟩
  rw [cut_take (by omega)]
  have e3 : (k + 1).toNat = k.toNat + 1 := by omega
  have e4 : (k + 2).toNat = k.toNat + 1 + 1 := by omega
  refine ⟨_, addD_tup (by rw [e3]; simp; have : sizeLine = 16777216 := sizeLine_eq; omega), _, slD_tup, ?_⟩
  rw [cut_drop (by omega), e3, e4]
  refine ⟨_, addD_tup (by simp; have : sizeLine = 16777216 := sizeLine_eq; omega), _, rfl, _, rfl, ?_, h2⟩
  have e5 : List.take (k.toNat + 1) (DL.D.str w :: ps) ++ [p] ++ List.drop (k.toNat + 1 + 1) (DL.D.str w :: ps) = .str w :: ps.set k.toNat p := by
    rw [List.take_succ_cons, List.drop_succ_cons, List.set_eq_take_append_cons_drop, if_pos (by omega)]
    simp
  rw [e5]
  exact let_set hd ht hc hp
end K22
set_option Elab.async false
set_option linter.all false
set_option maxRecDepth 100000
set_option maxHeartbeats 1000000
namespace K22
open PySem PySem.Spec PyProof.Rows L2 DL
theorem seqI {a b : M Fl} {ρ : DL.Env} {S : Src} {E : Po DL.D} {Q : Po Fl} (R : DL.Env → Src → Prop) (ha : wp a ρ S (fun f ρ' S' => f = .nx ∧ R ρ' S') E) (hb : ∀ ρ' S', R ρ' S' → wp b ρ' S' Q E) : wp (mSeq a b) ρ S Q E := by
  rw [wq_seq]
  refine wp_mono ha (fun f ρ' S' ⟨e, h⟩ => ?_) fun _ _ _ z => z
  subst e
  exact hb ρ' S' h
theorem wq_disp {ms : M (List (Opd × Opd))} {ρ : DL.Env} {S : Src} {E : Po DL.D} {Q : Po DV} : wp (mDisp ms) ρ S Q E = wp ms ρ S (fun ps ρ1 S1 => wp (resL (ps.map (·.1))) ρ1 S1 (fun ks ρ2 S2 => ∃ p, lendR (ps.map (·.2)) ρ2 = some p ∧ ∃ r, dispD ks p.1 = some r ∧ Q r p.2 S2) E) E := by
  unfold mDisp
  simp only [wq_bind, wq_of, wq_keep]
theorem wq_pNil {ρ : DL.Env} {S : Src} {E : Po DL.D} {Q : Po (List (Opd × Opd))} : wp pNil ρ S Q E = Q [] ρ S := rfl
theorem wq_pCons {mk mv : M Opd} {ms : M (List (Opd × Opd))} {ρ : DL.Env} {S : Src} {E : Po DL.D} {Q : Po (List (Opd × Opd))} : wp (pCons mk mv ms) ρ S Q E = wp mk ρ S (fun a ρ1 S1 => wp mv ρ1 S1 (fun b ρ2 S2 => wp ms ρ2 S2 (fun r ρ3 S3 => Q ((a, b) :: r) ρ3 S3) E) E) E := by
  unfold pCons
  simp only [wq_bind, wq_pure]
theorem neD_str {i j : Str} : neD (.str i) (.str j) = some (.sh (.bl (!decide (i = j)))) := by
  show some _ = _
  rw [eqv_str]
theorem inDV_two {n : Bool} {w a b : Str} : inDV n (.str w) (.tup [.str a, .str b]) = some (.sh (.bl (if n then !(decide (a = w) || decide (b = w)) else (decide (a = w) || decide (b = w))))) := by
  unfold inDV inD
  simp only [flat, List.all_cons, List.all_nil, Bool.and_self, and_self, if_true, List.any_cons, List.any_nil, Bool.or_false, eqv_str, Option.map_some]
theorem w_nx {ρ : DL.Env} {S : Src} {E : Po DL.D} {Q : Po Fl} (h : Q .nx ρ S) : wp mNx ρ S Q E := h
def RA (w : Str) (ps : List DL.D) (n : Nat) (ρ : DL.Env) (S : Src) : Prop := SrcOk S ∧ ∃ fs : List DL.D, ρ = [some (.sh .src), some (.sh (.tup (.str w :: ps))), some (.sh (.str w)), some (.sh (.tup ps)), some (.ow (.lst fs))] ∧ fs.length ≤ n ∧ ∀ f ∈ fs, Let f
theorem ra_app {w : Str} {ps : List DL.D} {n : Nat} {S : Src} {fs : List DL.D} {d : DL.D} (h : SrcOk S) (l : fs.length ≤ n) (hf : ∀ f ∈ fs, Let f) (hd : Let d) : RA w ps (n + 1) [some (.sh .src), some (.sh (.tup (.str w :: ps))), some (.sh (.str w)), some (.sh (.tup ps)), some (.ow (.lst (fs ++ [d])))] S :=
  ⟨h, _, rfl, by rw [List.length_append]; exact Nat.succ_le_succ l, fun f hm => (List.mem_append.mp hm).elim (hf f) fun z => by rw [List.mem_singleton.mp z]; exact hd⟩
theorem ra_up {w : Str} {ps : List DL.D} {n m : Nat} {S : Src} {ρ : DL.Env} (h : RA w ps n ρ S) (l : n ≤ m) : RA w ps m ρ S :=
  let ⟨a, fs, b, c, d⟩ := h; ⟨a, fs, b, Nat.le_trans c l, d⟩
theorem few {n : Nat} (h : n ≤ 1000) : n < sizeLine := Nat.lt_of_le_of_lt h (by decide)
def asks6 : List Str := asks5 ++ [Str.ofString "end"]
theorem cut1 {x : DL.D} {r : List DL.D} : cutL (x :: r) (some 1) none = r := by rw [cut_drop (by decide)]; rfl
theorem right_ok {S : Src} (h : SrcOk S) {w : Str} {ps : List DL.D} (hw : w ∈ asks6) (hd : Let (.tup (.str w :: ps))) : ∃ r S', F__law_right_answers [.src, .tup (.str w :: ps)] S = some (.ret r S') ∧ ∃ es, r = .ow (.lst es) ∧ es.length ≤ 10 ∧ (∀ e ∈ es, Let e) ∧ SrcOk S' := by
  obtain ⟨w', t, ps', e, ht, hl, hp, _⟩ := hd.ex
  cases e
  refine mkF_of ?_
  unfold m__law_right_answers
  refine seqI (fun ρ S => SrcOk S ∧ ρ = [some (.sh .src), some (.sh (.tup (.str w :: ps))), some (.sh (.str w)), some (.sh (.tup ps)), none]) ?_ ?_
  · simp only [wq_bind, wq_pure, wq_of, wq_mC, wq_opd, wq_mSlot, wq_resV, wq_resS, wq_mSet, wq_gN, wq_mNx, wq_mIf, wq_seq, wq_asg, wq_ret, wq_drop, wq_op, wq_k1, wq_mB, wq_tru, wq_not, wq_and, wq_or, wq_andV, wq_nil, wq_cons, wq_keep, wq_tup, wq_lst, wq_resL0, wq_resL1, wq_bui, wq_pNo, wq_pIs, wq_sl, wq_call, wq_sq, wq_st, wq_rg, wq_par, wq_var, wq_lc, wq_tg, wq_ag, List.map_cons, List.map_nil, List.cons_append, List.nil_append, List.length_cons, List.length_nil, List.replicate, Nat.reduceAdd, Nat.reduceSub, Nat.sub_zero, List.getElem?_cons_zero, List.getElem?_cons_succ, List.set_cons_zero, List.set_cons_succ, Option.some.injEq, exists_eq_left', exists_eq_left, DV.d, lendR, DL.asB, DL.intD, DL.op1, DL.op2', DL.seqD, w_m1, eqD_int, eqD_str, ltI_eq, subD_eq, addD_int, pow12, lenD_lst, lenD_tup, lenD_str, DL.strO, decide_eq_true_eq, decide_eq_false_iff_not]
    simp only [ix0, Option.some.injEq, exists_eq_left', slD_tup, cut1]
    try simp only [wq_bind, wq_pure, wq_of, wq_mC, wq_opd, wq_mSlot, wq_resV, wq_resS, wq_mSet, wq_gN, wq_mNx, wq_mIf, wq_seq, wq_asg, wq_ret, wq_drop, wq_op, wq_k1, wq_mB, wq_tru, wq_not, wq_and, wq_or, wq_andV, wq_nil, wq_cons, wq_keep, wq_tup, wq_lst, wq_resL0, wq_resL1, wq_bui, wq_pNo, wq_pIs, wq_sl, wq_call, wq_sq, wq_st, wq_rg, wq_par, wq_var, wq_lc, wq_tg, wq_ag, List.map_cons, List.map_nil, List.cons_append, List.nil_append, List.length_cons, List.length_nil, List.replicate, Nat.reduceAdd, Nat.reduceSub, Nat.sub_zero, List.getElem?_cons_zero, List.getElem?_cons_succ, List.set_cons_zero, List.set_cons_succ, Option.some.injEq, exists_eq_left', exists_eq_left, DV.d, lendR, DL.asB, DL.intD, DL.op1, DL.op2', DL.seqD, w_m1, eqD_int, eqD_str, ltI_eq, subD_eq, addD_int, pow12, lenD_lst, lenD_tup, lenD_str, DL.strO, decide_eq_true_eq, decide_eq_false_iff_not]
    exact ⟨trivial, h, trivial⟩
  rintro ρ S1 ⟨h1, rfl⟩
  refine seqI (RA w ps 1) ?_ ?_
  · simp only [wq_bind, wq_pure, wq_of, wq_mC, wq_opd, wq_mSlot, wq_resV, wq_resS, wq_mSet, wq_gN, wq_mNx, wq_mIf, wq_seq, wq_asg, wq_ret, wq_drop, wq_op, wq_k1, wq_mB, wq_tru, wq_not, wq_and, wq_or, wq_andV, wq_nil, wq_cons, wq_keep, wq_tup, wq_lst, wq_resL0, wq_resL1, wq_bui, wq_pNo, wq_pIs, wq_sl, wq_call, wq_sq, wq_st, wq_rg, wq_par, wq_var, wq_lc, wq_tg, wq_ag, List.map_cons, List.map_nil, List.cons_append, List.nil_append, List.length_cons, List.length_nil, List.replicate, Nat.reduceAdd, Nat.reduceSub, Nat.sub_zero, List.getElem?_cons_zero, List.getElem?_cons_succ, List.set_cons_zero, List.set_cons_succ, Option.some.injEq, exists_eq_left', exists_eq_left, DV.d, lendR, DL.asB, DL.intD, DL.op1, DL.op2', DL.seqD, w_m1, eqD_int, eqD_str, ltI_eq, subD_eq, addD_int, pow12, lenD_lst, lenD_tup, lenD_str, DL.strO, decide_eq_true_eq, decide_eq_false_iff_not]
    simp only [neD_str, Option.some.injEq, exists_eq_left']
    try simp only [wq_bind, wq_pure, wq_of, wq_mC, wq_opd, wq_mSlot, wq_resV, wq_resS, wq_mSet, wq_gN, wq_mNx, wq_mIf, wq_seq, wq_asg, wq_ret, wq_drop, wq_op, wq_k1, wq_mB, wq_tru, wq_not, wq_and, wq_or, wq_andV, wq_nil, wq_cons, wq_keep, wq_tup, wq_lst, wq_resL0, wq_resL1, wq_bui, wq_pNo, wq_pIs, wq_sl, wq_call, wq_sq, wq_st, wq_rg, wq_par, wq_var, wq_lc, wq_tg, wq_ag, List.map_cons, List.map_nil, List.cons_append, List.nil_append, List.length_cons, List.length_nil, List.replicate, Nat.reduceAdd, Nat.reduceSub, Nat.sub_zero, List.getElem?_cons_zero, List.getElem?_cons_succ, List.set_cons_zero, List.set_cons_succ, Option.some.injEq, exists_eq_left', exists_eq_left, DV.d, lendR, DL.asB, DL.intD, DL.op1, DL.op2', DL.seqD, w_m1, eqD_int, eqD_str, ltI_eq, subD_eq, addD_int, pow12, lenD_lst, lenD_tup, lenD_str, DL.strO, decide_eq_true_eq, decide_eq_false_iff_not]
    refine ⟨fun c => ?_, fun c => ⟨by decide, trivial, h1, [], rfl, Nat.zero_le _, fun _ z => by cases z⟩⟩
    refine w_pick (n := 5) rfl h1 (by decide) (by decide) fun k S2 h2 k0 k1 => ?_
    simp only [wq_bind, wq_pure, wq_of, wq_mC, wq_opd, wq_mSlot, wq_resV, wq_resS, wq_mSet, wq_gN, wq_mNx, wq_mIf, wq_seq, wq_asg, wq_ret, wq_drop, wq_op, wq_k1, wq_mB, wq_tru, wq_not, wq_and, wq_or, wq_andV, wq_nil, wq_cons, wq_keep, wq_tup, wq_lst, wq_resL0, wq_resL1, wq_bui, wq_pNo, wq_pIs, wq_sl, wq_call, wq_sq, wq_st, wq_rg, wq_par, wq_var, wq_lc, wq_tg, wq_ag, List.map_cons, List.map_nil, List.cons_append, List.nil_append, List.length_cons, List.length_nil, List.replicate, Nat.reduceAdd, Nat.reduceSub, Nat.sub_zero, List.getElem?_cons_zero, List.getElem?_cons_succ, List.set_cons_zero, List.set_cons_succ, Option.some.injEq, exists_eq_left', exists_eq_left, DV.d, lendR, DL.asB, DL.intD, DL.op1, DL.op2', DL.seqD, w_m1, eqD_int, eqD_str, ltI_eq, subD_eq, addD_int, pow12, lenD_lst, lenD_tup, lenD_str, DL.strO, decide_eq_true_eq, decide_eq_false_iff_not]
    refine ⟨(by show 3 ≤ sizeLine; decide), (by show 1 ≤ sizeLine; decide), trivial, h2, _, rfl, Nat.le_refl _, fun f hf => ?_⟩
    rw [List.mem_singleton.mp hf]
    have w5 : w ∈ asks5 := by
      rcases List.mem_append.mp hw with hw | hw
      · exact hw
      · rw [List.mem_singleton.mp hw] at c
        simp at c
    have ak := hd.ask w5
    refine ⟨Str.ofString "no", Str.ofString "cl", _, rfl, List.mem_of_getElem? (i := 10) rfl, rfl, fun p hp => ?_, fun _ => ⟨_, _, rfl, ak⟩, fun z => absurd z (by decide +kernel)⟩
    rcases List.mem_cons.mp hp with rfl | hp
    · exact Fit.int (by omega)
    · rw [List.mem_singleton.mp hp]
      obtain ⟨_, _, _, _, f⟩ := ak
      exact f.mono (by decide) (by decide)
  rintro ρ S2 ⟨h2, fs, rfl, lf, hf⟩
  refine seqI (RA w ps 2) ?_ ?_
  · simp only [wq_bind, wq_pure, wq_of, wq_mC, wq_opd, wq_mSlot, wq_resV, wq_resS, wq_mSet, wq_gN, wq_mNx, wq_mIf, wq_seq, wq_asg, wq_ret, wq_drop, wq_op, wq_k1, wq_mB, wq_tru, wq_not, wq_and, wq_or, wq_andV, wq_nil, wq_cons, wq_keep, wq_tup, wq_lst, wq_resL0, wq_resL1, wq_bui, wq_pNo, wq_pIs, wq_sl, wq_call, wq_sq, wq_st, wq_rg, wq_par, wq_var, wq_lc, wq_tg, wq_ag, List.map_cons, List.map_nil, List.cons_append, List.nil_append, List.length_cons, List.length_nil, List.replicate, Nat.reduceAdd, Nat.reduceSub, Nat.sub_zero, List.getElem?_cons_zero, List.getElem?_cons_succ, List.set_cons_zero, List.set_cons_succ, Option.some.injEq, exists_eq_left', exists_eq_left, DV.d, lendR, DL.asB, DL.intD, DL.op1, DL.op2', DL.seqD, w_m1, eqD_int, eqD_str, ltI_eq, subD_eq, addD_int, pow12, lenD_lst, lenD_tup, lenD_str, DL.strO, decide_eq_true_eq, decide_eq_false_iff_not]
    simp only [inDV_two, Option.some.injEq, exists_eq_left', Bool.false_eq_true, if_false, Bool.or_eq_true, decide_eq_true_eq, Bool.or_eq_false_iff, decide_eq_false_iff_not]
    try simp only [wq_bind, wq_pure, wq_of, wq_mC, wq_opd, wq_mSlot, wq_resV, wq_resS, wq_mSet, wq_gN, wq_mNx, wq_mIf, wq_seq, wq_asg, wq_ret, wq_drop, wq_op, wq_k1, wq_mB, wq_tru, wq_not, wq_and, wq_or, wq_andV, wq_nil, wq_cons, wq_keep, wq_tup, wq_lst, wq_resL0, wq_resL1, wq_bui, wq_pNo, wq_pIs, wq_sl, wq_call, wq_sq, wq_st, wq_rg, wq_par, wq_var, wq_lc, wq_tg, wq_ag, List.map_cons, List.map_nil, List.cons_append, List.nil_append, List.length_cons, List.length_nil, List.replicate, Nat.reduceAdd, Nat.reduceSub, Nat.sub_zero, List.getElem?_cons_zero, List.getElem?_cons_succ, List.set_cons_zero, List.set_cons_succ, Option.some.injEq, exists_eq_left', exists_eq_left, DV.d, lendR, DL.asB, DL.intD, DL.op1, DL.op2', DL.seqD, w_m1, eqD_int, eqD_str, ltI_eq, subD_eq, addD_int, pow12, lenD_lst, lenD_tup, lenD_str, DL.strO, decide_eq_true_eq, decide_eq_false_iff_not]
    refine ⟨(by show 2 ≤ sizeLine; decide), fun c => ?_, fun c => ⟨trivial, h2, fs, rfl, by omega, hf⟩⟩
    refine wq_meth (d := .lst fs) rfl rfl ?_
    simp only [wq_bind, wq_pure, wq_of, wq_mC, wq_opd, wq_mSlot, wq_resV, wq_resS, wq_mSet, wq_gN, wq_mNx, wq_mIf, wq_seq, wq_asg, wq_ret, wq_drop, wq_op, wq_k1, wq_mB, wq_tru, wq_not, wq_and, wq_or, wq_andV, wq_nil, wq_cons, wq_keep, wq_tup, wq_lst, wq_resL0, wq_resL1, wq_bui, wq_pNo, wq_pIs, wq_sl, wq_call, wq_sq, wq_st, wq_rg, wq_par, wq_var, wq_lc, wq_tg, wq_ag, List.map_cons, List.map_nil, List.cons_append, List.nil_append, List.length_cons, List.length_nil, List.replicate, Nat.reduceAdd, Nat.reduceSub, Nat.sub_zero, List.getElem?_cons_zero, List.getElem?_cons_succ, List.set_cons_zero, List.set_cons_succ, Option.some.injEq, exists_eq_left', exists_eq_left, DV.d, lendR, DL.asB, DL.intD, DL.op1, DL.op2', DL.seqD, w_m1, eqD_int, eqD_str, ltI_eq, subD_eq, addD_int, pow12, lenD_lst, lenD_tup, lenD_str, DL.strO, decide_eq_true_eq, decide_eq_false_iff_not]
    simp only [wq_disp, wq_pCons, wq_pNil]
    simp only [wq_bind, wq_pure, wq_of, wq_mC, wq_opd, wq_mSlot, wq_resV, wq_resS, wq_mSet, wq_gN, wq_mNx, wq_mIf, wq_seq, wq_asg, wq_ret, wq_drop, wq_op, wq_k1, wq_mB, wq_tru, wq_not, wq_and, wq_or, wq_andV, wq_nil, wq_cons, wq_keep, wq_tup, wq_lst, wq_resL0, wq_resL1, wq_bui, wq_pNo, wq_pIs, wq_sl, wq_call, wq_sq, wq_st, wq_rg, wq_par, wq_var, wq_lc, wq_tg, wq_ag, List.map_cons, List.map_nil, List.cons_append, List.nil_append, List.length_cons, List.length_nil, List.replicate, Nat.reduceAdd, Nat.reduceSub, Nat.sub_zero, List.getElem?_cons_zero, List.getElem?_cons_succ, List.set_cons_zero, List.set_cons_succ, Option.some.injEq, exists_eq_left', exists_eq_left, DV.d, lendR, DL.asB, DL.intD, DL.op1, DL.op2', DL.seqD, w_m1, eqD_int, eqD_str, ltI_eq, subD_eq, addD_int, pow12, lenD_lst, lenD_tup, lenD_str, DL.strO, decide_eq_true_eq, decide_eq_false_iff_not]
    rcases c with rfl | rfl
    · refine ⟨_, rfl, _, rfl, (by show 1 ≤ sizeLine; decide), _, addD_tup (Nat.le_of_lt (few ?_)), .lst fs, rfl, _, appF_ok (few (by omega)), trivial, ra_app h2 lf hf ?_⟩
      · rw [hl]; have : t.cps.toList.length ≤ 7 := (srt_small _ ht).1; show 1 + _ ≤ 1000; omega
      · have et : t = Str.ofString "e" := srt_fun _ ht _ (List.mem_of_getElem? (i := 0) rfl) rfl
        subst et
        exact let_mk (w := Str.ofString "taken") (List.mem_of_getElem? (i := 6) rfl) hl hp (by decide +kernel) (by decide +kernel)
    · refine ⟨_, rfl, _, rfl, (by show 1 ≤ sizeLine; decide), _, addD_tup (Nat.le_of_lt (few ?_)), .lst fs, rfl, _, appF_ok (few (by omega)), trivial, ra_app h2 lf hf ?_⟩
      · rw [hl]; have : t.cps.toList.length ≤ 7 := (srt_small _ ht).1; show 1 + _ ≤ 1000; omega
      · have et : t = Str.ofString "ene" := srt_fun _ ht _ (List.mem_of_getElem? (i := 2) rfl) rfl
        subst et
        exact let_mk (w := Str.ofString "freed") (List.mem_of_getElem? (i := 8) rfl) hl hp (by decide +kernel) (by decide +kernel)
  rintro ρ S3 ⟨h3, fs, rfl, lf, hf⟩
  refine seqI (RA w ps 3) ?_ ?_
  · simp only [wq_bind, wq_pure, wq_of, wq_mC, wq_opd, wq_mSlot, wq_resV, wq_resS, wq_mSet, wq_gN, wq_mNx, wq_mIf, wq_seq, wq_asg, wq_ret, wq_drop, wq_op, wq_k1, wq_mB, wq_tru, wq_not, wq_and, wq_or, wq_andV, wq_nil, wq_cons, wq_keep, wq_tup, wq_lst, wq_resL0, wq_resL1, wq_bui, wq_pNo, wq_pIs, wq_sl, wq_call, wq_sq, wq_st, wq_rg, wq_par, wq_var, wq_lc, wq_tg, wq_ag, List.map_cons, List.map_nil, List.cons_append, List.nil_append, List.length_cons, List.length_nil, List.replicate, Nat.reduceAdd, Nat.reduceSub, Nat.sub_zero, List.getElem?_cons_zero, List.getElem?_cons_succ, List.set_cons_zero, List.set_cons_succ, Option.some.injEq, exists_eq_left', exists_eq_left, DV.d, lendR, DL.asB, DL.intD, DL.op1, DL.op2', DL.seqD, w_m1, eqD_int, eqD_str, ltI_eq, subD_eq, addD_int, pow12, lenD_lst, lenD_tup, lenD_str, DL.strO, decide_eq_true_eq, decide_eq_false_iff_not]
    refine ⟨fun c => ?_, fun c => ⟨trivial, h3, fs, rfl, by omega, hf⟩⟩
    subst c
    have et : t = Str.ofString "enem" := srt_fun _ ht _ (List.mem_of_getElem? (i := 1) rfl) rfl
    subst et
    have l4 : ps.length = 4 := hl
    refine wq_meth (d := .lst fs) rfl rfl ?_
    simp only [wq_bind, wq_pure, wq_of, wq_mC, wq_opd, wq_mSlot, wq_resV, wq_resS, wq_mSet, wq_gN, wq_mNx, wq_mIf, wq_seq, wq_asg, wq_ret, wq_drop, wq_op, wq_k1, wq_mB, wq_tru, wq_not, wq_and, wq_or, wq_andV, wq_nil, wq_cons, wq_keep, wq_tup, wq_lst, wq_resL0, wq_resL1, wq_bui, wq_pNo, wq_pIs, wq_sl, wq_call, wq_sq, wq_st, wq_rg, wq_par, wq_var, wq_lc, wq_tg, wq_ag, List.map_cons, List.map_nil, List.cons_append, List.nil_append, List.length_cons, List.length_nil, List.replicate, Nat.reduceAdd, Nat.reduceSub, Nat.sub_zero, List.getElem?_cons_zero, List.getElem?_cons_succ, List.set_cons_zero, List.set_cons_succ, Option.some.injEq, exists_eq_left', exists_eq_left, DV.d, lendR, DL.asB, DL.intD, DL.op1, DL.op2', DL.seqD, w_m1, eqD_int, eqD_str, ltI_eq, subD_eq, addD_int, pow12, lenD_lst, lenD_tup, lenD_str, DL.strO, decide_eq_true_eq, decide_eq_false_iff_not]
    refine ⟨(by show 1 ≤ sizeLine; decide), _, addD_tup (Nat.le_of_lt (few (by show 1 + ps.length ≤ 1000; omega))), ?_⟩
    refine w_pick (n := 4) rfl h3 (by decide) (by decide) fun k S4 h4 k0 k1 => ?_
    simp only [wq_bind, wq_pure, wq_of, wq_mC, wq_opd, wq_mSlot, wq_resV, wq_resS, wq_mSet, wq_gN, wq_mNx, wq_mIf, wq_seq, wq_asg, wq_ret, wq_drop, wq_op, wq_k1, wq_mB, wq_tru, wq_not, wq_and, wq_or, wq_andV, wq_nil, wq_cons, wq_keep, wq_tup, wq_lst, wq_resL0, wq_resL1, wq_bui, wq_pNo, wq_pIs, wq_sl, wq_call, wq_sq, wq_st, wq_rg, wq_par, wq_var, wq_lc, wq_tg, wq_ag, List.map_cons, List.map_nil, List.cons_append, List.nil_append, List.length_cons, List.length_nil, List.replicate, Nat.reduceAdd, Nat.reduceSub, Nat.sub_zero, List.getElem?_cons_zero, List.getElem?_cons_succ, List.set_cons_zero, List.set_cons_succ, Option.some.injEq, exists_eq_left', exists_eq_left, DV.d, lendR, DL.asB, DL.intD, DL.op1, DL.op2', DL.seqD, w_m1, eqD_int, eqD_str, ltI_eq, subD_eq, addD_int, pow12, lenD_lst, lenD_tup, lenD_str, DL.strO, decide_eq_true_eq, decide_eq_false_iff_not]
    refine w_part (c := 114) rfl h4 fun p S5 h5 hp5 => ?_
    simp only [wq_bind, wq_pure, wq_of, wq_mC, wq_opd, wq_mSlot, wq_resV, wq_resS, wq_mSet, wq_gN, wq_mNx, wq_mIf, wq_seq, wq_asg, wq_ret, wq_drop, wq_op, wq_k1, wq_mB, wq_tru, wq_not, wq_and, wq_or, wq_andV, wq_nil, wq_cons, wq_keep, wq_tup, wq_lst, wq_resL0, wq_resL1, wq_bui, wq_pNo, wq_pIs, wq_sl, wq_call, wq_sq, wq_st, wq_rg, wq_par, wq_var, wq_lc, wq_tg, wq_ag, List.map_cons, List.map_nil, List.cons_append, List.nil_append, List.length_cons, List.length_nil, List.replicate, Nat.reduceAdd, Nat.reduceSub, Nat.sub_zero, List.getElem?_cons_zero, List.getElem?_cons_succ, List.set_cons_zero, List.set_cons_succ, Option.some.injEq, exists_eq_left', exists_eq_left, DV.d, lendR, DL.asB, DL.intD, DL.op1, DL.op2', DL.seqD, w_m1, eqD_int, eqD_str, ltI_eq, subD_eq, addD_int, pow12, lenD_lst, lenD_tup, lenD_str, DL.strO, decide_eq_true_eq, decide_eq_false_iff_not]
    refine ⟨(by show 2 ≤ sizeLine; decide), _, addD_tup (Nat.le_of_lt (few (by rw [List.length_cons]; show ps.length + 1 + 2 ≤ 1000; omega))), .lst fs, rfl, _, appF_ok (few (by omega)), trivial, ra_app h5 lf hf ?_⟩
    refine let_mk (w := Str.ofString "granted") (t := Str.ofString "enemer") (ps := ps ++ [.int (1 + k), p]) (List.mem_of_getElem? (i := 7) rfl) (by rw [List.length_append, l4]; rfl) (fun x hx => ?_) (by decide +kernel) (by decide +kernel)
    rcases List.mem_append.mp hx with hx | hx
    · exact hp x hx
    · rcases List.mem_cons.mp hx with rfl | hx
      · exact Fit.int (by omega)
      · rw [List.mem_singleton.mp hx]; exact hp5.1
  rintro ρ S4 ⟨h4, fs, rfl, lf, hf⟩
  refine seqI (RA w ps 4) ?_ ?_
  · simp only [wq_bind, wq_pure, wq_of, wq_mC, wq_opd, wq_mSlot, wq_resV, wq_resS, wq_mSet, wq_gN, wq_mNx, wq_mIf, wq_seq, wq_asg, wq_ret, wq_drop, wq_op, wq_k1, wq_mB, wq_tru, wq_not, wq_and, wq_or, wq_andV, wq_nil, wq_cons, wq_keep, wq_tup, wq_lst, wq_resL0, wq_resL1, wq_bui, wq_pNo, wq_pIs, wq_sl, wq_call, wq_sq, wq_st, wq_rg, wq_par, wq_var, wq_lc, wq_tg, wq_ag, List.map_cons, List.map_nil, List.cons_append, List.nil_append, List.length_cons, List.length_nil, List.replicate, Nat.reduceAdd, Nat.reduceSub, Nat.sub_zero, List.getElem?_cons_zero, List.getElem?_cons_succ, List.set_cons_zero, List.set_cons_succ, Option.some.injEq, exists_eq_left', exists_eq_left, DV.d, lendR, DL.asB, DL.intD, DL.op1, DL.op2', DL.seqD, w_m1, eqD_int, eqD_str, ltI_eq, subD_eq, addD_int, pow12, lenD_lst, lenD_tup, lenD_str, DL.strO, decide_eq_true_eq, decide_eq_false_iff_not]
    refine ⟨fun c => ?_, fun c => ⟨trivial, h4, fs, rfl, by omega, hf⟩⟩
    subst c
    have et : t = Str.ofString "enn" := srt_fun _ ht _ (List.mem_of_getElem? (i := 3) rfl) rfl
    subst et
    have l3 : ps.length = 3 := hl
    refine wq_meth (d := .lst fs) rfl rfl ?_
    simp only [wq_bind, wq_pure, wq_of, wq_mC, wq_opd, wq_mSlot, wq_resV, wq_resS, wq_mSet, wq_gN, wq_mNx, wq_mIf, wq_seq, wq_asg, wq_ret, wq_drop, wq_op, wq_k1, wq_mB, wq_tru, wq_not, wq_and, wq_or, wq_andV, wq_nil, wq_cons, wq_keep, wq_tup, wq_lst, wq_resL0, wq_resL1, wq_bui, wq_pNo, wq_pIs, wq_sl, wq_call, wq_sq, wq_st, wq_rg, wq_par, wq_var, wq_lc, wq_tg, wq_ag, List.map_cons, List.map_nil, List.cons_append, List.nil_append, List.length_cons, List.length_nil, List.replicate, Nat.reduceAdd, Nat.reduceSub, Nat.sub_zero, List.getElem?_cons_zero, List.getElem?_cons_succ, List.set_cons_zero, List.set_cons_succ, Option.some.injEq, exists_eq_left', exists_eq_left, DV.d, lendR, DL.asB, DL.intD, DL.op1, DL.op2', DL.seqD, w_m1, eqD_int, eqD_str, ltI_eq, subD_eq, addD_int, pow12, lenD_lst, lenD_tup, lenD_str, DL.strO, decide_eq_true_eq, decide_eq_false_iff_not]
    refine ⟨(by show 1 ≤ sizeLine; decide), _, slD_tup, ?_⟩
    rw [cut_take (by decide)]
    refine ⟨_, addD_tup (Nat.le_of_lt (few (by show 1 + (ps.take 2).length ≤ 1000; rw [List.length_take]; omega))), .lst fs, rfl, _, appF_ok (few (by omega)), trivial, ra_app h4 lf hf ?_⟩
    exact let_mk (w := Str.ofString "barred") (t := Str.ofString "en") (ps := ps.take 2) (List.mem_of_getElem? (i := 9) rfl) (by rw [List.length_take, l3]; rfl) (fun x hx => hp x (List.mem_of_mem_take hx)) (by decide +kernel) (by decide +kernel)
  rintro ρ S5 ⟨h5, fs, rfl, lf, hf⟩
  refine seqI (RA w ps 5) ?_ ?_
  · simp only [wq_bind, wq_pure, wq_of, wq_mC, wq_opd, wq_mSlot, wq_resV, wq_resS, wq_mSet, wq_gN, wq_mNx, wq_mIf, wq_seq, wq_asg, wq_ret, wq_drop, wq_op, wq_k1, wq_mB, wq_tru, wq_not, wq_and, wq_or, wq_andV, wq_nil, wq_cons, wq_keep, wq_tup, wq_lst, wq_resL0, wq_resL1, wq_bui, wq_pNo, wq_pIs, wq_sl, wq_call, wq_sq, wq_st, wq_rg, wq_par, wq_var, wq_lc, wq_tg, wq_ag, List.map_cons, List.map_nil, List.cons_append, List.nil_append, List.length_cons, List.length_nil, List.replicate, Nat.reduceAdd, Nat.reduceSub, Nat.sub_zero, List.getElem?_cons_zero, List.getElem?_cons_succ, List.set_cons_zero, List.set_cons_succ, Option.some.injEq, exists_eq_left', exists_eq_left, DV.d, lendR, DL.asB, DL.intD, DL.op1, DL.op2', DL.seqD, w_m1, eqD_int, eqD_str, ltI_eq, subD_eq, addD_int, pow12, lenD_lst, lenD_tup, lenD_str, DL.strO, decide_eq_true_eq, decide_eq_false_iff_not]
    refine ⟨fun c => ?_, fun c => ⟨trivial, h5, fs, rfl, by omega, hf⟩⟩
    subst c
    have et : t = Str.ofString "e" := srt_fun _ ht _ (List.mem_of_getElem? (i := 4) rfl) rfl
    subst et
    have l1 : ps.length = 1 := hl
    refine wq_meth (d := .lst fs) rfl rfl ?_
    simp only [wq_bind, wq_pure, wq_of, wq_mC, wq_opd, wq_mSlot, wq_resV, wq_resS, wq_mSet, wq_gN, wq_mNx, wq_mIf, wq_seq, wq_asg, wq_ret, wq_drop, wq_op, wq_k1, wq_mB, wq_tru, wq_not, wq_and, wq_or, wq_andV, wq_nil, wq_cons, wq_keep, wq_tup, wq_lst, wq_resL0, wq_resL1, wq_bui, wq_pNo, wq_pIs, wq_sl, wq_call, wq_sq, wq_st, wq_rg, wq_par, wq_var, wq_lc, wq_tg, wq_ag, List.map_cons, List.map_nil, List.cons_append, List.nil_append, List.length_cons, List.length_nil, List.replicate, Nat.reduceAdd, Nat.reduceSub, Nat.sub_zero, List.getElem?_cons_zero, List.getElem?_cons_succ, List.set_cons_zero, List.set_cons_succ, Option.some.injEq, exists_eq_left', exists_eq_left, DV.d, lendR, DL.asB, DL.intD, DL.op1, DL.op2', DL.seqD, w_m1, eqD_int, eqD_str, ltI_eq, subD_eq, addD_int, pow12, lenD_lst, lenD_tup, lenD_str, DL.strO, decide_eq_true_eq, decide_eq_false_iff_not]
    refine ⟨(by show 1 ≤ sizeLine; decide), _, addD_tup (Nat.le_of_lt (few (by show 1 + ps.length ≤ 1000; omega))), (by show 1 ≤ sizeLine; decide), ?_⟩
    refine w_letter (L := [Str.ofString "told"]) rfl h5 (by decide) (by decide) (by decide +kernel) fun w2 qs S6 h6 hw2 hq => ?_
    rw [List.mem_singleton.mp hw2] at hq ⊢
    obtain ⟨w3, t3, ps3, e3, ht3, hl3, hp3, _⟩ := hq.ex
    cases e3
    have et : t3 = Str.ofString "eccchEb" := srt_fun _ ht3 _ (List.mem_of_getElem? (i := 11) rfl) rfl
    subst et
    have l7 : qs.length = 7 := hl3
    simp only [wq_bind, wq_pure, wq_of, wq_mC, wq_opd, wq_mSlot, wq_resV, wq_resS, wq_mSet, wq_gN, wq_mNx, wq_mIf, wq_seq, wq_asg, wq_ret, wq_drop, wq_op, wq_k1, wq_mB, wq_tru, wq_not, wq_and, wq_or, wq_andV, wq_nil, wq_cons, wq_keep, wq_tup, wq_lst, wq_resL0, wq_resL1, wq_bui, wq_pNo, wq_pIs, wq_sl, wq_call, wq_sq, wq_st, wq_rg, wq_par, wq_var, wq_lc, wq_tg, wq_ag, List.map_cons, List.map_nil, List.cons_append, List.nil_append, List.length_cons, List.length_nil, List.replicate, Nat.reduceAdd, Nat.reduceSub, Nat.sub_zero, List.getElem?_cons_zero, List.getElem?_cons_succ, List.set_cons_zero, List.set_cons_succ, Option.some.injEq, exists_eq_left', exists_eq_left, DV.d, lendR, DL.asB, DL.intD, DL.op1, DL.op2', DL.seqD, w_m1, eqD_int, eqD_str, ltI_eq, subD_eq, addD_int, pow12, lenD_lst, lenD_tup, lenD_str, DL.strO, decide_eq_true_eq, decide_eq_false_iff_not]
    refine ⟨_, slD_tup, ?_⟩
    rw [cut_drop (by decide)]
    have ed : List.drop (2 : Int).toNat (DL.D.str (Str.ofString "told") :: qs) = qs.drop 1 := rfl
    rw [ed]
    refine ⟨_, addD_tup (Nat.le_of_lt (few (by rw [List.length_cons, List.length_drop]; omega))), .lst fs, rfl, _, appF_ok (few (by omega)), trivial, ra_app h6 lf hf ?_⟩
    refine let_mk (w := Str.ofString "told") (t := Str.ofString "eccchEb") (ps := ps ++ qs.drop 1) (List.mem_of_getElem? (i := 11) rfl) (by rw [List.length_append, List.length_drop, l1, l7]; rfl) (fun x hx => ?_) (by decide +kernel) (by decide +kernel)
    rcases List.mem_append.mp hx with hx | hx
    · exact hp x hx
    · exact hp3 x (List.mem_of_mem_drop hx)
  rintro ρ S6 ⟨h6, fs, rfl, lf, hf⟩
  simp only [wq_bind, wq_pure, wq_of, wq_mC, wq_opd, wq_mSlot, wq_resV, wq_resS, wq_mSet, wq_gN, wq_mNx, wq_mIf, wq_seq, wq_asg, wq_ret, wq_drop, wq_op, wq_k1, wq_mB, wq_tru, wq_not, wq_and, wq_or, wq_andV, wq_nil, wq_cons, wq_keep, wq_tup, wq_lst, wq_resL0, wq_resL1, wq_bui, wq_pNo, wq_pIs, wq_sl, wq_call, wq_sq, wq_st, wq_rg, wq_par, wq_var, wq_lc, wq_tg, wq_ag, List.map_cons, List.map_nil, List.cons_append, List.nil_append, List.length_cons, List.length_nil, List.replicate, Nat.reduceAdd, Nat.reduceSub, Nat.sub_zero, List.getElem?_cons_zero, List.getElem?_cons_succ, List.set_cons_zero, List.set_cons_succ, Option.some.injEq, exists_eq_left', exists_eq_left, DV.d, lendR, DL.asB, DL.intD, DL.op1, DL.op2', DL.seqD, w_m1, eqD_int, eqD_str, ltI_eq, subD_eq, addD_int, pow12, lenD_lst, lenD_tup, lenD_str, DL.strO, decide_eq_true_eq, decide_eq_false_iff_not]
  refine ⟨fun c => ?_, fun c => ?_⟩
  · subst c
    have et : t = Str.ofString "mneeo" := srt_fun _ ht _ (List.mem_of_getElem? (i := 5) rfl) rfl
    subst et
    have l5 : ps.length = 5 := hl
    refine ⟨(by show 1 ≤ sizeLine; decide), _, slD_tup, ?_⟩
    rw [cut_take (by decide)]
    have lt3 : (ps.take (3 : Int).toNat).length = 3 := by rw [List.length_take, l5]; rfl
    refine ⟨_, addD_tup (Nat.le_of_lt (few (by rw [lt3]; decide))), (by show 1 ≤ sizeLine; decide), _, slD_tup, ?_⟩
    rw [cut_take (by decide)]
    refine ⟨_, addD_tup (Nat.le_of_lt (few (by rw [lt3]; decide))), (by show 2 ≤ sizeLine; decide), _, addD_lst (Nat.le_of_lt (few (by show fs.length + 2 ≤ 1000; omega))), _, rfl, _, rfl, ?_, fun x hx => ?_, h6⟩
    · rw [List.length_append]; show fs.length + 2 ≤ 10; omega
    · have hp3 : ∀ p ∈ ps.take (3 : Int).toNat, Fit 5 2730 p := fun p hm => hp p (List.mem_of_mem_take hm)
      rcases List.mem_append.mp hx with hx | hx
      · exact hf x hx
      · rcases List.mem_cons.mp hx with rfl | hx
        · exact let_mk (w := Str.ofString "ended") (t := Str.ofString "mne") (ps := ps.take 3) (List.mem_of_getElem? (i := 13) rfl) lt3 hp3 (by decide +kernel) (by decide +kernel)
        · rw [List.mem_singleton.mp hx]
          exact let_mk (w := Str.ofString "refused") (t := Str.ofString "mne") (ps := ps.take 3) (List.mem_of_getElem? (i := 14) rfl) lt3 hp3 (by decide +kernel) (by decide +kernel)
  · refine ⟨Nat.zero_le _, _, addD_lst (Nat.le_of_lt (few (by show fs.length + 0 ≤ 1000; omega))), _, rfl, _, rfl, ?_, fun x hx => ?_, h6⟩
    · rw [List.append_nil]; omega
    · rw [List.append_nil] at hx; exact hf x hx
end K22
set_option Elab.async false
set_option linter.all false
set_option maxRecDepth 100000
set_option maxHeartbeats 1000000
namespace K22
open PySem PySem.Spec PyProof.Rows L2 DL
theorem wq_asgT {m : M DV} {t : DL.D → M Unit} {ρ : DL.Env} {S : Src} {E : Po DL.D} {Q : Po Fl} : wp (mAsgT m t) ρ S Q E = wp m ρ S (fun r ρ1 S1 => wp (t r.d) ρ1 S1 (fun _ ρ2 S2 => Q .nx ρ2 S2) E) E := by
  unfold mAsgT
  simp only [wq_bind, wq_pure]
theorem wq_asgH {m : M DV} {t : DL.D → M Unit} {ρ : DL.Env} {S : Src} {E : Po DL.D} {Q : Po Fl} : wp (mAsgH m t) ρ S Q E = wp m ρ S (fun r ρ1 S1 => wp (t r.d) ρ1 S1 (fun _ ρ2 S2 => Q .nx ρ2 S2) E) E := by
  unfold mAsgH
  simp only [wq_bind, wq_pure]
theorem wq_gTp2 {t u : DL.D → M Unit} {a b : DL.D} {ρ : DL.Env} {S : Src} {E : Po DL.D} {Q : Po Unit} : wp (gTp 2 (gCn t (gCn u gNl)) (.tup [a, b])) ρ S Q E = wp (t a) ρ S (fun _ ρ1 S1 => wp (u b) ρ1 S1 (fun _ ρ2 S2 => Q () ρ2 S2) E) E := by
  show wp (t a >>= fun _ => u b >>= fun _ => pure ()) ρ S Q E = _
  simp only [wq_bind, wq_pure]
theorem wq_gSb {i : Nat} {k d d0 d1 : DL.D} {ρ : DL.Env} {S : Src} {E : Po DL.D} {Q : Po Unit} (h0 : ρ[i]? = some (some (.ow d0))) (ho : isOw d0 = true) (hp : putO k d d0 = some d1) (q : Q () (ρ.set i (some (.ow d1))) S) : wp (gSb i (opd (mC k)) d) ρ S Q E := by
  unfold gSb
  rw [wq_bind]
  unfold wp mRcv
  simp only [h0, ho, if_pos]
  show wp (opd (mC k) >>= fun o => res o >>= fun k => exO (putO k d) i) ρ S Q E
  rw [wq_bind, wq_opd, wq_mC, wq_bind, wq_resV]
  unfold wp exO
  simp only [h0, DV.d, hp]
  exact q
theorem inKF_str {n : Bool} {tb : List (Str × DL.D)} {w : Str} : inKF n tb (.str w) = some (.sh (.bl (if n then !(tb.lookup w).isSome else (tb.lookup w).isSome))) := rfl
theorem Let.mem {w : Str} {ps : List DL.D} (h : Let (.tup (.str w :: ps))) : ∀ x ∈ (DL.D.str w :: ps), Fit 5 2730 x := fun x hx => by
  obtain ⟨w', t, ps', e, ht, hl, hp, _⟩ := h.ex
  cases e
  rcases List.mem_cons.mp hx with rfl | hx
  · have sm := srt_small _ ht
    exact Fit.str (Nat.le_trans sm.2.1 (by decide)) sm.2.2
  · exact hp x hx
theorem sub_eq {xs ys : List DL.D} (hx : ∀ x ∈ xs, Fit 5 2730 x) (hy : ∀ x ∈ ys, Fit 5 2730 x) : eqD (.tup xs) (.tup ys) = some (.sh (.bl (eqv (.tup xs) (.tup ys)))) :=
  Fit.eqD (Fit.tup hx (Nat.le_refl _)) (Fit.tup hy (Nat.le_refl _)) (.inl (by decide))
theorem eqv_head {w z : Str} {ps qs : List DL.D} (h : w ≠ z) : eqv (.tup (.str w :: ps)) (.tup (.str z :: qs)) = false := by
  unfold eqv
  simp only [toP, toPs]
  unfold PyData.eqv PyData.eqvAll
  have : PyData.eqv (.str w) (.str z) = false := by unfold PyData.eqv; simpa using h
  rw [this]; rfl
def others : List Str := [Str.ofString "taken", Str.ofString "granted", Str.ofString "freed", Str.ofString "barred", Str.ofString "no", Str.ofString "told", Str.ofString "work", Str.ofString "ended", Str.ofString "refused"]
theorem words_cases : ∀ w ∈ words, w = Str.ofString "end" ∨ w ∈ asks5 ∨ w ∈ others := by decide +kernel
theorem no_ne {t : Str} {qs : List DL.D} (h : Let (.tup (.str t :: qs))) (ht : t = Str.ofString "no") : ∃ a b, qs = [a, b] ∧ AskL b := by
  obtain ⟨w', t', ps', e, _, _, _, hn, _⟩ := h.ex
  cases e
  exact hn ht
def isAnsB (w : Str) (ps : List DL.D) (t : Str) (qs : List DL.D) (b : Bool) : Prop := ∀ S, F_is_answer [.tup (.str w :: ps), .tup (.str t :: qs)] S = some (.ret (.sh (.bl b)) S)
def lawAnsB (w : Str) (ps : List DL.D) (t : Str) (qs : List DL.D) (b : Bool) : Prop := ∀ S, F__law_answers [.tup (.str w :: ps), .tup (.str t :: qs)] S = some (.ret (.sh (.bl b)) S)
theorem exact_of {n : Nat} {m : M Fl} {ds : List DL.D} {S : Src} {x : DV} (h : wp m (ds.map (fun d => some (.sh d)) ++ List.replicate (n - ds.length) none) S (fun f _ S' => ∃ r, f = .ret r ∧ r = x ∧ S' = S) E0') : mkF n m ds S = some (.ret x S) := by
  obtain ⟨r, S', e, rfl, rfl⟩ := mkF_of (P := fun r S' => r = x ∧ S' = S) h
  exact e
theorem isA_other {w t : Str} {ps qs : List DL.D} (hw : w ∈ others) : isAnsB w ps t qs false := fun S => by
  have h1 : w ≠ Str.ofString "end" := by
    have : ∀ w ∈ others, w ≠ Str.ofString "end" := by decide +kernel
    exact this w hw
  have h2 : (t_ASKED.lookup w).isSome = false := by
    have : ∀ w ∈ others, (t_ASKED.lookup w).isSome = false := by decide +kernel
    exact this w hw
  refine exact_of ?_
  unfold m_is_answer
  simp only [wq_bind, wq_pure, wq_of, wq_mC, wq_opd, wq_mSlot, wq_resV, wq_resS, wq_mSet, wq_gN, wq_mNx, wq_mIf, wq_seq, wq_asg, wq_ret, wq_drop, wq_op, wq_k1, wq_mB, wq_tru, wq_not, wq_and, wq_or, wq_andV, wq_nil, wq_cons, wq_keep, wq_tup, wq_lst, wq_resL0, wq_resL1, wq_bui, wq_pNo, wq_pIs, wq_sl, wq_call, wq_sq, wq_st, wq_rg, wq_par, wq_var, wq_lc, wq_tg, wq_ag, List.map_cons, List.map_nil, List.cons_append, List.nil_append, List.length_cons, List.length_nil, List.replicate, Nat.reduceAdd, Nat.reduceSub, Nat.sub_zero, List.getElem?_cons_zero, List.getElem?_cons_succ, List.set_cons_zero, List.set_cons_succ, Option.some.injEq, exists_eq_left', exists_eq_left, DV.d, lendR, DL.asB, DL.intD, DL.op1, DL.op2', DL.seqD, w_m1, eqD_int, eqD_str, ltI_eq, subD_eq, addD_int, pow12, lenD_lst, lenD_tup, lenD_str, DL.strO, decide_eq_true_eq, decide_eq_false_iff_not]
  simp only [ix0, inKF_str, h2, Option.some.injEq, exists_eq_left', if_true, Bool.not_false]
  simp only [wq_bind, wq_pure, wq_of, wq_mC, wq_opd, wq_mSlot, wq_resV, wq_resS, wq_mSet, wq_gN, wq_mNx, wq_mIf, wq_seq, wq_asg, wq_ret, wq_drop, wq_op, wq_k1, wq_mB, wq_tru, wq_not, wq_and, wq_or, wq_andV, wq_nil, wq_cons, wq_keep, wq_tup, wq_lst, wq_resL0, wq_resL1, wq_bui, wq_pNo, wq_pIs, wq_sl, wq_call, wq_sq, wq_st, wq_rg, wq_par, wq_var, wq_lc, wq_tg, wq_ag, List.map_cons, List.map_nil, List.cons_append, List.nil_append, List.length_cons, List.length_nil, List.replicate, Nat.reduceAdd, Nat.reduceSub, Nat.sub_zero, List.getElem?_cons_zero, List.getElem?_cons_succ, List.set_cons_zero, List.set_cons_succ, Option.some.injEq, exists_eq_left', exists_eq_left, DV.d, lendR, DL.asB, DL.intD, DL.op1, DL.op2', DL.seqD, w_m1, eqD_int, eqD_str, ltI_eq, subD_eq, addD_int, pow12, lenD_lst, lenD_tup, lenD_str, DL.strO, decide_eq_true_eq, decide_eq_false_iff_not]
  simp only [h1, false_imp_iff, not_false_eq_true, true_imp_iff, true_and]
  exact ⟨⟨_, rfl, rfl, trivial⟩, (fun z => by cases z)⟩
def tail3 (ps qs : List DL.D) (w t : Str) : Bool := eqv (.tup (cutL (DL.D.str t :: qs) (some 1) none)) (.tup (cutL (DL.D.str w :: ps) (some 1) (some 4)))
def endB (ps qs : List DL.D) (w t : Str) : Bool := (decide (Str.ofString "ended" = t) || decide (Str.ofString "refused" = t)) && tail3 ps qs w t
theorem isA_end {t : Str} {ps qs : List DL.D} (hd : Let (.tup (.str (Str.ofString "end") :: ps))) (he : Let (.tup (.str t :: qs))) : isAnsB (Str.ofString "end") ps t qs (endB ps qs (Str.ofString "end") t) := fun S => by
  have e1 := sub_eq (xs := cutL (DL.D.str t :: qs) (some 1) none) (ys := cutL (DL.D.str (Str.ofString "end") :: ps) (some 1) (some 4)) (fun x hx => he.mem x (cut_mem x hx)) (fun x hx => hd.mem x (cut_mem x hx))
  refine exact_of ?_
  unfold m_is_answer
  simp only [wq_bind, wq_pure, wq_of, wq_mC, wq_opd, wq_mSlot, wq_resV, wq_resS, wq_mSet, wq_gN, wq_mNx, wq_mIf, wq_seq, wq_asg, wq_ret, wq_drop, wq_op, wq_k1, wq_mB, wq_tru, wq_not, wq_and, wq_or, wq_andV, wq_nil, wq_cons, wq_keep, wq_tup, wq_lst, wq_resL0, wq_resL1, wq_bui, wq_pNo, wq_pIs, wq_sl, wq_call, wq_sq, wq_st, wq_rg, wq_par, wq_var, wq_lc, wq_tg, wq_ag, List.map_cons, List.map_nil, List.cons_append, List.nil_append, List.length_cons, List.length_nil, List.replicate, Nat.reduceAdd, Nat.reduceSub, Nat.sub_zero, List.getElem?_cons_zero, List.getElem?_cons_succ, List.set_cons_zero, List.set_cons_succ, Option.some.injEq, exists_eq_left', exists_eq_left, DV.d, lendR, DL.asB, DL.intD, DL.op1, DL.op2', DL.seqD, w_m1, eqD_int, eqD_str, ltI_eq, subD_eq, addD_int, pow12, lenD_lst, lenD_tup, lenD_str, DL.strO, decide_eq_true_eq, decide_eq_false_iff_not]
  simp only [ix0, Option.some.injEq, exists_eq_left']
  simp only [wq_bind, wq_pure, wq_of, wq_mC, wq_opd, wq_mSlot, wq_resV, wq_resS, wq_mSet, wq_gN, wq_mNx, wq_mIf, wq_seq, wq_asg, wq_ret, wq_drop, wq_op, wq_k1, wq_mB, wq_tru, wq_not, wq_and, wq_or, wq_andV, wq_nil, wq_cons, wq_keep, wq_tup, wq_lst, wq_resL0, wq_resL1, wq_bui, wq_pNo, wq_pIs, wq_sl, wq_call, wq_sq, wq_st, wq_rg, wq_par, wq_var, wq_lc, wq_tg, wq_ag, List.map_cons, List.map_nil, List.cons_append, List.nil_append, List.length_cons, List.length_nil, List.replicate, Nat.reduceAdd, Nat.reduceSub, Nat.sub_zero, List.getElem?_cons_zero, List.getElem?_cons_succ, List.set_cons_zero, List.set_cons_succ, Option.some.injEq, exists_eq_left', exists_eq_left, DV.d, lendR, DL.asB, DL.intD, DL.op1, DL.op2', DL.seqD, w_m1, eqD_int, eqD_str, ltI_eq, subD_eq, addD_int, pow12, lenD_lst, lenD_tup, lenD_str, DL.strO, decide_eq_true_eq, decide_eq_false_iff_not]
  refine ⟨fun _ => ⟨(by show 2 ≤ sizeLine; decide), ?_⟩, fun z => absurd trivial z⟩
  simp only [inDV_two, Option.some.injEq, exists_eq_left', Bool.false_eq_true, if_false, truD, slD_tup]
  unfold endB tail3
  cases hb : (decide (Str.ofString "ended" = t) || decide (Str.ofString "refused" = t)) with
  | false => exact ⟨(fun z => by cases z), fun _ => ⟨_, rfl, rfl, trivial⟩⟩
  | true =>
    refine ⟨fun _ => ⟨_, e1, ?_⟩, (fun z => by cases z)⟩
    exact ⟨_, rfl, rfl, trivial⟩
def askT : List (Str × Str × Int) := [("take", "taken", 1), ("grant", "granted", 4), ("free", "freed", 3), ("bar", "barred", 2), ("ask", "told", 1)]
theorem asked_look : ∀ p ∈ askT, t_ASKED.lookup p.1 = some (.tup [.str p.2.1, .int p.2.2]) := by
  intro p hp
  unfold askT at hp
  simp only [List.mem_cons, List.not_mem_nil, or_false] at hp
  rcases hp with rfl | rfl | rfl | rfl | rfl <;> rfl
theorem asks_in : ∀ w ∈ asks5, ∃ p ∈ askT, p.1 = w := by decide +kernel
def sliceB (n : Int) (w t : Str) (ps qs : List DL.D) : Bool := eqv (.tup (cutL (DL.D.str t :: qs) (some 1) (some (1 + n)))) (.tup (cutL (DL.D.str w :: ps) (some 1) (some (1 + n))))
def askB (gr : Str) (n : Int) (w t : Str) (ps qs : List DL.D) (b : DL.D) : Bool := if t = Str.ofString "no" then eqv b (.tup (.str w :: ps)) else decide (t = gr) && sliceB n w t ps qs
theorem ix2 {x y z : DL.D} {r : List DL.D} : ixD (.tup (x :: y :: z :: r)) (.int 2) = some (.sh z) := by
  show (atI (x :: y :: z :: r) 2).map _ = _
  unfold atI ixN
  rw [if_pos (by decide), if_pos (by simp only [List.length_cons]; omega)]
  rfl
theorem isA_ask {w gr t : Str} {n : Int} {ps qs : List DL.D} {a b : DL.D} (hp : (w, gr, n) ∈ askT) (hd : Let (.tup (.str w :: ps))) (he : Let (.tup (.str t :: qs))) (hn : t = Str.ofString "no" → qs = [a, b] ∧ AskL b) : isAnsB w ps t qs (askB gr n w t ps qs b) := fun S => by
  have e1 := sub_eq (xs := cutL (DL.D.str t :: qs) (some 1) (some (1 + n))) (ys := cutL (DL.D.str w :: ps) (some 1) (some (1 + n))) (fun x hx => he.mem x (cut_mem x hx)) (fun x hx => hd.mem x (cut_mem x hx))
  have lk := asked_look _ hp
  have ne : w ≠ Str.ofString "end" := by
    have : ∀ p ∈ askT, p.1 ≠ Str.ofString "end" := by decide +kernel
    exact this _ hp
  have lk : t_ASKED.lookup w = some (.tup [.str gr, .int n]) := lk
  refine exact_of ?_
  unfold m_is_answer
  simp only [wq_bind, wq_pure, wq_of, wq_mC, wq_opd, wq_mSlot, wq_resV, wq_resS, wq_mSet, wq_gN, wq_mNx, wq_mIf, wq_seq, wq_asg, wq_ret, wq_drop, wq_op, wq_k1, wq_mB, wq_tru, wq_not, wq_and, wq_or, wq_andV, wq_nil, wq_cons, wq_keep, wq_tup, wq_lst, wq_resL0, wq_resL1, wq_bui, wq_pNo, wq_pIs, wq_sl, wq_call, wq_sq, wq_st, wq_rg, wq_par, wq_var, wq_lc, wq_tg, wq_ag, List.map_cons, List.map_nil, List.cons_append, List.nil_append, List.length_cons, List.length_nil, List.replicate, Nat.reduceAdd, Nat.reduceSub, Nat.sub_zero, List.getElem?_cons_zero, List.getElem?_cons_succ, List.set_cons_zero, List.set_cons_succ, Option.some.injEq, exists_eq_left', exists_eq_left, DV.d, lendR, DL.asB, DL.intD, DL.op1, DL.op2', DL.seqD, w_m1, eqD_int, eqD_str, ltI_eq, subD_eq, addD_int, pow12, lenD_lst, lenD_tup, lenD_str, DL.strO, decide_eq_true_eq, decide_eq_false_iff_not]
  simp only [ix0, inKF_str, lk, Option.isSome_some, Option.some.injEq, exists_eq_left', if_true, Bool.not_true, wq_asgT]
  simp only [wq_bind, wq_pure, wq_of, wq_mC, wq_opd, wq_mSlot, wq_resV, wq_resS, wq_mSet, wq_gN, wq_mNx, wq_mIf, wq_seq, wq_asg, wq_ret, wq_drop, wq_op, wq_k1, wq_mB, wq_tru, wq_not, wq_and, wq_or, wq_andV, wq_nil, wq_cons, wq_keep, wq_tup, wq_lst, wq_resL0, wq_resL1, wq_bui, wq_pNo, wq_pIs, wq_sl, wq_call, wq_sq, wq_st, wq_rg, wq_par, wq_var, wq_lc, wq_tg, wq_ag, List.map_cons, List.map_nil, List.cons_append, List.nil_append, List.length_cons, List.length_nil, List.replicate, Nat.reduceAdd, Nat.reduceSub, Nat.sub_zero, List.getElem?_cons_zero, List.getElem?_cons_succ, List.set_cons_zero, List.set_cons_succ, Option.some.injEq, exists_eq_left', exists_eq_left, DV.d, lendR, DL.asB, DL.intD, DL.op1, DL.op2', DL.seqD, w_m1, eqD_int, eqD_str, ltI_eq, subD_eq, addD_int, pow12, lenD_lst, lenD_tup, lenD_str, DL.strO, decide_eq_true_eq, decide_eq_false_iff_not]
  refine ⟨fun z => absurd z ne, fun _ => ⟨(fun z => by cases z), fun _ => ⟨fun c => ?_, fun c => ?_⟩⟩⟩
  · obtain ⟨rfl, ab⟩ := hn c
    have eb : eqD b (.tup (.str w :: ps)) = some (.sh (.bl (eqv b (.tup (.str w :: ps))))) := by
      obtain ⟨_, _, _, _, f⟩ := ab
      exact f.eqD hd.fit (.inl (by decide))
    refine ⟨_, ix2, _, eb, _, rfl, ?_⟩
    unfold askB
    rw [if_pos c]
    exact ⟨rfl, trivial⟩
  · refine ⟨.sh (.tup [.str gr, .int n]), ?_, ?_⟩
    · show ((t_ASKED.lookup w).map DV.sh) = _
      rw [lk]; rfl
    · simp only [wq_gTp2]
      simp only [wq_bind, wq_pure, wq_of, wq_mC, wq_opd, wq_mSlot, wq_resV, wq_resS, wq_mSet, wq_gN, wq_mNx, wq_mIf, wq_seq, wq_asg, wq_ret, wq_drop, wq_op, wq_k1, wq_mB, wq_tru, wq_not, wq_and, wq_or, wq_andV, wq_nil, wq_cons, wq_keep, wq_tup, wq_lst, wq_resL0, wq_resL1, wq_bui, wq_pNo, wq_pIs, wq_sl, wq_call, wq_sq, wq_st, wq_rg, wq_par, wq_var, wq_lc, wq_tg, wq_ag, List.map_cons, List.map_nil, List.cons_append, List.nil_append, List.length_cons, List.length_nil, List.replicate, Nat.reduceAdd, Nat.reduceSub, Nat.sub_zero, List.getElem?_cons_zero, List.getElem?_cons_succ, List.set_cons_zero, List.set_cons_succ, Option.some.injEq, exists_eq_left', exists_eq_left, DV.d, lendR, DL.asB, DL.intD, DL.op1, DL.op2', DL.seqD, w_m1, eqD_int, eqD_str, ltI_eq, subD_eq, addD_int, pow12, lenD_lst, lenD_tup, lenD_str, DL.strO, decide_eq_true_eq, decide_eq_false_iff_not]
      unfold askB
      rw [if_neg c]
      unfold sliceB
      simp only [ix0, eqD_str, truD, Option.some.injEq, exists_eq_left', slD_tup]
      by_cases hg : t = gr
      · refine ⟨fun _ => ⟨_, e1, _, rfl, ?_⟩, fun z => absurd hg (by simpa using z)⟩
        rw [decide_eq_true hg]; exact ⟨rfl, trivial⟩
      · refine ⟨fun z => absurd (by simpa using z) hg, fun _ => ⟨_, rfl, ?_⟩⟩
        rw [decide_eq_false hg]; exact ⟨rfl, trivial⟩
end K22
set_option Elab.async false
set_option linter.all false
set_option maxRecDepth 100000
set_option maxHeartbeats 1000000
namespace K22
open PySem PySem.Spec PyProof.Rows L2 DL
theorem lA_no {w t : Str} {ps : List DL.D} {a b : DL.D} (ht : t = Str.ofString "no") (hd : Let (.tup (.str w :: ps))) (ab : AskL b) : lawAnsB w ps t [a, b] (eqv b (.tup (.str w :: ps))) := fun S => by
  have eb : eqD b (.tup (.str w :: ps)) = some (.sh (.bl (eqv b (.tup (.str w :: ps))))) := by
    obtain ⟨_, _, _, _, f⟩ := ab
    exact f.eqD hd.fit (.inl (by decide))
  refine exact_of ?_
  unfold m__law_answers
  simp only [wq_bind, wq_pure, wq_of, wq_mC, wq_opd, wq_mSlot, wq_resV, wq_resS, wq_mSet, wq_gN, wq_mNx, wq_mIf, wq_seq, wq_asg, wq_ret, wq_drop, wq_op, wq_k1, wq_mB, wq_tru, wq_not, wq_and, wq_or, wq_andV, wq_nil, wq_cons, wq_keep, wq_tup, wq_lst, wq_resL0, wq_resL1, wq_bui, wq_pNo, wq_pIs, wq_sl, wq_call, wq_sq, wq_st, wq_rg, wq_par, wq_var, wq_lc, wq_tg, wq_ag, List.map_cons, List.map_nil, List.cons_append, List.nil_append, List.length_cons, List.length_nil, List.replicate, Nat.reduceAdd, Nat.reduceSub, Nat.sub_zero, List.getElem?_cons_zero, List.getElem?_cons_succ, List.set_cons_zero, List.set_cons_succ, Option.some.injEq, exists_eq_left', exists_eq_left, DV.d, lendR, DL.asB, DL.intD, DL.op1, DL.op2', DL.seqD, w_m1, eqD_int, eqD_str, ltI_eq, subD_eq, addD_int, pow12, lenD_lst, lenD_tup, lenD_str, DL.strO, decide_eq_true_eq, decide_eq_false_iff_not]
  simp only [ix0, Option.some.injEq, exists_eq_left']
  simp only [wq_bind, wq_pure, wq_of, wq_mC, wq_opd, wq_mSlot, wq_resV, wq_resS, wq_mSet, wq_gN, wq_mNx, wq_mIf, wq_seq, wq_asg, wq_ret, wq_drop, wq_op, wq_k1, wq_mB, wq_tru, wq_not, wq_and, wq_or, wq_andV, wq_nil, wq_cons, wq_keep, wq_tup, wq_lst, wq_resL0, wq_resL1, wq_bui, wq_pNo, wq_pIs, wq_sl, wq_call, wq_sq, wq_st, wq_rg, wq_par, wq_var, wq_lc, wq_tg, wq_ag, List.map_cons, List.map_nil, List.cons_append, List.nil_append, List.length_cons, List.length_nil, List.replicate, Nat.reduceAdd, Nat.reduceSub, Nat.sub_zero, List.getElem?_cons_zero, List.getElem?_cons_succ, List.set_cons_zero, List.set_cons_succ, Option.some.injEq, exists_eq_left', exists_eq_left, DV.d, lendR, DL.asB, DL.intD, DL.op1, DL.op2', DL.seqD, w_m1, eqD_int, eqD_str, ltI_eq, subD_eq, addD_int, pow12, lenD_lst, lenD_tup, lenD_str, DL.strO, decide_eq_true_eq, decide_eq_false_iff_not]
  refine ⟨fun _ => ⟨_, ix2, _, eb, _, rfl, rfl, trivial⟩, fun z => absurd ht z⟩
theorem lA_end {t : Str} {ps qs : List DL.D} (ht : t ≠ Str.ofString "no") (hd : Let (.tup (.str (Str.ofString "end") :: ps))) (he : Let (.tup (.str t :: qs))) : lawAnsB (Str.ofString "end") ps t qs (endB ps qs (Str.ofString "end") t) := fun S => by
  have e1 := sub_eq (xs := cutL (DL.D.str t :: qs) (some 1) none) (ys := cutL (DL.D.str (Str.ofString "end") :: ps) (some 1) (some 4)) (fun x hx => he.mem x (cut_mem x hx)) (fun x hx => hd.mem x (cut_mem x hx))
  refine exact_of ?_
  unfold m__law_answers
  simp only [wq_bind, wq_pure, wq_of, wq_mC, wq_opd, wq_mSlot, wq_resV, wq_resS, wq_mSet, wq_gN, wq_mNx, wq_mIf, wq_seq, wq_asg, wq_ret, wq_drop, wq_op, wq_k1, wq_mB, wq_tru, wq_not, wq_and, wq_or, wq_andV, wq_nil, wq_cons, wq_keep, wq_tup, wq_lst, wq_resL0, wq_resL1, wq_bui, wq_pNo, wq_pIs, wq_sl, wq_call, wq_sq, wq_st, wq_rg, wq_par, wq_var, wq_lc, wq_tg, wq_ag, List.map_cons, List.map_nil, List.cons_append, List.nil_append, List.length_cons, List.length_nil, List.replicate, Nat.reduceAdd, Nat.reduceSub, Nat.sub_zero, List.getElem?_cons_zero, List.getElem?_cons_succ, List.set_cons_zero, List.set_cons_succ, Option.some.injEq, exists_eq_left', exists_eq_left, DV.d, lendR, DL.asB, DL.intD, DL.op1, DL.op2', DL.seqD, w_m1, eqD_int, eqD_str, ltI_eq, subD_eq, addD_int, pow12, lenD_lst, lenD_tup, lenD_str, DL.strO, decide_eq_true_eq, decide_eq_false_iff_not]
  simp only [ix0, Option.some.injEq, exists_eq_left']
  simp only [wq_bind, wq_pure, wq_of, wq_mC, wq_opd, wq_mSlot, wq_resV, wq_resS, wq_mSet, wq_gN, wq_mNx, wq_mIf, wq_seq, wq_asg, wq_ret, wq_drop, wq_op, wq_k1, wq_mB, wq_tru, wq_not, wq_and, wq_or, wq_andV, wq_nil, wq_cons, wq_keep, wq_tup, wq_lst, wq_resL0, wq_resL1, wq_bui, wq_pNo, wq_pIs, wq_sl, wq_call, wq_sq, wq_st, wq_rg, wq_par, wq_var, wq_lc, wq_tg, wq_ag, List.map_cons, List.map_nil, List.cons_append, List.nil_append, List.length_cons, List.length_nil, List.replicate, Nat.reduceAdd, Nat.reduceSub, Nat.sub_zero, List.getElem?_cons_zero, List.getElem?_cons_succ, List.set_cons_zero, List.set_cons_succ, Option.some.injEq, exists_eq_left', exists_eq_left, DV.d, lendR, DL.asB, DL.intD, DL.op1, DL.op2', DL.seqD, w_m1, eqD_int, eqD_str, ltI_eq, subD_eq, addD_int, pow12, lenD_lst, lenD_tup, lenD_str, DL.strO, decide_eq_true_eq, decide_eq_false_iff_not]
  refine ⟨fun z => absurd z ht, fun _ => ⟨fun _ => ⟨(by show 2 ≤ sizeLine; decide), ?_⟩, fun z => absurd trivial z⟩⟩
  simp only [inDV_two, Option.some.injEq, exists_eq_left', Bool.false_eq_true, if_false, truD, slD_tup]
  unfold endB tail3
  cases hb : (decide (Str.ofString "ended" = t) || decide (Str.ofString "refused" = t)) with
  | false => exact ⟨(fun z => by cases z), fun _ => ⟨_, rfl, rfl, trivial⟩⟩
  | true =>
    refine ⟨fun _ => ⟨_, e1, ?_⟩, (fun z => by cases z)⟩
    exact ⟨_, rfl, rfl, trivial⟩
def dic3 : List (Key × DL.D) := [(.inr "take", .tup [.str "taken", .int 1]), (.inr "grant", .tup [.str "granted", .int 4]), (.inr "free", .tup [.str "freed", .int 3])]
def dic5 : List (Key × DL.D) := dic3 ++ [(.inr "bar", .tup [.str "barred", .int 2]), (.inr "ask", .tup [.str "told", .int 1])]
theorem put1 : putO (.str (Str.ofString "bar")) (.tup [.str (Str.ofString "barred"), .int 2]) (.dic dic3) = some (.dic (dic3 ++ [(.inr "bar", .tup [.str "barred", .int 2])])) := by rfl
theorem put2 : putO (.str (Str.ofString "ask")) (.tup [.str (Str.ofString "told"), .int 1]) (.dic (dic3 ++ [(.inr "bar", .tup [.str "barred", .int 2])])) = some (.dic dic5) := by rfl
/-- the answer's last part, by what the dict says -/
theorem lA_rest {w t : Str} {ps qs : List DL.D} {x : Bool} {S : Src} (h1 : t ≠ Str.ofString "no") (h2 : w ≠ Str.ofString "end")
    (h : wp (mSeq (mIf (mOr (mB (mOp (inDV true) (mSlot 2) (mSlot 4))) (mB (mOp neD (mSlot 3) (opd (mOp ixD (opd (mOp ixD (mSlot 4) (mSlot 2))) (opd (mC (.int 0)))))))) (mSeq (mRet (mC (.bl false))) (mNx)) (mNx))
      (mSeq (mRet (mOp eqD (opd (mSl (mSlot 1) (pIs (opd (mC (.int 1)))) (pIs (opd (mOp addD (opd (mOp ixD (opd (mOp ixD (mSlot 4) (mSlot 2))) (opd (mC (.int 1))))) (opd (mC (.int 1)))))))) (opd (mSl (mSlot 0) (pIs (opd (mC (.int 1)))) (pIs (opd (mOp addD (opd (mOp ixD (opd (mOp ixD (mSlot 4) (mSlot 2))) (opd (mC (.int 1))))) (opd (mC (.int 1)))))))))) (mNx)))
      [some (.sh (.tup (.str w :: ps))), some (.sh (.tup (.str t :: qs))), some (.sh (.str w)), some (.sh (.str t)), some (.ow (.dic dic5))] S (fun f _ S' => ∃ r, f = .ret r ∧ r = .sh (.bl x) ∧ S' = S) E0') :
    F__law_answers [.tup (.str w :: ps), .tup (.str t :: qs)] S = some (.ret (.sh (.bl x)) S) := by
  refine exact_of ?_
  unfold m__law_answers
  refine seqI (fun ρ S' => S' = S ∧ ρ = [some (.sh (.tup (.str w :: ps))), some (.sh (.tup (.str t :: qs))), some (.sh (.str w)), some (.sh (.str t)), none]) ?_ ?_
  · simp only [wq_bind, wq_pure, wq_of, wq_mC, wq_opd, wq_mSlot, wq_resV, wq_resS, wq_mSet, wq_gN, wq_mNx, wq_mIf, wq_seq, wq_asg, wq_ret, wq_drop, wq_op, wq_k1, wq_mB, wq_tru, wq_not, wq_and, wq_or, wq_andV, wq_nil, wq_cons, wq_keep, wq_tup, wq_lst, wq_resL0, wq_resL1, wq_bui, wq_pNo, wq_pIs, wq_sl, wq_call, wq_sq, wq_st, wq_rg, wq_par, wq_var, wq_lc, wq_tg, wq_ag, List.map_cons, List.map_nil, List.cons_append, List.nil_append, List.length_cons, List.length_nil, List.replicate, Nat.reduceAdd, Nat.reduceSub, Nat.sub_zero, List.getElem?_cons_zero, List.getElem?_cons_succ, List.set_cons_zero, List.set_cons_succ, Option.some.injEq, exists_eq_left', exists_eq_left, DV.d, lendR, DL.asB, DL.intD, DL.op1, DL.op2', DL.seqD, w_m1, eqD_int, eqD_str, ltI_eq, subD_eq, addD_int, pow12, lenD_lst, lenD_tup, lenD_str, DL.strO, decide_eq_true_eq, decide_eq_false_iff_not]
    simp only [ix0, Option.some.injEq, exists_eq_left']
    try simp only [wq_bind, wq_pure, wq_of, wq_mC, wq_opd, wq_mSlot, wq_resV, wq_resS, wq_mSet, wq_gN, wq_mNx, wq_mIf, wq_seq, wq_asg, wq_ret, wq_drop, wq_op, wq_k1, wq_mB, wq_tru, wq_not, wq_and, wq_or, wq_andV, wq_nil, wq_cons, wq_keep, wq_tup, wq_lst, wq_resL0, wq_resL1, wq_bui, wq_pNo, wq_pIs, wq_sl, wq_call, wq_sq, wq_st, wq_rg, wq_par, wq_var, wq_lc, wq_tg, wq_ag, List.map_cons, List.map_nil, List.cons_append, List.nil_append, List.length_cons, List.length_nil, List.replicate, Nat.reduceAdd, Nat.reduceSub, Nat.sub_zero, List.getElem?_cons_zero, List.getElem?_cons_succ, List.set_cons_zero, List.set_cons_succ, Option.some.injEq, exists_eq_left', exists_eq_left, DV.d, lendR, DL.asB, DL.intD, DL.op1, DL.op2', DL.seqD, w_m1, eqD_int, eqD_str, ltI_eq, subD_eq, addD_int, pow12, lenD_lst, lenD_tup, lenD_str, DL.strO, decide_eq_true_eq, decide_eq_false_iff_not]
    exact ⟨trivial, trivial, trivial⟩
  rintro ρ S1 ⟨rfl, rfl⟩
  refine seqI (fun ρ S' => S' = S1 ∧ ρ = [some (.sh (.tup (.str w :: ps))), some (.sh (.tup (.str t :: qs))), some (.sh (.str w)), some (.sh (.str t)), none]) ?_ ?_
  · simp only [wq_bind, wq_pure, wq_of, wq_mC, wq_opd, wq_mSlot, wq_resV, wq_resS, wq_mSet, wq_gN, wq_mNx, wq_mIf, wq_seq, wq_asg, wq_ret, wq_drop, wq_op, wq_k1, wq_mB, wq_tru, wq_not, wq_and, wq_or, wq_andV, wq_nil, wq_cons, wq_keep, wq_tup, wq_lst, wq_resL0, wq_resL1, wq_bui, wq_pNo, wq_pIs, wq_sl, wq_call, wq_sq, wq_st, wq_rg, wq_par, wq_var, wq_lc, wq_tg, wq_ag, List.map_cons, List.map_nil, List.cons_append, List.nil_append, List.length_cons, List.length_nil, List.replicate, Nat.reduceAdd, Nat.reduceSub, Nat.sub_zero, List.getElem?_cons_zero, List.getElem?_cons_succ, List.set_cons_zero, List.set_cons_succ, Option.some.injEq, exists_eq_left', exists_eq_left, DV.d, lendR, DL.asB, DL.intD, DL.op1, DL.op2', DL.seqD, w_m1, eqD_int, eqD_str, ltI_eq, subD_eq, addD_int, pow12, lenD_lst, lenD_tup, lenD_str, DL.strO, decide_eq_true_eq, decide_eq_false_iff_not]
    exact ⟨fun z => absurd z h1, fun _ => ⟨trivial, trivial, trivial⟩⟩
  rintro ρ S2 ⟨rfl, rfl⟩
  refine seqI (fun ρ S' => S' = S2 ∧ ρ = [some (.sh (.tup (.str w :: ps))), some (.sh (.tup (.str t :: qs))), some (.sh (.str w)), some (.sh (.str t)), none]) ?_ ?_
  · simp only [wq_bind, wq_pure, wq_of, wq_mC, wq_opd, wq_mSlot, wq_resV, wq_resS, wq_mSet, wq_gN, wq_mNx, wq_mIf, wq_seq, wq_asg, wq_ret, wq_drop, wq_op, wq_k1, wq_mB, wq_tru, wq_not, wq_and, wq_or, wq_andV, wq_nil, wq_cons, wq_keep, wq_tup, wq_lst, wq_resL0, wq_resL1, wq_bui, wq_pNo, wq_pIs, wq_sl, wq_call, wq_sq, wq_st, wq_rg, wq_par, wq_var, wq_lc, wq_tg, wq_ag, List.map_cons, List.map_nil, List.cons_append, List.nil_append, List.length_cons, List.length_nil, List.replicate, Nat.reduceAdd, Nat.reduceSub, Nat.sub_zero, List.getElem?_cons_zero, List.getElem?_cons_succ, List.set_cons_zero, List.set_cons_succ, Option.some.injEq, exists_eq_left', exists_eq_left, DV.d, lendR, DL.asB, DL.intD, DL.op1, DL.op2', DL.seqD, w_m1, eqD_int, eqD_str, ltI_eq, subD_eq, addD_int, pow12, lenD_lst, lenD_tup, lenD_str, DL.strO, decide_eq_true_eq, decide_eq_false_iff_not]
    exact ⟨fun z => absurd z h2, fun _ => ⟨trivial, trivial, trivial⟩⟩
  rintro ρ S3 ⟨rfl, rfl⟩
  refine seqI (fun ρ S' => S' = S3 ∧ ρ = [some (.sh (.tup (.str w :: ps))), some (.sh (.tup (.str t :: qs))), some (.sh (.str w)), some (.sh (.str t)), some (.ow (.dic dic3))]) ?_ ?_
  · simp only [wq_bind, wq_pure, wq_of, wq_mC, wq_opd, wq_mSlot, wq_resV, wq_resS, wq_mSet, wq_gN, wq_mNx, wq_mIf, wq_seq, wq_asg, wq_ret, wq_drop, wq_op, wq_k1, wq_mB, wq_tru, wq_not, wq_and, wq_or, wq_andV, wq_nil, wq_cons, wq_keep, wq_tup, wq_lst, wq_resL0, wq_resL1, wq_bui, wq_pNo, wq_pIs, wq_sl, wq_call, wq_sq, wq_st, wq_rg, wq_par, wq_var, wq_lc, wq_tg, wq_ag, List.map_cons, List.map_nil, List.cons_append, List.nil_append, List.length_cons, List.length_nil, List.replicate, Nat.reduceAdd, Nat.reduceSub, Nat.sub_zero, List.getElem?_cons_zero, List.getElem?_cons_succ, List.set_cons_zero, List.set_cons_succ, Option.some.injEq, exists_eq_left', exists_eq_left, DV.d, lendR, DL.asB, DL.intD, DL.op1, DL.op2', DL.seqD, w_m1, eqD_int, eqD_str, ltI_eq, subD_eq, addD_int, pow12, lenD_lst, lenD_tup, lenD_str, DL.strO, decide_eq_true_eq, decide_eq_false_iff_not]
    simp only [wq_disp, wq_pCons, wq_pNil]
    simp only [wq_bind, wq_pure, wq_of, wq_mC, wq_opd, wq_mSlot, wq_resV, wq_resS, wq_mSet, wq_gN, wq_mNx, wq_mIf, wq_seq, wq_asg, wq_ret, wq_drop, wq_op, wq_k1, wq_mB, wq_tru, wq_not, wq_and, wq_or, wq_andV, wq_nil, wq_cons, wq_keep, wq_tup, wq_lst, wq_resL0, wq_resL1, wq_bui, wq_pNo, wq_pIs, wq_sl, wq_call, wq_sq, wq_st, wq_rg, wq_par, wq_var, wq_lc, wq_tg, wq_ag, List.map_cons, List.map_nil, List.cons_append, List.nil_append, List.length_cons, List.length_nil, List.replicate, Nat.reduceAdd, Nat.reduceSub, Nat.sub_zero, List.getElem?_cons_zero, List.getElem?_cons_succ, List.set_cons_zero, List.set_cons_succ, Option.some.injEq, exists_eq_left', exists_eq_left, DV.d, lendR, DL.asB, DL.intD, DL.op1, DL.op2', DL.seqD, w_m1, eqD_int, eqD_str, ltI_eq, subD_eq, addD_int, pow12, lenD_lst, lenD_tup, lenD_str, DL.strO, decide_eq_true_eq, decide_eq_false_iff_not]
    exact ⟨(by show 2 ≤ sizeLine; decide), (by show 2 ≤ sizeLine; decide), (by show 2 ≤ sizeLine; decide), _, rfl, trivial, trivial, rfl⟩
  rintro ρ S4 ⟨rfl, rfl⟩
  refine seqI (fun ρ S' => S' = S4 ∧ ρ = [some (.sh (.tup (.str w :: ps))), some (.sh (.tup (.str t :: qs))), some (.sh (.str w)), some (.sh (.str t)), some (.ow (.dic dic5))]) ?_ ?_
  · simp only [wq_asgH]
    simp only [wq_bind, wq_pure, wq_of, wq_mC, wq_opd, wq_mSlot, wq_resV, wq_resS, wq_mSet, wq_gN, wq_mNx, wq_mIf, wq_seq, wq_asg, wq_ret, wq_drop, wq_op, wq_k1, wq_mB, wq_tru, wq_not, wq_and, wq_or, wq_andV, wq_nil, wq_cons, wq_keep, wq_tup, wq_lst, wq_resL0, wq_resL1, wq_bui, wq_pNo, wq_pIs, wq_sl, wq_call, wq_sq, wq_st, wq_rg, wq_par, wq_var, wq_lc, wq_tg, wq_ag, List.map_cons, List.map_nil, List.cons_append, List.nil_append, List.length_cons, List.length_nil, List.replicate, Nat.reduceAdd, Nat.reduceSub, Nat.sub_zero, List.getElem?_cons_zero, List.getElem?_cons_succ, List.set_cons_zero, List.set_cons_succ, Option.some.injEq, exists_eq_left', exists_eq_left, DV.d, lendR, DL.asB, DL.intD, DL.op1, DL.op2', DL.seqD, w_m1, eqD_int, eqD_str, ltI_eq, subD_eq, addD_int, pow12, lenD_lst, lenD_tup, lenD_str, DL.strO, decide_eq_true_eq, decide_eq_false_iff_not]
    refine ⟨(by show 2 ≤ sizeLine; decide), (by show 2 ≤ sizeLine; decide), (by show 2 ≤ sizeLine; decide), ?_⟩
    simp only [wq_gTp2]
    refine wq_gSb rfl rfl put1 ?_
    refine wq_gSb rfl rfl put2 ?_
    refine ⟨?_, ?_, ?_⟩ <;> first | trivial | rfl
  rintro ρ S5 ⟨rfl, rfl⟩
  exact h
theorem inDV_dic {n : Bool} {w : Str} {kv : List (Key × DL.D)} : inDV n (.str w) (.dic kv) = some (.sh (.bl (if n then !(getD kv (.inr w)).isSome else (getD kv (.inr w)).isSome))) := rfl
theorem lA_other {w t : Str} {ps qs : List DL.D} (hw : w ∈ others) (h1 : t ≠ Str.ofString "no") : lawAnsB w ps t qs false := fun S => by
  have h2 : w ≠ Str.ofString "end" := by
    have : ∀ w ∈ others, w ≠ Str.ofString "end" := by decide +kernel
    exact this w hw
  have h3 : (getD dic5 (.inr w)).isSome = false := by
    have : ∀ w ∈ others, (getD dic5 (.inr w)).isSome = false := by decide +kernel
    exact this w hw
  refine lA_rest h1 h2 ?_
  simp only [wq_bind, wq_pure, wq_of, wq_mC, wq_opd, wq_mSlot, wq_resV, wq_resS, wq_mSet, wq_gN, wq_mNx, wq_mIf, wq_seq, wq_asg, wq_ret, wq_drop, wq_op, wq_k1, wq_mB, wq_tru, wq_not, wq_and, wq_or, wq_andV, wq_nil, wq_cons, wq_keep, wq_tup, wq_lst, wq_resL0, wq_resL1, wq_bui, wq_pNo, wq_pIs, wq_sl, wq_call, wq_sq, wq_st, wq_rg, wq_par, wq_var, wq_lc, wq_tg, wq_ag, List.map_cons, List.map_nil, List.cons_append, List.nil_append, List.length_cons, List.length_nil, List.replicate, Nat.reduceAdd, Nat.reduceSub, Nat.sub_zero, List.getElem?_cons_zero, List.getElem?_cons_succ, List.set_cons_zero, List.set_cons_succ, Option.some.injEq, exists_eq_left', exists_eq_left, DV.d, lendR, DL.asB, DL.intD, DL.op1, DL.op2', DL.seqD, w_m1, eqD_int, eqD_str, ltI_eq, subD_eq, addD_int, pow12, lenD_lst, lenD_tup, lenD_str, DL.strO, decide_eq_true_eq, decide_eq_false_iff_not]
  simp only [inDV_dic, h3, Option.some.injEq, exists_eq_left', if_true, Bool.not_false]
  exact ⟨fun _ => ⟨fun _ => ⟨_, rfl, rfl, trivial⟩, (fun z => by cases z)⟩, (fun z => by cases z)⟩
theorem dic_get : ∀ p ∈ askT, ixD (.dic dic5) (.str p.1) = some (.sh (.tup [.str p.2.1, .int p.2.2])) ∧ (getD dic5 (.inr p.1)).isSome = true := by
  intro p hp
  unfold askT at hp
  simp only [List.mem_cons, List.not_mem_nil, or_false] at hp
  rcases hp with rfl | rfl | rfl | rfl | rfl <;> exact ⟨rfl, rfl⟩
theorem ix1 {x y : DL.D} {r : List DL.D} : ixD (.tup (x :: y :: r)) (.int 1) = some (.sh y) := by
  show (atI (x :: y :: r) 1).map _ = _
  unfold atI ixN
  rw [if_pos (by decide), if_pos (by simp only [List.length_cons]; omega)]
  rfl
theorem lA_ask {w gr t : Str} {n : Int} {ps qs : List DL.D} (hp : (w, gr, n) ∈ askT) (h1 : t ≠ Str.ofString "no") (hd : Let (.tup (.str w :: ps))) (he : Let (.tup (.str t :: qs))) : lawAnsB w ps t qs (decide (t = gr) && sliceB n w t ps qs) := fun S => by
  have h2 : w ≠ Str.ofString "end" := by
    have : ∀ p ∈ askT, p.1 ≠ Str.ofString "end" := by decide +kernel
    exact this _ hp
  obtain ⟨g1, g2⟩ := dic_get _ hp
  have g1 : ixD (.dic dic5) (.str w) = some (.sh (.tup [.str gr, .int n])) := g1
  have g2 : (getD dic5 (.inr w)).isSome = true := g2
  have e1 := sub_eq (xs := cutL (DL.D.str t :: qs) (some 1) (some (1 + n))) (ys := cutL (DL.D.str w :: ps) (some 1) (some (1 + n))) (fun x hx => he.mem x (cut_mem x hx)) (fun x hx => hd.mem x (cut_mem x hx))
  refine lA_rest h1 h2 ?_
  simp only [wq_bind, wq_pure, wq_of, wq_mC, wq_opd, wq_mSlot, wq_resV, wq_resS, wq_mSet, wq_gN, wq_mNx, wq_mIf, wq_seq, wq_asg, wq_ret, wq_drop, wq_op, wq_k1, wq_mB, wq_tru, wq_not, wq_and, wq_or, wq_andV, wq_nil, wq_cons, wq_keep, wq_tup, wq_lst, wq_resL0, wq_resL1, wq_bui, wq_pNo, wq_pIs, wq_sl, wq_call, wq_sq, wq_st, wq_rg, wq_par, wq_var, wq_lc, wq_tg, wq_ag, List.map_cons, List.map_nil, List.cons_append, List.nil_append, List.length_cons, List.length_nil, List.replicate, Nat.reduceAdd, Nat.reduceSub, Nat.sub_zero, List.getElem?_cons_zero, List.getElem?_cons_succ, List.set_cons_zero, List.set_cons_succ, Option.some.injEq, exists_eq_left', exists_eq_left, DV.d, lendR, DL.asB, DL.intD, DL.op1, DL.op2', DL.seqD, w_m1, eqD_int, eqD_str, ltI_eq, subD_eq, addD_int, pow12, lenD_lst, lenD_tup, lenD_str, DL.strO, decide_eq_true_eq, decide_eq_false_iff_not]
  simp only [inDV_dic, g1, g2, ix0, ix1, addD_int, Option.some.injEq, exists_eq_left', if_true, Bool.not_true, neD_str, slD_tup, DL.intD]
  rw [show n + 1 = 1 + n from Int.add_comm ..]
  unfold sliceB
  refine ⟨(fun z => by cases z), fun _ => ?_⟩
  cases hx : decide (t = gr) with
  | false => exact ⟨fun _ => ⟨_, rfl, rfl, trivial⟩, (fun z => by cases z)⟩
  | true => exact ⟨(fun z => by cases z), fun _ => ⟨_, e1, _, rfl, rfl, trivial⟩⟩
end K22
set_option Elab.async false
set_option linter.all false
set_option maxRecDepth 100000
set_option maxHeartbeats 1000000
namespace K22
open PySem PySem.Spec PyProof.Rows L2 DL
theorem asks_end : ∀ w ∈ asks5, w ≠ Str.ofString "end" := by decide +kernel
theorem asks_oth : ∀ w ∈ asks5, w ∉ others := by decide +kernel
/-- the two say the same -/
theorem both_ok {d e : DL.D} (hd : Let d) (he : Let e) : ∃ b : Bool, (∀ S, F_is_answer [d, e] S = some (.ret (.sh (.bl b)) S)) ∧ ∀ S, F__law_answers [d, e] S = some (.ret (.sh (.bl b)) S) := by
  obtain ⟨w, t0, ps, rfl, ht0, _⟩ := hd.ex
  obtain ⟨t, t1, qs, rfl, ht1, _, _, hno, _⟩ := he.ex
  rcases words_cases w (words_of ht0) with rfl | hw | hw
  · by_cases hn : t = Str.ofString "no"
    · obtain ⟨a, b, rfl, ab⟩ := hno hn
      refine ⟨false, fun S => ?_, fun S => ?_⟩
      · have q := isA_end hd he S
        have z : endB ps [a, b] (Str.ofString "end") t = false := by
          unfold endB
          rw [hn]
          have : (decide (Str.ofString "ended" = Str.ofString "no") || decide (Str.ofString "refused" = Str.ofString "no")) = false := by decide +kernel
          rw [this]; rfl
        rw [z] at q
        exact q
      · have q := lA_no (a := a) hn hd ab S
        obtain ⟨w1, ps1, rfl, hw1, _⟩ := ab
        rw [eqv_head (asks_end w1 hw1)] at q
        exact q
    · exact ⟨_, isA_end hd he, lA_end hn hd he⟩
  · obtain ⟨⟨w', gr, n⟩, hp, rfl⟩ := asks_in w hw
    by_cases hn : t = Str.ofString "no"
    · obtain ⟨a, b, rfl, ab⟩ := hno hn
      refine ⟨eqv b (.tup (.str w' :: ps)), fun S => ?_, fun S => lA_no (a := a) hn hd ab S⟩
      have q := isA_ask hp hd he (fun _ => ⟨rfl, ab⟩) S
      unfold askB at q
      rw [if_pos hn] at q
      exact q
    · refine ⟨_, fun S => ?_, fun S => lA_ask hp hn hd he S⟩
      have q := isA_ask (a := .non) (b := .non) hp hd he (fun z => absurd z hn) S
      unfold askB at q
      rw [if_neg hn] at q
      exact q
  · refine ⟨false, isA_other hw, fun S => ?_⟩
    by_cases hn : t = Str.ofString "no"
    · obtain ⟨a, b, rfl, ab⟩ := hno hn
      have q := lA_no (a := a) hn hd ab S
      obtain ⟨w1, ps1, rfl, hw1, _⟩ := ab
      rw [eqv_head (fun z => asks_oth w1 hw1 (by rw [z]; exact hw))] at q
      exact q
    · exact lA_other hw hn S
/-- whose mail a letter is -/
def goesL (w : Str) (g : DL.D) : Prop := (w ∈ asks6 → g = .tup [.str (Str.ofString "store")]) ∧ (w ∉ asks6 → eqv g (.tup [.str (Str.ofString "store")]) = false)
theorem wq_kix {tb : List (Str × DL.D)} {mb mk : M Opd} {ρ : DL.Env} {S : Src} {E : Po DL.D} {Q : Po DV} : wp (mKIx tb mb mk) ρ S Q E = wp mb ρ S (fun o ρ1 S1 => wp (res o) ρ1 S1 (fun k ρ2 S2 => ∃ ds, ((ixKF tb k).bind fun r => tupO r.d) = some ds ∧ wp mk ρ2 S2 (fun z ρ3 S3 => wp (res z) ρ3 S3 (fun zd ρ4 S4 => ∃ r, indexL ds zd = some r ∧ Q r ρ4 S4) E) E) E) E := by
  unfold mKIx
  simp only [wq_bind, wq_of]
def to3 : List Str := [Str.ofString "work", Str.ofString "ended", Str.ofString "refused"]
def rest6 : List Str := [Str.ofString "taken", Str.ofString "granted", Str.ofString "freed", Str.ofString "barred", Str.ofString "no", Str.ofString "told"]
theorem words_three : ∀ w ∈ words, w ∈ asks6 ∨ w ∈ to3 ∨ w ∈ rest6 := by decide +kernel
theorem inTo {w : Str} : inDV false (.str w) c_TO_MACHINES = some (.sh (.bl (decide (Str.ofString "work" = w) || (decide (Str.ofString "ended" = w) || decide (Str.ofString "refused" = w))))) := by
  unfold inDV inD c_TO_MACHINES
  simp only [flat, List.all_cons, List.all_nil, Bool.and_self, and_self, if_true, List.any_cons, List.any_nil, Bool.or_false, eqv_str, Option.map_some, Bool.false_eq_true, if_false]
theorem goes_ok {w : Str} {ps : List DL.D} (hd : Let (.tup (.str w :: ps))) : ∃ g, (∀ S, F_goes_to [.tup (.str w :: ps)] S = some (.ret (.sh g) S)) ∧ Fit 6 6000 g ∧ goesL w g := by
  obtain ⟨w', t, ps', e, ht, hl, hp, _⟩ := hd.ex
  cases e
  have fs : ∀ {x : Str}, x.length ≤ 100 → PyData.strOk x = true → Fit 6 6000 (.tup [.str x]) := fun h1 h2 => (Fit.tup (k := 0) (b := 100) (n := 101) (fun d hd => by rw [List.mem_singleton.mp hd]; exact Fit.str h1 h2) (by show 1 * 101 ≤ 101; decide)).mono (by decide) (by decide)
  have fm : ∀ {p : DL.D}, Fit 5 2730 p → Fit 6 6000 (.tup [.str (Str.ofString "machine"), p]) := fun hm => (Fit.tup (k := 5) (b := 2730) (n := 5462) (fun d hd => by
    rcases List.mem_cons.mp hd with rfl | hd
    · exact Fit.str (by decide +kernel) (by decide +kernel)
    · rw [List.mem_singleton.mp hd]; exact hm) (by show 2 * 2731 ≤ 5462; decide)).mono (by decide) (by decide)
  rcases words_three w (words_of ht) with hw | hw | hw
  · refine ⟨.tup [.str (Str.ofString "store")], fun S => exact_of ?_, fs (by decide +kernel) (by decide +kernel), fun _ => rfl, fun z => absurd hw z⟩
    have h1 : (t_ASKED.lookup w).isSome = true ∨ w = Str.ofString "end" := by
      have : ∀ w ∈ asks6, (t_ASKED.lookup w).isSome = true ∨ w = Str.ofString "end" := by decide +kernel
      exact this w hw
    unfold m_goes_to
    simp only [wq_bind, wq_pure, wq_of, wq_mC, wq_opd, wq_mSlot, wq_resV, wq_resS, wq_mSet, wq_gN, wq_mNx, wq_mIf, wq_seq, wq_asg, wq_ret, wq_drop, wq_op, wq_k1, wq_mB, wq_tru, wq_not, wq_and, wq_or, wq_andV, wq_nil, wq_cons, wq_keep, wq_tup, wq_lst, wq_resL0, wq_resL1, wq_bui, wq_pNo, wq_pIs, wq_sl, wq_call, wq_sq, wq_st, wq_rg, wq_par, wq_var, wq_lc, wq_tg, wq_ag, List.map_cons, List.map_nil, List.cons_append, List.nil_append, List.length_cons, List.length_nil, List.replicate, Nat.reduceAdd, Nat.reduceSub, Nat.sub_zero, List.getElem?_cons_zero, List.getElem?_cons_succ, List.set_cons_zero, List.set_cons_succ, Option.some.injEq, exists_eq_left', exists_eq_left, DV.d, lendR, DL.asB, DL.intD, DL.op1, DL.op2', DL.seqD, w_m1, eqD_int, eqD_str, ltI_eq, subD_eq, addD_int, pow12, lenD_lst, lenD_tup, lenD_str, DL.strO, decide_eq_true_eq, decide_eq_false_iff_not]
    simp only [ix0, inKF_str, Option.some.injEq, exists_eq_left', Bool.false_eq_true, if_false]
    simp only [wq_bind, wq_pure, wq_of, wq_mC, wq_opd, wq_mSlot, wq_resV, wq_resS, wq_mSet, wq_gN, wq_mNx, wq_mIf, wq_seq, wq_asg, wq_ret, wq_drop, wq_op, wq_k1, wq_mB, wq_tru, wq_not, wq_and, wq_or, wq_andV, wq_nil, wq_cons, wq_keep, wq_tup, wq_lst, wq_resL0, wq_resL1, wq_bui, wq_pNo, wq_pIs, wq_sl, wq_call, wq_sq, wq_st, wq_rg, wq_par, wq_var, wq_lc, wq_tg, wq_ag, List.map_cons, List.map_nil, List.cons_append, List.nil_append, List.length_cons, List.length_nil, List.replicate, Nat.reduceAdd, Nat.reduceSub, Nat.sub_zero, List.getElem?_cons_zero, List.getElem?_cons_succ, List.set_cons_zero, List.set_cons_succ, Option.some.injEq, exists_eq_left', exists_eq_left, DV.d, lendR, DL.asB, DL.intD, DL.op1, DL.op2', DL.seqD, w_m1, eqD_int, eqD_str, ltI_eq, subD_eq, addD_int, pow12, lenD_lst, lenD_tup, lenD_str, DL.strO, decide_eq_true_eq, decide_eq_false_iff_not]
    refine ⟨fun _ => ⟨fun _ => ⟨(by show 1 ≤ sizeLine; decide), _, rfl, rfl, trivial⟩, (fun z => by cases z)⟩, fun z => ⟨fun _ => ⟨(by show 1 ≤ sizeLine; decide), _, rfl, rfl, trivial⟩, fun z2 => ?_⟩⟩
    rcases h1 with h1 | h1
    · rw [h1] at z; cases z
    · exact absurd h1 z2
  · have h1 : (t_ASKED.lookup w).isSome = false ∧ w ≠ Str.ofString "end" ∧ w ∉ asks6 ∧ (decide (Str.ofString "work" = w) || (decide (Str.ofString "ended" = w) || decide (Str.ofString "refused" = w))) = true := by
      have : ∀ w ∈ to3, (t_ASKED.lookup w).isSome = false ∧ w ≠ Str.ofString "end" ∧ w ∉ asks6 ∧ (decide (Str.ofString "work" = w) || (decide (Str.ofString "ended" = w) || decide (Str.ofString "refused" = w))) = true := by decide +kernel
      exact this w hw
    obtain ⟨h1, h2, h3, h4⟩ := h1
    obtain ⟨ds, j, i1, i2, i3⟩ : ∃ ds : List DL.D, ∃ j : Int, ((ixKF t_SORTS (.str w)).bind fun r => tupO r.d) = some ds ∧ indexL ds (.str (Str.ofString "machine")) = some (.sh (.int j)) ∧ 0 ≤ j ∧ j ≤ 1 ∧ 3 ≤ ps.length := by
      unfold to3 at hw
      simp only [List.mem_cons, List.not_mem_nil, or_false] at hw
      rcases hw with rfl | rfl | rfl
      · have et : t = Str.ofString "emneer" := srt_fun _ ht _ (List.mem_of_getElem? (i := 12) rfl) rfl
        subst et
        exact ⟨_, 1, rfl, rfl, by decide, by decide, by rw [hl]; decide +kernel⟩
      · have et : t = Str.ofString "mne" := srt_fun _ ht _ (List.mem_of_getElem? (i := 13) rfl) rfl
        subst et
        exact ⟨_, 0, rfl, rfl, by decide, by decide, by rw [hl]; decide +kernel⟩
      · have et : t = Str.ofString "mne" := srt_fun _ ht _ (List.mem_of_getElem? (i := 14) rfl) rfl
        subst et
        exact ⟨_, 0, rfl, rfl, by decide, by decide, by rw [hl]; decide +kernel⟩
    obtain ⟨x, hx, ex⟩ := atI_mem (xs := DL.D.str w :: ps) (i := 1 + j) (by omega) (by rw [List.length_cons]; omega)
    have e2 : ixD (.tup (.str w :: ps)) (.int (1 + j)) = some (.sh x) := by
      show (atI (DL.D.str w :: ps) (1 + j)).map _ = _
      rw [ex]; rfl
    refine ⟨.tup [.str (Str.ofString "machine"), x], fun S => exact_of ?_, fm (hd.mem x hx), fun z => absurd z h3, fun _ => eqv_head (by decide +kernel)⟩
    unfold m_goes_to
    simp only [wq_bind, wq_pure, wq_of, wq_mC, wq_opd, wq_mSlot, wq_resV, wq_resS, wq_mSet, wq_gN, wq_mNx, wq_mIf, wq_seq, wq_asg, wq_ret, wq_drop, wq_op, wq_k1, wq_mB, wq_tru, wq_not, wq_and, wq_or, wq_andV, wq_nil, wq_cons, wq_keep, wq_tup, wq_lst, wq_resL0, wq_resL1, wq_bui, wq_pNo, wq_pIs, wq_sl, wq_call, wq_sq, wq_st, wq_rg, wq_par, wq_var, wq_lc, wq_tg, wq_ag, List.map_cons, List.map_nil, List.cons_append, List.nil_append, List.length_cons, List.length_nil, List.replicate, Nat.reduceAdd, Nat.reduceSub, Nat.sub_zero, List.getElem?_cons_zero, List.getElem?_cons_succ, List.set_cons_zero, List.set_cons_succ, Option.some.injEq, exists_eq_left', exists_eq_left, DV.d, lendR, DL.asB, DL.intD, DL.op1, DL.op2', DL.seqD, w_m1, eqD_int, eqD_str, ltI_eq, subD_eq, addD_int, pow12, lenD_lst, lenD_tup, lenD_str, DL.strO, decide_eq_true_eq, decide_eq_false_iff_not]
    simp only [ix0, inKF_str, h1, h4, inTo, wq_kix, Option.some.injEq, exists_eq_left', Bool.false_eq_true, if_false]
    simp only [wq_bind, wq_pure, wq_of, wq_mC, wq_opd, wq_mSlot, wq_resV, wq_resS, wq_mSet, wq_gN, wq_mNx, wq_mIf, wq_seq, wq_asg, wq_ret, wq_drop, wq_op, wq_k1, wq_mB, wq_tru, wq_not, wq_and, wq_or, wq_andV, wq_nil, wq_cons, wq_keep, wq_tup, wq_lst, wq_resL0, wq_resL1, wq_bui, wq_pNo, wq_pIs, wq_sl, wq_call, wq_sq, wq_st, wq_rg, wq_par, wq_var, wq_lc, wq_tg, wq_ag, List.map_cons, List.map_nil, List.cons_append, List.nil_append, List.length_cons, List.length_nil, List.replicate, Nat.reduceAdd, Nat.reduceSub, Nat.sub_zero, List.getElem?_cons_zero, List.getElem?_cons_succ, List.set_cons_zero, List.set_cons_succ, Option.some.injEq, exists_eq_left', exists_eq_left, DV.d, lendR, DL.asB, DL.intD, DL.op1, DL.op2', DL.seqD, w_m1, eqD_int, eqD_str, ltI_eq, subD_eq, addD_int, pow12, lenD_lst, lenD_tup, lenD_str, DL.strO, decide_eq_true_eq, decide_eq_false_iff_not]
    simp only [ix0, Option.some.injEq, exists_eq_left']
    refine ⟨(fun z => by cases z), fun _ => ⟨fun z => absurd z h2, fun _ => ⟨fun _ => ?_, (fun z => by cases z)⟩⟩⟩
    refine ⟨_, i1, _, i2, ?_⟩
    simp only [wq_bind, wq_pure, wq_of, wq_mC, wq_opd, wq_mSlot, wq_resV, wq_resS, wq_mSet, wq_gN, wq_mNx, wq_mIf, wq_seq, wq_asg, wq_ret, wq_drop, wq_op, wq_k1, wq_mB, wq_tru, wq_not, wq_and, wq_or, wq_andV, wq_nil, wq_cons, wq_keep, wq_tup, wq_lst, wq_resL0, wq_resL1, wq_bui, wq_pNo, wq_pIs, wq_sl, wq_call, wq_sq, wq_st, wq_rg, wq_par, wq_var, wq_lc, wq_tg, wq_ag, List.map_cons, List.map_nil, List.cons_append, List.nil_append, List.length_cons, List.length_nil, List.replicate, Nat.reduceAdd, Nat.reduceSub, Nat.sub_zero, List.getElem?_cons_zero, List.getElem?_cons_succ, List.set_cons_zero, List.set_cons_succ, Option.some.injEq, exists_eq_left', exists_eq_left, DV.d, lendR, DL.asB, DL.intD, DL.op1, DL.op2', DL.seqD, w_m1, eqD_int, eqD_str, ltI_eq, subD_eq, addD_int, pow12, lenD_lst, lenD_tup, lenD_str, DL.strO, decide_eq_true_eq, decide_eq_false_iff_not]
    exact ⟨_, e2, (by show 2 ≤ sizeLine; decide), _, rfl, rfl, trivial⟩
  · have h1 : (t_ASKED.lookup w).isSome = false ∧ w ≠ Str.ofString "end" ∧ w ∉ asks6 ∧ (decide (Str.ofString "work" = w) || (decide (Str.ofString "ended" = w) || decide (Str.ofString "refused" = w))) = false := by
      have : ∀ w ∈ rest6, (t_ASKED.lookup w).isSome = false ∧ w ≠ Str.ofString "end" ∧ w ∉ asks6 ∧ (decide (Str.ofString "work" = w) || (decide (Str.ofString "ended" = w) || decide (Str.ofString "refused" = w))) = false := by decide +kernel
      exact this w hw
    obtain ⟨h1, h2, h3, h4⟩ := h1
    refine ⟨.tup [.str (Str.ofString "keeper")], fun S => exact_of ?_, fs (by decide +kernel) (by decide +kernel), fun z => absurd z h3, fun _ => eqv_head (by decide +kernel)⟩
    unfold m_goes_to
    simp only [wq_bind, wq_pure, wq_of, wq_mC, wq_opd, wq_mSlot, wq_resV, wq_resS, wq_mSet, wq_gN, wq_mNx, wq_mIf, wq_seq, wq_asg, wq_ret, wq_drop, wq_op, wq_k1, wq_mB, wq_tru, wq_not, wq_and, wq_or, wq_andV, wq_nil, wq_cons, wq_keep, wq_tup, wq_lst, wq_resL0, wq_resL1, wq_bui, wq_pNo, wq_pIs, wq_sl, wq_call, wq_sq, wq_st, wq_rg, wq_par, wq_var, wq_lc, wq_tg, wq_ag, List.map_cons, List.map_nil, List.cons_append, List.nil_append, List.length_cons, List.length_nil, List.replicate, Nat.reduceAdd, Nat.reduceSub, Nat.sub_zero, List.getElem?_cons_zero, List.getElem?_cons_succ, List.set_cons_zero, List.set_cons_succ, Option.some.injEq, exists_eq_left', exists_eq_left, DV.d, lendR, DL.asB, DL.intD, DL.op1, DL.op2', DL.seqD, w_m1, eqD_int, eqD_str, ltI_eq, subD_eq, addD_int, pow12, lenD_lst, lenD_tup, lenD_str, DL.strO, decide_eq_true_eq, decide_eq_false_iff_not]
    simp only [ix0, inKF_str, h1, h4, inTo, wq_kix, Option.some.injEq, exists_eq_left', Bool.false_eq_true, if_false]
    simp only [wq_bind, wq_pure, wq_of, wq_mC, wq_opd, wq_mSlot, wq_resV, wq_resS, wq_mSet, wq_gN, wq_mNx, wq_mIf, wq_seq, wq_asg, wq_ret, wq_drop, wq_op, wq_k1, wq_mB, wq_tru, wq_not, wq_and, wq_or, wq_andV, wq_nil, wq_cons, wq_keep, wq_tup, wq_lst, wq_resL0, wq_resL1, wq_bui, wq_pNo, wq_pIs, wq_sl, wq_call, wq_sq, wq_st, wq_rg, wq_par, wq_var, wq_lc, wq_tg, wq_ag, List.map_cons, List.map_nil, List.cons_append, List.nil_append, List.length_cons, List.length_nil, List.replicate, Nat.reduceAdd, Nat.reduceSub, Nat.sub_zero, List.getElem?_cons_zero, List.getElem?_cons_succ, List.set_cons_zero, List.set_cons_succ, Option.some.injEq, exists_eq_left', exists_eq_left, DV.d, lendR, DL.asB, DL.intD, DL.op1, DL.op2', DL.seqD, w_m1, eqD_int, eqD_str, ltI_eq, subD_eq, addD_int, pow12, lenD_lst, lenD_tup, lenD_str, DL.strO, decide_eq_true_eq, decide_eq_false_iff_not]
    refine ⟨(fun z => by cases z), fun _ => ⟨fun z => absurd z h2, fun _ => ⟨(fun z => by cases z), fun _ => ⟨(by show 1 ≤ sizeLine; decide), _, rfl, rfl, trivial⟩⟩⟩⟩
end K22
set_option Elab.async false
set_option linter.all false
set_option maxRecDepth 100000
set_option maxHeartbeats 1000000
namespace K22
open PySem PySem.Spec PyProof.Rows L2 DL
/-- any of a generator expression over one name -/
theorem wq_ag1 {k : Nat} {e : M DV} {ds : List DL.D} {p : DL.D → Bool} {ρ : DL.Env} {S : Src} {E : Po DL.D} {Q : Po DV}
    (hs : ∀ d, d ∈ ds → wp e ((ρ.set k none).set k (some (.sh d))) S (fun r ρ3 S3 => r.d = .bl (p d) ∧ ρ3 = (ρ.set k none).set k (some (.sh d)) ∧ S3 = S) E0') (hq : Q (.sh (.bl (ds.any p))) ρ S) :
    wp (inBlk [k] (fun b => DV.sh (.bl b)) (gxGo true [k] (gN k) mYes e ds)) ρ S Q E := by
  refine wq_blk ?_
  suffices go : ∀ (r : List DL.D) (x : Option DV), (∀ d ∈ r, d ∈ ds) → ∀ ρ', (ρ' = ρ ∨ ρ' = ρ.set k x) → wp (gxGo true [k] (gN k) mYes e r) ρ' S (fun b ρ2 S2 => b = r.any p ∧ (ρ2 = ρ ∨ ∃ y, ρ2 = ρ.set k y) ∧ S2 = S) E0' by
    refine wp_mono (go ds none (fun _ h => h) ρ (.inl rfl)) (fun b ρ2 S2 ⟨h1, h2, h3⟩ => ?_) fun _ _ _ z => z
    subst h1 h3
    rcases h2 with rfl | ⟨y, rfl⟩
    · rw [rest1']; exact hq
    · rw [rest1]; exact hq
  intro r
  induction r with
  | nil => exact fun x _ ρ' h => ⟨rfl, h.imp id fun z => ⟨_, z⟩, rfl⟩
  | cons d r ih =>
    intro x hm ρ' h
    unfold gxGo
    rw [wq_bind]
    have kw : wipeE ρ' [k] = ρ.set k none := by
      rcases h with rfl | rfl
      · rfl
      · exact List.set_set ..
    show wp (gN k d >>= _) (wipeE ρ' [k]) S _ _
    rw [kw, wq_bind, wq_gN]
    show wp (e >>= _) _ S _ _
    rw [wq_bind]
    refine wp_mono (hs d (hm d (List.mem_cons_self ..))) (fun r1 ρ3 S3 ⟨h1, h2, h3⟩ => ?_) fun _ _ _ z => z
    subst h3
    rw [wq_bind, wq_of]
    refine ⟨p d, by rw [h1]; rfl, ?_⟩
    cases hp : p d with
    | true =>
      rw [if_pos rfl]
      exact ⟨by rw [List.any_cons, hp]; rfl, .inr ⟨some (.sh d), by rw [h2, List.set_set]⟩, rfl⟩
    | false =>
      rw [if_neg (by decide)]
      have q := ih (some (.sh d)) (fun x hx => hm x (List.mem_cons_of_mem _ hx)) ρ3 (.inr (by rw [h2, List.set_set]))
      refine wp_mono q (fun b ρ4 S4 h => ⟨by rw [List.any_cons, hp, h.1]; rfl, h.2⟩) fun _ _ _ z => z
/-- a comprehension over one name with a test, that changes nothing else -/
theorem wq_lcF {k : Nat} {c : M Bool} {e : M DV} {ds : List DL.D} {p : DL.D → Bool} {f : DL.D → DL.D} {ρ : DL.Env} {S : Src} {E : Po DL.D} {K : List DL.D → DV} {Q : Po DV} (hl : ds.length ≤ sizeLine)
    (hc : ∀ d, d ∈ ds → wp c ((ρ.set k none).set k (some (.sh d))) S (fun b ρ3 S3 => b = p d ∧ ρ3 = (ρ.set k none).set k (some (.sh d)) ∧ S3 = S) E0')
    (he : ∀ d, d ∈ ds → p d = true → wp e ((ρ.set k none).set k (some (.sh d))) S (fun r ρ3 S3 => r.d = f d ∧ ρ3 = (ρ.set k none).set k (some (.sh d)) ∧ S3 = S) E0') (hq : Q (K ((ds.filter p).map f)) ρ S) :
    wp (inBlk [k] K (lcGo [k] (gN k) c e ds [])) ρ S Q E := by
  refine wq_blk (wq_lcGo (fun i acc ρ' S' => acc = ((ds.take i).filter p).map f ∧ (ρ' = ρ ∨ ∃ y, ρ' = ρ.set k y) ∧ S' = S) ⟨by simp, .inl rfl, rfl⟩ hl (fun i acc ρ' S' h => ?_) (fun i d acc ρ' S' hd h => ?_) (fun acc ρ' S' h => ?_))
  · rw [h.1, List.length_map]
    exact Nat.le_trans (List.length_filter_le _ _) (List.length_take_le _ _)
  · obtain ⟨h1, h2, rfl⟩ := h
    have hm := List.mem_of_getElem? hd
    have kw : wipeE ρ' [k] = ρ.set k none := by
      rcases h2 with rfl | ⟨y, rfl⟩
      · rfl
      · exact List.set_set ..
    have tk : ds.take (i + 1) = ds.take i ++ [d] := by
      rw [List.take_add_one, hd]; rfl
    rw [kw, wq_gN]
    refine wp_mono (hc d hm) (fun b ρ3 S3 ⟨e1, e2, e3⟩ => ?_) fun _ _ _ z => z
    subst e3
    refine ⟨fun hb => ?_, fun hb => ?_⟩
    · rw [e2]
      refine wp_mono (he d hm (by rw [← e1]; exact hb)) (fun r ρ4 S4 ⟨f1, f2, f3⟩ => ⟨?_, .inr ⟨some (.sh d), by rw [f2, List.set_set]⟩, f3⟩) fun _ _ _ z => z
      rw [h1, f1, tk, List.filter_append, List.filter_cons_of_pos (by rw [← e1]; exact hb), List.map_append]; rfl
    · refine ⟨?_, .inr ⟨some (.sh d), by rw [e2, List.set_set]⟩, rfl⟩
      rw [h1, tk, List.filter_append, List.filter_cons_of_neg (by rw [← e1, hb]; decide)]; simp
  · obtain ⟨h1, h2, rfl⟩ := h
    rw [List.take_length] at h1
    subst h1
    rcases h2 with rfl | ⟨y, rfl⟩
    · rw [rest1']; exact hq
    · rw [rest1]; exact hq
/-- is e an answer to d? -/
noncomputable def ansC (d e : DL.D) : Bool := open Classical in if h : Let d ∧ Let e then (both_ok h.1 h.2).choose else false
theorem ans_is {d e : DL.D} (hd : Let d) (he : Let e) (S : Src) : F_is_answer [d, e] S = some (.ret (.sh (.bl (ansC d e))) S) := by
  unfold ansC
  rw [dif_pos ⟨hd, he⟩]
  exact (both_ok hd he).choose_spec.1 S
theorem ans_law {d e : DL.D} (hd : Let d) (he : Let e) (S : Src) : F__law_answers [d, e] S = some (.ret (.sh (.bl (ansC d e))) S) := by
  unfold ansC
  rw [dif_pos ⟨hd, he⟩]
  exact (both_ok hd he).choose_spec.2 S
def headS : DL.D → Str
  | .tup (.str w :: _) => w
  | _ => ⟨#[]⟩
noncomputable def step (heard : List DL.D) (left : List DL.D) (d : DL.D) : List DL.D :=
  if decide (headS d ∈ asks6) && (!(left.any fun z => eqv z d) && !(heard.any fun e => ansC d e)) then left ++ [d] else left
noncomputable def dueL (sent heard : List DL.D) : List DL.D := sent.foldl (step heard) []
theorem step_mem {heard left : List DL.D} {d x : DL.D} (h : x ∈ step heard left d) : x ∈ left ∨ x = d := by
  unfold step at h
  split at h
  · rcases List.mem_append.mp h with h | h
    · exact .inl h
    · exact .inr (List.mem_singleton.mp h)
  · exact .inl h
theorem step_len {heard left : List DL.D} {d : DL.D} : (step heard left d).length ≤ left.length + 1 := by
  unfold step
  split
  · rw [List.length_append]; exact Nat.le_refl _
  · omega
theorem due_take {sent heard : List DL.D} : ∀ i, (∀ x ∈ dueL (sent.take i) heard, x ∈ sent) ∧ (dueL (sent.take i) heard).length ≤ i := by
  intro i
  induction i with
  | zero => exact ⟨fun x h => by simp [dueL] at h, by simp [dueL]⟩
  | succ i ih =>
    cases hd : sent[i]? with
    | none =>
      have : sent.take (i + 1) = sent.take i := by rw [List.take_add_one, hd]; simp
      rw [this]
      exact ⟨ih.1, Nat.le_succ_of_le ih.2⟩
    | some d =>
      have : dueL (sent.take (i + 1)) heard = step heard (dueL (sent.take i) heard) d := by
        unfold dueL
        rw [List.take_add_one, hd, List.foldl_append]; rfl
      rw [this]
      refine ⟨fun x h => ?_, Nat.le_trans step_len (Nat.succ_le_succ ih.2)⟩
      rcases step_mem h with h | rfl
      · exact ih.1 x h
      · exact List.mem_of_getElem? hd
theorem due_step {sent heard : List DL.D} {i : Nat} {d : DL.D} (hd : sent[i]? = some d) : dueL (sent.take (i + 1)) heard = step heard (dueL (sent.take i) heard) d := by
  unfold dueL
  rw [List.take_add_one, hd, List.foldl_append]; rfl
/-- x not in xs, of data that fit -/
theorem notIn_lst {n : Bool} {k b : Nat} {x : DL.D} {xs : List DL.D} (h : Fit k b x) (hs : ∀ z ∈ xs, Fit k b z) (hk : k + 1 ≤ 64) : inDV n x (.lst xs) = some (.sh (.bl (if n then !(xs.any fun z => eqv z x) else xs.any fun z => eqv z x))) := by
  have f := Fits.of hs
  unfold inDV inD
  have c : cmpOk x (.lst xs) = true ∧ dep x ≤ 64 ∧ deps xs + 1 ≤ 64 := by
    refine ⟨?_, Nat.le_trans h.dep (by omega), Nat.le_trans (Nat.succ_le_succ f.dep) hk⟩
    unfold cmpOk
    rw [h.nd, show nd (.lst xs) = true from f.nd, decide_eq_true (Nat.le_trans h.dep (by omega))]
    rfl
  simp only [if_pos c, Option.map_some]
end K22
set_option Elab.async false
set_option linter.all false
set_option maxRecDepth 100000
set_option maxHeartbeats 2000000
namespace K22
open PySem PySem.Spec PyProof.Rows L2 DL
theorem store_eq : eqv (.tup [.str (Str.ofString "store")]) (.tup [.str (Str.ofString "store")]) = true := by
  unfold eqv
  simp only [toP, toPs]
  unfold PyData.eqv PyData.eqvAll
  unfold PyData.eqv PyData.eqvAll
  simp
theorem store_fit : Fit 1 20 (.tup [.str (Str.ofString "store")]) := Fit.tup (k := 0) (b := 10) (fun d hd => by rw [List.mem_singleton.mp hd]; exact Fit.str (by decide +kernel) (by decide +kernel)) (by decide)
theorem w_goes {ρ : DL.Env} {S : Src} {E : Po DL.D} {os : List Opd} {Q : Po DV} {ρL : DL.Env} {w : Str} {ps : List DL.D} (hl : lendR os ρ = some ([.tup (.str w :: ps)], ρL)) (hd : Let (.tup (.str w :: ps))) (q : ∀ g, (∀ S, F_goes_to [.tup (.str w :: ps)] S = some (.ret (.sh g) S)) → Fit 6 6000 g → goesL w g → Q (.sh g) ρ S) : wp (callF F_goes_to os) ρ S Q E := by
  obtain ⟨g, g1, g2, g3⟩ := goes_ok hd
  refine wq_callF hl (g1 S) ?_
  rw [g2.purV]
  exact q g g1 g2 g3
theorem w_isA {ρ : DL.Env} {S : Src} {E : Po DL.D} {os : List Opd} {Q : Po DV} {ρL : DL.Env} {d e : DL.D} (hl : lendR os ρ = some ([d, e], ρL)) (hd : Let d) (he : Let e) (q : Q (.sh (.bl (ansC d e))) ρ S) : wp (callF F_is_answer os) ρ S Q E := by
  refine wq_callF hl (ans_is hd he S) ?_
  exact q
theorem w_lawA {ρ : DL.Env} {S : Src} {E : Po DL.D} {os : List Opd} {Q : Po DV} {ρL : DL.Env} {d e : DL.D} (hl : lendR os ρ = some ([d, e], ρL)) (hd : Let d) (he : Let e) (q : Q (.sh (.bl (ansC d e))) ρ S) : wp (callF F__law_answers os) ρ S Q E := by
  refine wq_callF hl (ans_law hd he S) ?_
  exact q
theorem due_let {sent heard : List DL.D} (hs : ∀ d ∈ sent, Let d) (i : Nat) : ∀ x ∈ dueL (sent.take i) heard, Fit 6 21848 x := fun x h => (hs x ((due_take i).1 x h)).fit
theorem unans_ok {sent heard : List DL.D} (hs : ∀ d ∈ sent, Let d) (hh : ∀ d ∈ heard, Let d) (ls : sent.length ≤ 1000) {X Y : DL.D} (hX : X = .lst sent ∨ X = .tup sent) (hY : Y = .lst heard ∨ Y = .tup heard) (S : Src) : F_unanswered [X, Y] S = some (.ret (.sh (.tup (dueL sent heard))) S) := by
  refine exact_of ?_
  unfold m_unanswered
  have sX : DL.seqD X = some sent := by rcases hX with rfl | rfl <;> rfl
  have sY : DL.seqD Y = some heard := by rcases hY with rfl | rfl <;> rfl
  refine seqI (fun ρ S' => S' = S ∧ ρ = [some (.sh X), some (.sh Y), some (.ow (.lst [])), none, none]) ?_ ?_
  · simp only [wq_bind, wq_pure, wq_of, wq_mC, wq_opd, wq_mSlot, wq_resV, wq_resS, wq_mSet, wq_gN, wq_mNx, wq_mIf, wq_seq, wq_asg, wq_ret, wq_drop, wq_op, wq_k1, wq_mB, wq_tru, wq_not, wq_and, wq_or, wq_andV, wq_nil, wq_cons, wq_keep, wq_tup, wq_lst, wq_resL0, wq_resL1, wq_bui, wq_pNo, wq_pIs, wq_sl, wq_call, wq_sq, wq_st, wq_rg, wq_par, wq_var, wq_lc, wq_tg, wq_ag, List.map_cons, List.map_nil, List.cons_append, List.nil_append, List.length_cons, List.length_nil, List.replicate, Nat.reduceAdd, Nat.reduceSub, Nat.sub_zero, List.getElem?_cons_zero, List.getElem?_cons_succ, List.set_cons_zero, List.set_cons_succ, Option.some.injEq, exists_eq_left', exists_eq_left, DV.d, lendR, DL.asB, DL.intD, DL.op1, DL.op2', DL.seqD, w_m1, eqD_int, eqD_str, ltI_eq, subD_eq, addD_int, pow12, lenD_lst, lenD_tup, lenD_str, DL.strO, decide_eq_true_eq, decide_eq_false_iff_not]
    exact ⟨by decide, trivial, trivial, trivial⟩
  rintro ρ S1 ⟨rfl, rfl⟩
  refine seqI (fun ρ S' => S' = S1 ∧ ∃ x3 x4, ρ = [some (.sh X), some (.sh Y), some (.ow (.lst (dueL sent heard))), x3, x4]) ?_ ?_
  · rw [wq_bind, wq_sq, wq_var]
    refine ⟨.sh X, rfl, sent, sX, ?_⟩
    refine wq_for (I := fun i ρ S' => S' = S1 ∧ ∃ x3 x4, ρ = [some (.sh X), some (.sh Y), some (.ow (.lst (dueL (sent.take i) heard))), x3, x4]) ⟨rfl, none, none, rfl⟩ (fun i d ρ S2 hd hI => ?_) (fun ρ S2 hI => ?_)
    · obtain ⟨rfl, x3, x4, rfl⟩ := hI
      have hm := List.mem_of_getElem? hd
      have li : i < sent.length := (List.getElem?_eq_some_iff.mp hd).1
      have dl := hs d hm
      obtain ⟨w, t, ps, rfl, ht, _⟩ := dl.ex
      rw [due_step hd]
      obtain ⟨left, hleft⟩ : ∃ left, left = dueL (sent.take i) heard := ⟨_, rfl⟩
      have fl : ∀ x ∈ left, Fit 6 21848 x := by rw [hleft]; exact due_let hs i
      have ll : left.length ≤ i := by rw [hleft]; exact (due_take i).2
      rw [← hleft]
      simp only [wq_gN, List.set_cons_succ, List.set_cons_zero]
      refine wp_mono (m := mSeq _ mNx) (Q := fun f ρ2 S3 => f = .nx ∧ S3 = S2 ∧ ∃ x3 x4, ρ2 = [some (.sh X), some (.sh Y), some (.ow (.lst (step heard left (.tup (.str w :: ps))))), x3, x4]) (E := E0') ?_ (fun f ρ2 S3 h => h) fun _ _ _ z => z
      rw [wq_seq, wq_mIf, wq_and]
      simp only [wq_bind, wq_pure, wq_of, wq_mC, wq_opd, wq_mSlot, wq_resV, wq_resS, wq_mSet, wq_gN, wq_mNx, wq_mIf, wq_seq, wq_asg, wq_ret, wq_drop, wq_op, wq_k1, wq_mB, wq_tru, wq_not, wq_and, wq_or, wq_andV, wq_nil, wq_cons, wq_keep, wq_tup, wq_lst, wq_resL0, wq_resL1, wq_bui, wq_pNo, wq_pIs, wq_sl, wq_call, wq_sq, wq_st, wq_rg, wq_par, wq_var, wq_lc, wq_tg, wq_ag, List.map_cons, List.map_nil, List.cons_append, List.nil_append, List.length_cons, List.length_nil, List.replicate, Nat.reduceAdd, Nat.reduceSub, Nat.sub_zero, List.getElem?_cons_zero, List.getElem?_cons_succ, List.set_cons_zero, List.set_cons_succ, Option.some.injEq, exists_eq_left', exists_eq_left, DV.d, lendR, DL.asB, DL.intD, DL.op1, DL.op2', DL.seqD, w_m1, eqD_int, eqD_str, ltI_eq, subD_eq, addD_int, pow12, lenD_lst, lenD_tup, lenD_str, DL.strO, decide_eq_true_eq, decide_eq_false_iff_not]
      refine w_goes rfl dl fun g g1 g2 g3 => ?_
      simp only [wq_bind, wq_pure, wq_of, wq_mC, wq_opd, wq_mSlot, wq_resV, wq_resS, wq_mSet, wq_gN, wq_mNx, wq_mIf, wq_seq, wq_asg, wq_ret, wq_drop, wq_op, wq_k1, wq_mB, wq_tru, wq_not, wq_and, wq_or, wq_andV, wq_nil, wq_cons, wq_keep, wq_tup, wq_lst, wq_resL0, wq_resL1, wq_bui, wq_pNo, wq_pIs, wq_sl, wq_call, wq_sq, wq_st, wq_rg, wq_par, wq_var, wq_lc, wq_tg, wq_ag, List.map_cons, List.map_nil, List.cons_append, List.nil_append, List.length_cons, List.length_nil, List.replicate, Nat.reduceAdd, Nat.reduceSub, Nat.sub_zero, List.getElem?_cons_zero, List.getElem?_cons_succ, List.set_cons_zero, List.set_cons_succ, Option.some.injEq, exists_eq_left', exists_eq_left, DV.d, lendR, DL.asB, DL.intD, DL.op1, DL.op2', DL.seqD, w_m1, eqD_int, eqD_str, ltI_eq, subD_eq, addD_int, pow12, lenD_lst, lenD_tup, lenD_str, DL.strO, decide_eq_true_eq, decide_eq_false_iff_not]
      refine ⟨(by show 1 ≤ sizeLine; decide), ?_⟩
      rw [g2.eqD store_fit (.inl (by decide))]
      simp only [Option.some.injEq, exists_eq_left']
      obtain ⟨d, hdd⟩ : ∃ d, d = DL.D.tup (.str w :: ps) := ⟨_, rfl⟩
      have stp : ∀ {a b : Bool}, (left.any fun z => eqv z (.tup (.str w :: ps))) = a → (heard.any fun e => ansC (.tup (.str w :: ps)) e) = b → step heard left (.tup (.str w :: ps)) = if decide (w ∈ asks6) && (!a && !b) then left ++ [.tup (.str w :: ps)] else left := fun ha hb => by
        unfold step headS
        rw [ha, hb]
      have tl : left.length < sizeLine := few (by omega)
      by_cases hw : w ∈ asks6
      · have tg : eqv g (.tup [.str (Str.ofString "store")]) = true := by rw [g3.1 hw]; exact store_eq
        refine ⟨fun _ => ?_, (fun z => by rw [tg] at z; cases z)⟩
        refine ⟨_, notIn_lst (n := true) dl.fit fl (by decide), _, rfl, fun hb => ?_, fun hb => ?_⟩
        · have hb : (left.any fun z => eqv z (.tup (.str w :: ps))) = false := by simpa using hb
          refine ⟨heard, sY, ?_⟩
          refine wq_ag1 (p := fun e => ansC (.tup (.str w :: ps)) e) (fun e he => ?_) ?_
          · simp only [wq_bind, wq_pure, wq_of, wq_mC, wq_opd, wq_mSlot, wq_resV, wq_resS, wq_mSet, wq_gN, wq_mNx, wq_mIf, wq_seq, wq_asg, wq_ret, wq_drop, wq_op, wq_k1, wq_mB, wq_tru, wq_not, wq_and, wq_or, wq_andV, wq_nil, wq_cons, wq_keep, wq_tup, wq_lst, wq_resL0, wq_resL1, wq_bui, wq_pNo, wq_pIs, wq_sl, wq_call, wq_sq, wq_st, wq_rg, wq_par, wq_var, wq_lc, wq_tg, wq_ag, List.map_cons, List.map_nil, List.cons_append, List.nil_append, List.length_cons, List.length_nil, List.replicate, Nat.reduceAdd, Nat.reduceSub, Nat.sub_zero, List.getElem?_cons_zero, List.getElem?_cons_succ, List.set_cons_zero, List.set_cons_succ, Option.some.injEq, exists_eq_left', exists_eq_left, DV.d, lendR, DL.asB, DL.intD, DL.op1, DL.op2', DL.seqD, w_m1, eqD_int, eqD_str, ltI_eq, subD_eq, addD_int, pow12, lenD_lst, lenD_tup, lenD_str, DL.strO, decide_eq_true_eq, decide_eq_false_iff_not]
            refine w_isA rfl dl (hh e he) ?_
            refine ⟨?_, ?_, ?_⟩ <;> first | rfl | trivial
          · refine ⟨_, rfl, fun hc => ?_, fun hc => ?_⟩
            · have hc : (heard.any fun e => ansC (.tup (.str w :: ps)) e) = false := by simpa using hc
              refine wq_meth (d := .lst left) rfl rfl ?_
              simp only [wq_bind, wq_pure, wq_of, wq_mC, wq_opd, wq_mSlot, wq_resV, wq_resS, wq_mSet, wq_gN, wq_mNx, wq_mIf, wq_seq, wq_asg, wq_ret, wq_drop, wq_op, wq_k1, wq_mB, wq_tru, wq_not, wq_and, wq_or, wq_andV, wq_nil, wq_cons, wq_keep, wq_tup, wq_lst, wq_resL0, wq_resL1, wq_bui, wq_pNo, wq_pIs, wq_sl, wq_call, wq_sq, wq_st, wq_rg, wq_par, wq_var, wq_lc, wq_tg, wq_ag, List.map_cons, List.map_nil, List.cons_append, List.nil_append, List.length_cons, List.length_nil, List.replicate, Nat.reduceAdd, Nat.reduceSub, Nat.sub_zero, List.getElem?_cons_zero, List.getElem?_cons_succ, List.set_cons_zero, List.set_cons_succ, Option.some.injEq, exists_eq_left', exists_eq_left, DV.d, lendR, DL.asB, DL.intD, DL.op1, DL.op2', DL.seqD, w_m1, eqD_int, eqD_str, ltI_eq, subD_eq, addD_int, pow12, lenD_lst, lenD_tup, lenD_str, DL.strO, decide_eq_true_eq, decide_eq_false_iff_not]
              refine ⟨.lst left, rfl, _, appF_ok tl, trivial, trivial, some (.sh (.tup (.str w :: ps))), x4, ?_⟩
              rw [stp hb hc, decide_eq_true hw]
              rfl
            · have hc : (heard.any fun e => ansC (.tup (.str w :: ps)) e) = true := by simpa using hc
              refine ⟨trivial, rfl, some (.sh (.tup (.str w :: ps))), x4, ?_⟩
              rw [stp hb hc, decide_eq_true hw]
              rfl
        · have hb : (left.any fun z => eqv z (.tup (.str w :: ps))) = true := by simpa using hb
          refine ⟨trivial, trivial, some (.sh (.tup (.str w :: ps))), x4, ?_⟩
          rw [stp hb rfl, decide_eq_true hw]
          rfl
      · refine ⟨(fun z => by rw [g3.2 hw] at z; cases z), fun _ => ⟨(fun z => by cases z), fun _ => ⟨trivial, trivial, some (.sh (.tup (.str w :: ps))), x4, ?_⟩⟩⟩
        rw [stp rfl rfl, decide_eq_false hw]
        rfl
    · obtain ⟨rfl, x3, x4, rfl⟩ := hI
      rw [List.take_length]
      exact ⟨rfl, rfl, x3, x4, rfl⟩
  rintro ρ S2 ⟨rfl, x3, x4, rfl⟩
  simp only [wq_bind, wq_pure, wq_of, wq_mC, wq_opd, wq_mSlot, wq_resV, wq_resS, wq_mSet, wq_gN, wq_mNx, wq_mIf, wq_seq, wq_asg, wq_ret, wq_drop, wq_op, wq_k1, wq_mB, wq_tru, wq_not, wq_and, wq_or, wq_andV, wq_nil, wq_cons, wq_keep, wq_tup, wq_lst, wq_resL0, wq_resL1, wq_bui, wq_pNo, wq_pIs, wq_sl, wq_call, wq_sq, wq_st, wq_rg, wq_par, wq_var, wq_lc, wq_tg, wq_ag, List.map_cons, List.map_nil, List.cons_append, List.nil_append, List.length_cons, List.length_nil, List.replicate, Nat.reduceAdd, Nat.reduceSub, Nat.sub_zero, List.getElem?_cons_zero, List.getElem?_cons_succ, List.set_cons_zero, List.set_cons_succ, Option.some.injEq, exists_eq_left', exists_eq_left, DV.d, lendR, DL.asB, DL.intD, DL.op1, DL.op2', DL.seqD, w_m1, eqD_int, eqD_str, ltI_eq, subD_eq, addD_int, pow12, lenD_lst, lenD_tup, lenD_str, DL.strO, decide_eq_true_eq, decide_eq_false_iff_not]
  exact ⟨_, tupF_lst, _, rfl, rfl, trivial⟩
end K22
set_option Elab.async false
set_option linter.all false
set_option maxRecDepth 100000
set_option maxHeartbeats 2000000
namespace K22
open PySem PySem.Spec PyProof.Rows L2 DL
mutual
theorem eqv_refl : ∀ d : DL.D, nd d = true → eqv d d = true
  | .non, _ => by unfold eqv; simp only [toP]; unfold PyData.eqv; rfl
  | .bl b, _ => by unfold eqv; simp only [toP]; unfold PyData.eqv; simp
  | .int b, _ => by unfold eqv; simp only [toP]; unfold PyData.eqv; simp
  | .str b, _ => by unfold eqv; simp only [toP]; unfold PyData.eqv; simp
  | .tup xs, h => by unfold eqv; simp only [toP]; unfold PyData.eqv; exact eqvs_refl xs (by simpa only [nd] using h)
  | .lst xs, h => by unfold eqv; simp only [toP]; unfold PyData.eqv; exact eqvs_refl xs (by simpa only [nd] using h)
  | .dic _, h => by simp only [nd] at h; cases h
  | .src, h => by simp only [nd] at h; cases h
theorem eqvs_refl : ∀ ds : List DL.D, nds ds = true → PyData.eqvAll (toPs ds) (toPs ds) = true
  | [], _ => by simp [toPs, PyData.eqvAll]
  | d :: ds, h => by
    simp only [nds, Bool.and_eq_true] at h
    simp only [toPs]
    unfold PyData.eqvAll
    rw [eqvs_refl ds h.2, show PyData.eqv (toP d) (toP d) = true from eqv_refl d h.1]; rfl
end
theorem neD_refl {k b : Nat} {d : DL.D} (h : Fit k b d) (hk : k ≤ 64) : neD d d = some (.sh (.bl false)) := by
  rw [h.neD h (.inl hk), eqv_refl d h.nd]; rfl
theorem eqv_nil {xs : List DL.D} : eqv (.tup xs) (.tup []) = xs.isEmpty := by
  unfold eqv
  simp only [toP, toPs]
  unfold PyData.eqv
  cases xs with
  | nil => simp [toPs, PyData.eqvAll]
  | cons x r => simp [toPs, PyData.eqvAll]
/-- where the law says a letter goes -/
noncomputable def goesC (d : DL.D) : DL.D := open Classical in if h : ∃ g, (∀ S, F_goes_to [d] S = some (.ret (.sh g) S)) ∧ Fit 6 6000 g then h.choose else .non
theorem goesC_ok {d : DL.D} (hd : Let d) : (∀ S, F_goes_to [d] S = some (.ret (.sh (goesC d)) S)) ∧ Fit 6 6000 (goesC d) := by
  have h : ∃ g, (∀ S, F_goes_to [d] S = some (.ret (.sh g) S)) ∧ Fit 6 6000 g := by
    obtain ⟨w, t, ps, rfl, _⟩ := hd.ex
    obtain ⟨g, a, b, _⟩ := goes_ok hd
    exact ⟨g, a, b⟩
  unfold goesC
  rw [dif_pos h]
  exact h.choose_spec
theorem w_goesC {ρ : DL.Env} {S : Src} {E : Po DL.D} {os : List Opd} {Q : Po DV} {ρL : DL.Env} {d : DL.D} (hl : lendR os ρ = some ([d], ρL)) (hd : Let d) (q : Q (.sh (goesC d)) ρ S) : wp (callF F_goes_to os) ρ S Q E := by
  obtain ⟨g1, g2⟩ := goesC_ok hd
  refine wq_callF hl (g1 S) ?_
  rw [g2.purV]
  exact q
theorem whom_ok {air : List DL.D} (ha : ∀ d ∈ air, Let d) (la : air.length ≤ 1000) {g : DL.D} (hg : Fit 6 6000 g) (S : Src) : F_for_whom [.tup air, g] S = some (.ret (.sh (.tup (air.filter fun d => eqv (goesC d) g))) S) := by
  refine exact_of ?_
  unfold m_for_whom
  simp only [wq_bind, wq_pure, wq_of, wq_mC, wq_opd, wq_mSlot, wq_resV, wq_resS, wq_mSet, wq_gN, wq_mNx, wq_mIf, wq_seq, wq_asg, wq_ret, wq_drop, wq_op, wq_k1, wq_mB, wq_tru, wq_not, wq_and, wq_or, wq_andV, wq_nil, wq_cons, wq_keep, wq_tup, wq_lst, wq_resL0, wq_resL1, wq_bui, wq_pNo, wq_pIs, wq_sl, wq_call, wq_sq, wq_st, wq_rg, wq_par, wq_var, wq_lc, wq_tg, wq_ag, List.map_cons, List.map_nil, List.cons_append, List.nil_append, List.length_cons, List.length_nil, List.replicate, Nat.reduceAdd, Nat.reduceSub, Nat.sub_zero, List.getElem?_cons_zero, List.getElem?_cons_succ, List.set_cons_zero, List.set_cons_succ, Option.some.injEq, exists_eq_left', exists_eq_left, DV.d, lendR, DL.asB, DL.intD, DL.op1, DL.op2', DL.seqD, w_m1, eqD_int, eqD_str, ltI_eq, subD_eq, addD_int, pow12, lenD_lst, lenD_tup, lenD_str, DL.strO, decide_eq_true_eq, decide_eq_false_iff_not]
  refine wq_lcF (p := fun d => eqv (goesC d) g) (f := id) (K := fun acc => DV.sh (.tup acc)) (Nat.le_of_lt (few la)) (fun d hd => ?_) (fun d hd _ => ?_) ?_
  · simp only [wq_bind, wq_pure, wq_of, wq_mC, wq_opd, wq_mSlot, wq_resV, wq_resS, wq_mSet, wq_gN, wq_mNx, wq_mIf, wq_seq, wq_asg, wq_ret, wq_drop, wq_op, wq_k1, wq_mB, wq_tru, wq_not, wq_and, wq_or, wq_andV, wq_nil, wq_cons, wq_keep, wq_tup, wq_lst, wq_resL0, wq_resL1, wq_bui, wq_pNo, wq_pIs, wq_sl, wq_call, wq_sq, wq_st, wq_rg, wq_par, wq_var, wq_lc, wq_tg, wq_ag, List.map_cons, List.map_nil, List.cons_append, List.nil_append, List.length_cons, List.length_nil, List.replicate, Nat.reduceAdd, Nat.reduceSub, Nat.sub_zero, List.getElem?_cons_zero, List.getElem?_cons_succ, List.set_cons_zero, List.set_cons_succ, Option.some.injEq, exists_eq_left', exists_eq_left, DV.d, lendR, DL.asB, DL.intD, DL.op1, DL.op2', DL.seqD, w_m1, eqD_int, eqD_str, ltI_eq, subD_eq, addD_int, pow12, lenD_lst, lenD_tup, lenD_str, DL.strO, decide_eq_true_eq, decide_eq_false_iff_not]
    refine w_goesC rfl (ha d hd) ?_
    simp only [wq_bind, wq_pure, wq_of, wq_mC, wq_opd, wq_mSlot, wq_resV, wq_resS, wq_mSet, wq_gN, wq_mNx, wq_mIf, wq_seq, wq_asg, wq_ret, wq_drop, wq_op, wq_k1, wq_mB, wq_tru, wq_not, wq_and, wq_or, wq_andV, wq_nil, wq_cons, wq_keep, wq_tup, wq_lst, wq_resL0, wq_resL1, wq_bui, wq_pNo, wq_pIs, wq_sl, wq_call, wq_sq, wq_st, wq_rg, wq_par, wq_var, wq_lc, wq_tg, wq_ag, List.map_cons, List.map_nil, List.cons_append, List.nil_append, List.length_cons, List.length_nil, List.replicate, Nat.reduceAdd, Nat.reduceSub, Nat.sub_zero, List.getElem?_cons_zero, List.getElem?_cons_succ, List.set_cons_zero, List.set_cons_succ, Option.some.injEq, exists_eq_left', exists_eq_left, DV.d, lendR, DL.asB, DL.intD, DL.op1, DL.op2', DL.seqD, w_m1, eqD_int, eqD_str, ltI_eq, subD_eq, addD_int, pow12, lenD_lst, lenD_tup, lenD_str, DL.strO, decide_eq_true_eq, decide_eq_false_iff_not]
    refine ⟨_, (goesC_ok (ha d hd)).2.eqD hg (.inl (by decide)), _, rfl, ?_⟩
    refine ⟨?_, ?_, ?_⟩ <;> first | rfl | trivial
  · simp only [wq_bind, wq_pure, wq_of, wq_mC, wq_opd, wq_mSlot, wq_resV, wq_resS, wq_mSet, wq_gN, wq_mNx, wq_mIf, wq_seq, wq_asg, wq_ret, wq_drop, wq_op, wq_k1, wq_mB, wq_tru, wq_not, wq_and, wq_or, wq_andV, wq_nil, wq_cons, wq_keep, wq_tup, wq_lst, wq_resL0, wq_resL1, wq_bui, wq_pNo, wq_pIs, wq_sl, wq_call, wq_sq, wq_st, wq_rg, wq_par, wq_var, wq_lc, wq_tg, wq_ag, List.map_cons, List.map_nil, List.cons_append, List.nil_append, List.length_cons, List.length_nil, List.replicate, Nat.reduceAdd, Nat.reduceSub, Nat.sub_zero, List.getElem?_cons_zero, List.getElem?_cons_succ, List.set_cons_zero, List.set_cons_succ, Option.some.injEq, exists_eq_left', exists_eq_left, DV.d, lendR, DL.asB, DL.intD, DL.op1, DL.op2', DL.seqD, w_m1, eqD_int, eqD_str, ltI_eq, subD_eq, addD_int, pow12, lenD_lst, lenD_tup, lenD_str, DL.strO, decide_eq_true_eq, decide_eq_false_iff_not]
    refine ⟨?_, ?_, ?_⟩ <;> first | rfl | trivial
  · rw [List.map_id]
    exact ⟨_, rfl, rfl, rfl⟩
def dicF : List (Key × DL.D) := [(.inr "take", .tup [.str "epoch", .str "moment"]), (.inr "grant", .tup [.str "fence", .str "holds", .str "moment"]), (.inr "free", .tup [.str "freed", .str "holds", .str "moment"]), (.inr "bar", .tup [.str "barred", .str "moment"]), (.inr "end", .tup [.str "ends", .str "holds", .str "moment"])]
theorem fields_ne : ∀ w ∈ words, neD ((t_FIELDS.lookup w).getD (.tup [])) ((getD dicF (.inr w)).getD (.tup [])) = some (.sh (.bl false)) ∧ pur ((t_FIELDS.lookup w).getD (.tup [])) = true := by
  intro w hw
  unfold words srtT at hw
  simp only [List.map_cons, List.map_nil, List.mem_cons, List.not_mem_nil, or_false] at hw
  rcases hw with rfl | rfl | rfl | rfl | rfl | rfl | rfl | rfl | rfl | rfl | rfl | rfl | rfl | rfl | rfl <;> exact ⟨rfl, rfl⟩
theorem fields_ok {w : Str} {ps : List DL.D} (S : Src) : F_fields_of [.tup (.str w :: ps)] S = some (.ret (.sh ((t_FIELDS.lookup w).getD (.tup []))) S) := by
  refine exact_of ?_
  unfold m_fields_of mKG
  simp only [wq_bind, wq_pure, wq_of, wq_mC, wq_opd, wq_mSlot, wq_resV, wq_resS, wq_mSet, wq_gN, wq_mNx, wq_mIf, wq_seq, wq_asg, wq_ret, wq_drop, wq_op, wq_k1, wq_mB, wq_tru, wq_not, wq_and, wq_or, wq_andV, wq_nil, wq_cons, wq_keep, wq_tup, wq_lst, wq_resL0, wq_resL1, wq_bui, wq_pNo, wq_pIs, wq_sl, wq_call, wq_sq, wq_st, wq_rg, wq_par, wq_var, wq_lc, wq_tg, wq_ag, List.map_cons, List.map_nil, List.cons_append, List.nil_append, List.length_cons, List.length_nil, List.replicate, Nat.reduceAdd, Nat.reduceSub, Nat.sub_zero, List.getElem?_cons_zero, List.getElem?_cons_succ, List.set_cons_zero, List.set_cons_succ, Option.some.injEq, exists_eq_left', exists_eq_left, DV.d, lendR, DL.asB, DL.intD, DL.op1, DL.op2', DL.seqD, w_m1, eqD_int, eqD_str, ltI_eq, subD_eq, addD_int, pow12, lenD_lst, lenD_tup, lenD_str, DL.strO, decide_eq_true_eq, decide_eq_false_iff_not]
  simp only [ix0, Option.some.injEq, exists_eq_left']
  try simp only [wq_bind, wq_pure, wq_of, wq_mC, wq_opd, wq_mSlot, wq_resV, wq_resS, wq_mSet, wq_gN, wq_mNx, wq_mIf, wq_seq, wq_asg, wq_ret, wq_drop, wq_op, wq_k1, wq_mB, wq_tru, wq_not, wq_and, wq_or, wq_andV, wq_nil, wq_cons, wq_keep, wq_tup, wq_lst, wq_resL0, wq_resL1, wq_bui, wq_pNo, wq_pIs, wq_sl, wq_call, wq_sq, wq_st, wq_rg, wq_par, wq_var, wq_lc, wq_tg, wq_ag, List.map_cons, List.map_nil, List.cons_append, List.nil_append, List.length_cons, List.length_nil, List.replicate, Nat.reduceAdd, Nat.reduceSub, Nat.sub_zero, List.getElem?_cons_zero, List.getElem?_cons_succ, List.set_cons_zero, List.set_cons_succ, Option.some.injEq, exists_eq_left', exists_eq_left, DV.d, lendR, DL.asB, DL.intD, DL.op1, DL.op2', DL.seqD, w_m1, eqD_int, eqD_str, ltI_eq, subD_eq, addD_int, pow12, lenD_lst, lenD_tup, lenD_str, DL.strO, decide_eq_true_eq, decide_eq_false_iff_not]
  refine ⟨Nat.zero_le _, ?_⟩
  try simp only [wq_bind, wq_pure, wq_of, wq_mC, wq_opd, wq_mSlot, wq_resV, wq_resS, wq_mSet, wq_gN, wq_mNx, wq_mIf, wq_seq, wq_asg, wq_ret, wq_drop, wq_op, wq_k1, wq_mB, wq_tru, wq_not, wq_and, wq_or, wq_andV, wq_nil, wq_cons, wq_keep, wq_tup, wq_lst, wq_resL0, wq_resL1, wq_bui, wq_pNo, wq_pIs, wq_sl, wq_call, wq_sq, wq_st, wq_rg, wq_par, wq_var, wq_lc, wq_tg, wq_ag, List.map_cons, List.map_nil, List.cons_append, List.nil_append, List.length_cons, List.length_nil, List.replicate, Nat.reduceAdd, Nat.reduceSub, Nat.sub_zero, List.getElem?_cons_zero, List.getElem?_cons_succ, List.set_cons_zero, List.set_cons_succ, Option.some.injEq, exists_eq_left', exists_eq_left, DV.d, lendR, DL.asB, DL.intD, DL.op1, DL.op2', DL.seqD, w_m1, eqD_int, eqD_str, ltI_eq, subD_eq, addD_int, pow12, lenD_lst, lenD_tup, lenD_str, DL.strO, decide_eq_true_eq, decide_eq_false_iff_not]
  exact ⟨_, rfl, _, rfl, rfl, trivial⟩
theorem modD_ok {i j : Int} (h : 0 < j) : modD (.int i) (.int j) = some (.sh (.int (i % j))) := by
  show (if 0 < j then some (DL.D.int (i % j)) else none).map _ = _
  rw [if_pos h]; rfl
def outD (air : List DL.D) (p : Int) (x : DL.D) : DL.D := .tup [x, .tup (cutL air none (some p) ++ cutL air (some (p + 1)) none)]
theorem out_ok {air : List DL.D} (la : air.length ≤ 1000) (ne : air ≠ []) {k p : Int} {x : DL.D} (hp : p = k % air.length) (hx : ixD (.tup air) (.int p) = some (.sh x)) (S : Src) : F_taken_out [.tup air, .int k] S = some (.ret (.sh (outD air p x)) S) := by
  have l0 : 0 < air.length := List.length_pos_iff.mpr ne
  refine exact_of ?_
  unfold m_taken_out
  simp only [wq_bind, wq_pure, wq_of, wq_mC, wq_opd, wq_mSlot, wq_resV, wq_resS, wq_mSet, wq_gN, wq_mNx, wq_mIf, wq_seq, wq_asg, wq_ret, wq_drop, wq_op, wq_k1, wq_mB, wq_tru, wq_not, wq_and, wq_or, wq_andV, wq_nil, wq_cons, wq_keep, wq_tup, wq_lst, wq_resL0, wq_resL1, wq_bui, wq_pNo, wq_pIs, wq_sl, wq_call, wq_sq, wq_st, wq_rg, wq_par, wq_var, wq_lc, wq_tg, wq_ag, List.map_cons, List.map_nil, List.cons_append, List.nil_append, List.length_cons, List.length_nil, List.replicate, Nat.reduceAdd, Nat.reduceSub, Nat.sub_zero, List.getElem?_cons_zero, List.getElem?_cons_succ, List.set_cons_zero, List.set_cons_succ, Option.some.injEq, exists_eq_left', exists_eq_left, DV.d, lendR, DL.asB, DL.intD, DL.op1, DL.op2', DL.seqD, w_m1, eqD_int, eqD_str, ltI_eq, subD_eq, addD_int, pow12, lenD_lst, lenD_tup, lenD_str, DL.strO, decide_eq_true_eq, decide_eq_false_iff_not]
  refine ⟨!air.isEmpty, rfl, ?_⟩
  have e0 : air.isEmpty = false := by cases air with | nil => exact absurd rfl ne | cons _ _ => rfl
  rw [e0]
  refine ⟨(fun z => by cases z), fun _ => ?_⟩
  refine ⟨_, modD_ok (by omega), ?_⟩
  rw [← hp]
  simp only [wq_bind, wq_pure, wq_of, wq_mC, wq_opd, wq_mSlot, wq_resV, wq_resS, wq_mSet, wq_gN, wq_mNx, wq_mIf, wq_seq, wq_asg, wq_ret, wq_drop, wq_op, wq_k1, wq_mB, wq_tru, wq_not, wq_and, wq_or, wq_andV, wq_nil, wq_cons, wq_keep, wq_tup, wq_lst, wq_resL0, wq_resL1, wq_bui, wq_pNo, wq_pIs, wq_sl, wq_call, wq_sq, wq_st, wq_rg, wq_par, wq_var, wq_lc, wq_tg, wq_ag, List.map_cons, List.map_nil, List.cons_append, List.nil_append, List.length_cons, List.length_nil, List.replicate, Nat.reduceAdd, Nat.reduceSub, Nat.sub_zero, List.getElem?_cons_zero, List.getElem?_cons_succ, List.set_cons_zero, List.set_cons_succ, Option.some.injEq, exists_eq_left', exists_eq_left, DV.d, lendR, DL.asB, DL.intD, DL.op1, DL.op2', DL.seqD, w_m1, eqD_int, eqD_str, ltI_eq, subD_eq, addD_int, pow12, lenD_lst, lenD_tup, lenD_str, DL.strO, decide_eq_true_eq, decide_eq_false_iff_not]
  refine ⟨_, hx, _, slD_tup, _, slD_tup, _, addD_tup ?_, (by show 2 ≤ sizeLine; decide), _, rfl, rfl, trivial⟩
  have c1 : ∀ (lo hi : Option Int), (cutL air lo hi).length ≤ air.length := fun lo hi => by
    unfold cutL
    rw [List.length_take, List.length_drop]; omega
  have := c1 none (some p)
  have := c1 (some (p + 1)) none
  have : sizeLine = 16777216 := sizeLine_eq
  omega
end K22
set_option Elab.async false
set_option linter.all false
set_option maxRecDepth 100000
set_option maxHeartbeats 4000000
namespace K22
open PySem PySem.Spec PyProof.Rows L2 DL
def st0 : M Fl := mAsg (mLst (aCons (opd (mC (.str "take"))) (aCons (opd (mC (.str "grant"))) (aCons (opd (mC (.str "free"))) (aCons (opd (mC (.str "bar"))) (aCons (opd (mC (.str "ask"))) (aCons (opd (mC (.str "end"))) (aNil)))))))) 2
def st1 : M Fl := mPar 3 4 (mLst (aNil)) (mLst (aNil))
def st2 : M Fl := mRg rg1 (aCons (opd (mC (.int 7))) (aNil)) >>= mFor (gN 5) (mSeq (mAsg (mCall F__law_draw_letter (aCons (mSlot 1) (aCons (mSlot 2) (aNil)))) 6) (mSeq (mAsg (mCall F__law_right_answers (aCons (mSlot 1) (aCons (mSlot 6) (aNil)))) 7) (mSeq (mAsg (mOp addD (mSlot 7) (opd (mLc [9] (mSq (mVar 7)) (gN 9) (mYes) (mCall F__law_near_answer (aCons (mSlot 1) (aCons (mSlot 9) (aNil))))))) 8) (mSeq (mAsg (mOp addD (opd (mOp addD (mSlot 8) (opd (mLc [10] (mRg rg1 (aCons (opd (mC (.int 4))) (aNil))) (gN 10) (mYes) (mCall F__law_draw_letter (aCons (mSlot 1) (aCons (opd (mCall F__law_all_words aNil)) (aNil)))))))) (opd (mLst (aCons (mSlot 6) (aNil))))) 8) (mSeq (mSq (mVar 8) >>= mFor (gN 9) (mSeq (mSq (mTup (aCons (mSlot 6) (aCons (opd (mCall F__law_draw_letter (aCons (mSlot 1) (aCons (opd (mCall F__law_all_words aNil)) (aNil))))) (aNil)))) >>= mFor (gN 11) (mSeq (mIf (mB (mOp neD (opd (mBui (op1 reprF) (aCons (opd (mCall F_is_answer (aCons (mSlot 11) (aCons (mSlot 9) (aNil))))) (aNil)))) (opd (mBui (op1 reprF) (aCons (opd (mCall F__law_answers (aCons (mSlot 11) (aCons (mSlot 9) (aNil))))) (aNil)))))) (mSeq (mRet (mC (.bl false))) (mNx)) (mNx)) (mNx))) (mNx))) (mSeq (mAsg (mOp addD (mSlot 3) (opd (mSl (opd (mLst (aCons (mSlot 6) (aCons (mSlot 6) (aCons (opd (mCall F__law_draw_letter (aCons (mSlot 1) (aCons (opd (mCall F__law_all_words aNil)) (aNil))))) (aNil)))))) (pNo) (pIs (opd (mOp addD (opd (mC (.int 1))) (opd (mCall F__law_pick (aCons (mSlot 1) (aCons (opd (mC (.int 3))) (aNil))))))))))) 3) (mSeq (mAsg (mOp addD (mSlot 4) (opd (mSl (mSlot 8) (pNo) (pIs (opd (mCall F__law_pick (aCons (mSlot 1) (aCons (opd (mC (.int 4))) (aNil))))))))) 4) (mNx))))))))
def st3 : M Fl := mPar 3 12 (mCall F__law_any_order (aCons (mSlot 1) (aCons (mSlot 3) (aNil)))) (mLst (aNil))
def st4 : M Fl := mSq (mVar 3) >>= mFor (gN 6) (mSeq (mAsg (mOp eqD (opd (mLc [9] (mSq (mVar 4)) (gN 9) (mTru (opd (mCall F__law_answers (aCons (mSlot 6) (aCons (mSlot 9) (aNil)))))) (mC (.int 1)))) (opd (mLst (aNil)))) 13) (mSeq (mAsg (mOp addD (mSlot 12) (opd (mIf (mAnd (mB (mOp (inDV false) (opd (mOp ixD (mSlot 6) (opd (mC (.int 0))))) (mSlot 2))) (mAnd (mB (mOp (inDV true) (mSlot 6) (mSlot 12))) (mTru (mSlot 13)))) (mLst (aCons (mSlot 6) (aNil))) (mLst (aNil))))) 12) (mNx)))
def st5 : M Fl := mIf (mB (mOp neD (opd (mBui (op1 reprF) (aCons (opd (mLst (aCons (opd (mCall F_unanswered (aCons (mSlot 3) (aCons (mSlot 4) (aNil))))) (aCons (opd (mCall F_unanswered (aCons (opd (mBui (op1 tupF) (aCons (mSlot 3) (aNil)))) (aCons (opd (mBui (op1 tupF) (aCons (mSlot 4) (aNil)))) (aNil))))) (aNil))))) (aNil)))) (opd (mBui (op1 reprF) (aCons (opd (mOp mulD (opd (mLst (aCons (opd (mBui (op1 tupF) (aCons (mSlot 12) (aNil)))) (aNil)))) (opd (mC (.int 2))))) (aNil)))))) (mSeq (mRet (mC (.bl false))) (mNx)) (mNx)
def st6 : M Fl := mAsg (mDisp (pCons (opd (mC (.str "take"))) (opd (mTup (aCons (opd (mC (.str "epoch"))) (aCons (opd (mC (.str "moment"))) (aNil))))) (pCons (opd (mC (.str "grant"))) (opd (mTup (aCons (opd (mC (.str "fence"))) (aCons (opd (mC (.str "holds"))) (aCons (opd (mC (.str "moment"))) (aNil)))))) (pCons (opd (mC (.str "free"))) (opd (mTup (aCons (opd (mC (.str "freed"))) (aCons (opd (mC (.str "holds"))) (aCons (opd (mC (.str "moment"))) (aNil)))))) (pNil))))) 14
def st7 : M Fl := mAsgH (mTup (aCons (opd (mTup (aCons (opd (mC (.str "barred"))) (aCons (opd (mC (.str "moment"))) (aNil))))) (aCons (opd (mTup (aCons (opd (mC (.str "ends"))) (aCons (opd (mC (.str "holds"))) (aCons (opd (mC (.str "moment"))) (aNil)))))) (aNil)))) (gTp 2 (gCn (gSb 14 (opd (mC (.str "bar")))) (gCn (gSb 14 (opd (mC (.str "end")))) (gNl))))
def st8 : M Fl := mSq (mOp addD (mSlot 3) (mSlot 4)) >>= mFor (gN 6) (mSeq (mIf (mB (mOp neD (opd (mCall F_fields_of (aCons (mSlot 6) (aNil)))) (opd (mGet2 (mSlot 14) (opd (mOp ixD (mSlot 6) (opd (mC (.int 0))))) (opd (mTup (aNil))))))) (mSeq (mRet (mC (.bl false))) (mNx)) (mNx)) (mNx))
def st9 : M Fl := mAsg (mSl (opd (mBui (op1 tupF) (aCons (opd (mOp addD (mSlot 4) (mSlot 3))) (aNil)))) (pNo) (pIs (opd (mCall F__law_pick (aCons (mSlot 1) (aCons (opd (mC (.int 12))) (aNil))))))) 15
def st10 : M Fl := mRg rg1 (aCons (opd (mC (.int 3))) (aNil)) >>= mFor (gN 5) (mSeq (mAsg (mCall F__law_pick (aCons (mSlot 1) (aCons (opd (mC (.int 40))) (aNil)))) 16) (mSeq (mAsg (mOp modD (opd (mBui (op1 intF) (aCons (mSlot 16) (aNil)))) (opd (mBui (op2' max2) (aCons (opd (mC (.int 1))) (aCons (opd (mBui (op1 lenD) (aCons (mSlot 15) (aNil)))) (aNil)))))) 17) (mSeq (mAsg (mIf (mB (mOp neD (mSlot 15) (opd (mTup (aNil))))) (mTup (aCons (opd (mOp ixD (mSlot 15) (mSlot 17))) (aCons (opd (mOp addD (opd (mSl (mSlot 15) (pNo) (pIs (mSlot 17)))) (opd (mSl (mSlot 15) (pIs (opd (mOp addD (mSlot 17) (opd (mC (.int 1)))))) (pNo))))) (aNil)))) (mTup (aCons (opd (mC .non)) (aCons (opd (mTup (aNil))) (aNil))))) 12) (mSeq (mIf (mB (mOp neD (opd (mBui (op1 reprF) (aCons (opd (mLst (aCons (opd (mCall F_taken_out (aCons (mSlot 15) (aCons (mSlot 16) (aNil))))) (aCons (opd (mCall F_doubled (aCons (mSlot 15) (aCons (mSlot 16) (aNil))))) (aNil))))) (aNil)))) (opd (mBui (op1 reprF) (aCons (opd (mLst (aCons (mSlot 12) (aCons (opd (mOp addD (mSlot 15) (opd (mSl (mSlot 15) (pIs (mSlot 17)) (pIs (opd (mOp addD (mSlot 17) (opd (mC (.int 1)))))))))) (aNil))))) (aNil)))))) (mSeq (mRet (mC (.bl false))) (mNx)) (mNx)) (mSeq (mSq (mLst (aCons (opd (mTup (aCons (opd (mC (.str "store"))) (aNil)))) (aCons (opd (mTup (aCons (opd (mC (.str "keeper"))) (aNil)))) (aCons (opd (mTup (aCons (opd (mC (.str "machine"))) (aCons (opd (mCall F__law_pick (aCons (mSlot 1) (aCons (opd (mC (.int 8))) (aNil))))) (aNil))))) (aNil))))) >>= mFor (gN 18) (mSeq (mIf (mB (mOp neD (opd (mCall F_for_whom (aCons (mSlot 15) (aCons (mSlot 18) (aNil))))) (opd (mBui (op1 tupF) (aCons (opd (mLc [6] (mSq (mVar 15)) (gN 6) (mB (mOp eqD (opd (mCall F_goes_to (aCons (mSlot 6) (aNil)))) (mSlot 18))) (mVar 6))) (aNil)))))) (mSeq (mRet (mC (.bl false))) (mNx)) (mNx)) (mNx))) (mNx))))))
def st11 : M Fl := mRet (mC (.bl true))
theorem m_law_eq : m_law = mSeq st0 (mSeq st1 (mSeq st2 (mSeq st3 (mSeq st4 (mSeq st5 (mSeq st6 (mSeq st7 (mSeq st8 (mSeq st9 (mSeq st10 (mSeq st11 (mNx)))))))))))) := rfl
end K22
set_option Elab.async false
set_option linter.all false
set_option maxRecDepth 100000
set_option maxHeartbeats 4000000
namespace K22
open PySem PySem.Spec PyProof.Rows L2 DL
theorem run_of {m : M Fl} {ρ : DL.Env} {S : Src} {x : DV} (h : wp m ρ S (fun f _ _ => f = .ret x) E0') : ∃ ρ' S', m ρ S = some (.ok (.ret x) ρ' S') := by
  unfold wp at h
  revert h
  cases m ρ S with
  | none => exact fun h => h.elim
  | some o => cases o with
    | ok a r t => rintro rfl; exact ⟨r, t, rfl⟩
    | ex e r t => exact fun h => h.elim
abbrev ev (a3 a4 a5 a6 a7 a8 a9 a10 a11 a12 a13 a14 a15 a16 a17 a18 : Option DV) : DL.Env := [none, some (.sh .src), some (.ow (.lst (asks6.map DL.D.str))), a3, a4, a5, a6, a7, a8, a9, a10, a11, a12, a13, a14, a15, a16, a17, a18]
theorem lets_pur {ds : List DL.D} (h : ∀ d ∈ ds, Let d) : purV (.ow (.lst ds)) = true := (Fits.of fun d hd => (h d hd).fit).pur
theorem w_right {ρ : DL.Env} {S : Src} {E : Po DL.D} {os : List Opd} {Q : Po DV} {ρL : DL.Env} {w : Str} {ps : List DL.D} (hl : lendR os ρ = some ([.src, .tup (.str w :: ps)], ρL)) (h : SrcOk S) (hw : w ∈ asks6) (hd : Let (.tup (.str w :: ps)))
    (q : ∀ es S', SrcOk S' → es.length ≤ 10 → (∀ e ∈ es, Let e) → Q (.ow (.lst es)) ρ S') : wp (callF F__law_right_answers os) ρ S Q E := by
  obtain ⟨r, S', e, es, rfl, l, hes, h1⟩ := right_ok h hw hd
  refine wq_callF hl e ?_
  rw [lets_pur hes]
  exact q es S' h1 l hes
theorem w_near {ρ : DL.Env} {S : Src} {E : Po DL.D} {os : List Opd} {Q : Po DV} {ρL : DL.Env} {d : DL.D} (hl : lendR os ρ = some ([.src, d], ρL)) (h : SrcOk S) (hd : Let d) (q : ∀ e S', SrcOk S' → Let e → Q (.sh e) ρ S') : wp (callF F__law_near_answer os) ρ S Q E := by
  obtain ⟨r, S', e, x, rfl, hx, h1⟩ := near_ok h hd
  refine wq_callF hl e ?_
  rw [hx.fit.purV]
  exact q x S' h1 hx
theorem w_all {ρ : DL.Env} {S : Src} {E : Po DL.D} {Q : Po DV} (q : Q (.ow (.lst (words.map DL.D.str))) ρ S) : wp (callF F__law_all_words []) ρ S Q E := by
  refine wq_callF rfl all_ok ?_
  rw [show purV (.ow (.lst (words.map DL.D.str))) = true from by rfl]
  exact q
theorem asks6_sub : ∀ w ∈ asks6, w ∈ words := by decide +kernel
def Laps (ρ : DL.Env) (S : Src) : Prop := SrcOk S ∧ ∃ (sent heard : List DL.D), ∃ a5 a6 a7 a8 a9 a10 a11 a12 a13 a14 a15 a16 a17 a18, ρ = ev (some (.ow (.lst sent))) (some (.ow (.lst heard))) a5 a6 a7 a8 a9 a10 a11 a12 a13 a14 a15 a16 a17 a18 ∧ sent.length ≤ 21 ∧ heard.length ≤ 21 ∧ (∀ d ∈ sent, Let d) ∧ ∀ d ∈ heard, Let d
theorem st2_ok {S2 : Src} (h2 : SrcOk S2) : wp st2 (ev (some (.ow (.lst []))) (some (.ow (.lst []))) none none none none none none none none none none none none none none) S2 (fun f ρ S => f = .nx ∧ Laps ρ S) E0' := by
  unfold st2 Laps
  rw [wq_bind, wq_rg]
  simp only [wq_bind, wq_pure, wq_of, wq_mC, wq_opd, wq_mSlot, wq_resV, wq_resS, wq_mSet, wq_gN, wq_mNx, wq_mIf, wq_seq, wq_asg, wq_ret, wq_drop, wq_op, wq_k1, wq_mB, wq_tru, wq_not, wq_and, wq_or, wq_andV, wq_nil, wq_cons, wq_keep, wq_tup, wq_lst, wq_resL0, wq_resL1, wq_bui, wq_pNo, wq_pIs, wq_sl, wq_call, wq_sq, wq_st, wq_rg, wq_par, wq_var, wq_lc, wq_tg, wq_ag, List.map_cons, List.map_nil, List.cons_append, List.nil_append, List.length_cons, List.length_nil, List.replicate, Nat.reduceAdd, Nat.reduceSub, Nat.sub_zero, List.getElem?_cons_zero, List.getElem?_cons_succ, List.set_cons_zero, List.set_cons_succ, Option.some.injEq, exists_eq_left', exists_eq_left, DV.d, lendR, DL.asB, DL.intD, DL.op1, DL.op2', DL.seqD, w_m1, eqD_int, eqD_str, ltI_eq, subD_eq, addD_int, pow12, lenD_lst, lenD_tup, lenD_str, DL.strO, decide_eq_true_eq, decide_eq_false_iff_not]
  refine ⟨rangeL 0 7, rfl, ?_⟩
  refine wq_for (I := fun i ρ S => SrcOk S ∧ ∃ (sent heard : List DL.D), ∃ a5 a6 a7 a8 a9 a10 a11 a12 a13 a14 a15 a16 a17 a18, ρ = ev (some (.ow (.lst sent))) (some (.ow (.lst heard))) a5 a6 a7 a8 a9 a10 a11 a12 a13 a14 a15 a16 a17 a18 ∧ sent.length ≤ 3 * i ∧ heard.length ≤ 3 * i ∧ (∀ d ∈ sent, Let d) ∧ ∀ d ∈ heard, Let d)
    ⟨h2, [], [], none, none, none, none, none, none, none, none, none, none, none, none, none, none, rfl, Nat.zero_le _, Nat.zero_le _, (fun _ z => by cases z), fun _ z => by cases z⟩ (fun i d ρ S3 hd hI => ?_) (fun ρ S3 hI => ?_)
  · obtain ⟨h3, sent, heard, a5, a6, a7, a8, a9, a10, a11, a12, a13, a14, a15, a16, a17, a18, rfl, ls, lh, hs, hh⟩ := hI
    rw [wq_gN]
    simp only [List.set_cons_succ, List.set_cons_zero]
    refine seqI (fun ρ S => SrcOk S ∧ ∃ w ps, w ∈ asks6 ∧ Let (.tup (.str w :: ps)) ∧ ρ = ev (some (.ow (.lst sent))) (some (.ow (.lst heard))) (some (.sh d)) (some (.sh (.tup (.str w :: ps)))) a7 a8 a9 a10 a11 a12 a13 a14 a15 a16 a17 a18) ?_ ?_
    · simp only [wq_bind, wq_pure, wq_of, wq_mC, wq_opd, wq_mSlot, wq_resV, wq_resS, wq_mSet, wq_gN, wq_mNx, wq_mIf, wq_seq, wq_asg, wq_ret, wq_drop, wq_op, wq_k1, wq_mB, wq_tru, wq_not, wq_and, wq_or, wq_andV, wq_nil, wq_cons, wq_keep, wq_tup, wq_lst, wq_resL0, wq_resL1, wq_bui, wq_pNo, wq_pIs, wq_sl, wq_call, wq_sq, wq_st, wq_rg, wq_par, wq_var, wq_lc, wq_tg, wq_ag, List.map_cons, List.map_nil, List.cons_append, List.nil_append, List.length_cons, List.length_nil, List.replicate, Nat.reduceAdd, Nat.reduceSub, Nat.sub_zero, List.getElem?_cons_zero, List.getElem?_cons_succ, List.set_cons_zero, List.set_cons_succ, Option.some.injEq, exists_eq_left', exists_eq_left, DV.d, lendR, DL.asB, DL.intD, DL.op1, DL.op2', DL.seqD, w_m1, eqD_int, eqD_str, ltI_eq, subD_eq, addD_int, pow12, lenD_lst, lenD_tup, lenD_str, DL.strO, decide_eq_true_eq, decide_eq_false_iff_not]
      refine w_letter (L := asks6) rfl h3 (by decide) (by decide) asks6_sub fun w ps S4 h4 hw hd => ?_
      exact ⟨trivial, h4, w, ps, hw, hd, rfl⟩
    rintro ρ S4 ⟨h4, w, ps, hw, dl, rfl⟩
    refine seqI (fun ρ S => SrcOk S ∧ ∃ es : List DL.D, es.length ≤ 10 ∧ (∀ e ∈ es, Let e) ∧ ρ = ev (some (.ow (.lst sent))) (some (.ow (.lst heard))) (some (.sh d)) (some (.sh (.tup (.str w :: ps)))) (some (.ow (.lst es))) a8 a9 a10 a11 a12 a13 a14 a15 a16 a17 a18) ?_ ?_
    · simp only [wq_bind, wq_pure, wq_of, wq_mC, wq_opd, wq_mSlot, wq_resV, wq_resS, wq_mSet, wq_gN, wq_mNx, wq_mIf, wq_seq, wq_asg, wq_ret, wq_drop, wq_op, wq_k1, wq_mB, wq_tru, wq_not, wq_and, wq_or, wq_andV, wq_nil, wq_cons, wq_keep, wq_tup, wq_lst, wq_resL0, wq_resL1, wq_bui, wq_pNo, wq_pIs, wq_sl, wq_call, wq_sq, wq_st, wq_rg, wq_par, wq_var, wq_lc, wq_tg, wq_ag, List.map_cons, List.map_nil, List.cons_append, List.nil_append, List.length_cons, List.length_nil, List.replicate, Nat.reduceAdd, Nat.reduceSub, Nat.sub_zero, List.getElem?_cons_zero, List.getElem?_cons_succ, List.set_cons_zero, List.set_cons_succ, Option.some.injEq, exists_eq_left', exists_eq_left, DV.d, lendR, DL.asB, DL.intD, DL.op1, DL.op2', DL.seqD, w_m1, eqD_int, eqD_str, ltI_eq, subD_eq, addD_int, pow12, lenD_lst, lenD_tup, lenD_str, DL.strO, decide_eq_true_eq, decide_eq_false_iff_not]
      refine w_right rfl h4 hw dl fun es S5 h5 le he => ?_
      exact ⟨trivial, h5, es, le, he, rfl⟩
    rintro ρ S5 ⟨h5, es, le, he, rfl⟩
    refine seqI (fun ρ S => SrcOk S ∧ ∃ fs : List DL.D, fs.length ≤ 20 ∧ (∀ e ∈ fs, Let e) ∧ ∃ a7, ρ = ev (some (.ow (.lst sent))) (some (.ow (.lst heard))) (some (.sh d)) (some (.sh (.tup (.str w :: ps)))) a7 (some (.ow (.lst fs))) a9 a10 a11 a12 a13 a14 a15 a16 a17 a18) ?_ ?_
    · simp only [wq_bind, wq_pure, wq_of, wq_mC, wq_opd, wq_mSlot, wq_resV, wq_resS, wq_mSet, wq_gN, wq_mNx, wq_mIf, wq_seq, wq_asg, wq_ret, wq_drop, wq_op, wq_k1, wq_mB, wq_tru, wq_not, wq_and, wq_or, wq_andV, wq_nil, wq_cons, wq_keep, wq_tup, wq_lst, wq_resL0, wq_resL1, wq_bui, wq_pNo, wq_pIs, wq_sl, wq_call, wq_sq, wq_st, wq_rg, wq_par, wq_var, wq_lc, wq_tg, wq_ag, List.map_cons, List.map_nil, List.cons_append, List.nil_append, List.length_cons, List.length_nil, List.replicate, Nat.reduceAdd, Nat.reduceSub, Nat.sub_zero, List.getElem?_cons_zero, List.getElem?_cons_succ, List.set_cons_zero, List.set_cons_succ, Option.some.injEq, exists_eq_left', exists_eq_left, DV.d, lendR, DL.asB, DL.intD, DL.op1, DL.op2', DL.seqD, w_m1, eqD_int, eqD_str, ltI_eq, subD_eq, addD_int, pow12, lenD_lst, lenD_tup, lenD_str, DL.strO, decide_eq_true_eq, decide_eq_false_iff_not]
      refine wq_lcX (P := fun i d => Let d) h5 (Nat.le_of_lt (few (by omega))) (fun i d S6 hd h6 => ?_) (fun acc S6 hl h6 hp => ?_)
      · simp only [wq_bind, wq_pure, wq_of, wq_mC, wq_opd, wq_mSlot, wq_resV, wq_resS, wq_mSet, wq_gN, wq_mNx, wq_mIf, wq_seq, wq_asg, wq_ret, wq_drop, wq_op, wq_k1, wq_mB, wq_tru, wq_not, wq_and, wq_or, wq_andV, wq_nil, wq_cons, wq_keep, wq_tup, wq_lst, wq_resL0, wq_resL1, wq_bui, wq_pNo, wq_pIs, wq_sl, wq_call, wq_sq, wq_st, wq_rg, wq_par, wq_var, wq_lc, wq_tg, wq_ag, List.map_cons, List.map_nil, List.cons_append, List.nil_append, List.length_cons, List.length_nil, List.replicate, Nat.reduceAdd, Nat.reduceSub, Nat.sub_zero, List.getElem?_cons_zero, List.getElem?_cons_succ, List.set_cons_zero, List.set_cons_succ, Option.some.injEq, exists_eq_left', exists_eq_left, DV.d, lendR, DL.asB, DL.intD, DL.op1, DL.op2', DL.seqD, w_m1, eqD_int, eqD_str, ltI_eq, subD_eq, addD_int, pow12, lenD_lst, lenD_tup, lenD_str, DL.strO, decide_eq_true_eq, decide_eq_false_iff_not]
        refine w_near rfl h6 (he d (List.mem_of_getElem? hd)) fun e S7 h7 hx => ?_
        exact ⟨rfl, h7, hx⟩
      · simp only [wq_bind, wq_pure, wq_of, wq_mC, wq_opd, wq_mSlot, wq_resV, wq_resS, wq_mSet, wq_gN, wq_mNx, wq_mIf, wq_seq, wq_asg, wq_ret, wq_drop, wq_op, wq_k1, wq_mB, wq_tru, wq_not, wq_and, wq_or, wq_andV, wq_nil, wq_cons, wq_keep, wq_tup, wq_lst, wq_resL0, wq_resL1, wq_bui, wq_pNo, wq_pIs, wq_sl, wq_call, wq_sq, wq_st, wq_rg, wq_par, wq_var, wq_lc, wq_tg, wq_ag, List.map_cons, List.map_nil, List.cons_append, List.nil_append, List.length_cons, List.length_nil, List.replicate, Nat.reduceAdd, Nat.reduceSub, Nat.sub_zero, List.getElem?_cons_zero, List.getElem?_cons_succ, List.set_cons_zero, List.set_cons_succ, Option.some.injEq, exists_eq_left', exists_eq_left, DV.d, lendR, DL.asB, DL.intD, DL.op1, DL.op2', DL.seqD, w_m1, eqD_int, eqD_str, ltI_eq, subD_eq, addD_int, pow12, lenD_lst, lenD_tup, lenD_str, DL.strO, decide_eq_true_eq, decide_eq_false_iff_not]
        refine ⟨_, addD_lst (Nat.le_of_lt (few (by omega))), trivial, h6, es ++ acc, by rw [List.length_append]; omega, fun x hx => ?_, _, rfl⟩
        rcases List.mem_append.mp hx with hx | hx
        · exact he x hx
        · obtain ⟨j, hj⟩ := List.mem_iff_getElem?.mp hx
          exact hp j x hj
    rintro ρ S6 ⟨h6, fs, lf, hf, a7, rfl⟩
    refine seqI (fun ρ S => SrcOk S ∧ ∃ fs : List DL.D, fs.length ≤ 25 ∧ (∀ e ∈ fs, Let e) ∧ ρ = ev (some (.ow (.lst sent))) (some (.ow (.lst heard))) (some (.sh d)) (some (.sh (.tup (.str w :: ps)))) a7 (some (.ow (.lst fs))) a9 a10 a11 a12 a13 a14 a15 a16 a17 a18) ?_ ?_
    · simp only [wq_bind, wq_pure, wq_of, wq_mC, wq_opd, wq_mSlot, wq_resV, wq_resS, wq_mSet, wq_gN, wq_mNx, wq_mIf, wq_seq, wq_asg, wq_ret, wq_drop, wq_op, wq_k1, wq_mB, wq_tru, wq_not, wq_and, wq_or, wq_andV, wq_nil, wq_cons, wq_keep, wq_tup, wq_lst, wq_resL0, wq_resL1, wq_bui, wq_pNo, wq_pIs, wq_sl, wq_call, wq_sq, wq_st, wq_rg, wq_par, wq_var, wq_lc, wq_tg, wq_ag, List.map_cons, List.map_nil, List.cons_append, List.nil_append, List.length_cons, List.length_nil, List.replicate, Nat.reduceAdd, Nat.reduceSub, Nat.sub_zero, List.getElem?_cons_zero, List.getElem?_cons_succ, List.set_cons_zero, List.set_cons_succ, Option.some.injEq, exists_eq_left', exists_eq_left, DV.d, lendR, DL.asB, DL.intD, DL.op1, DL.op2', DL.seqD, w_m1, eqD_int, eqD_str, ltI_eq, subD_eq, addD_int, pow12, lenD_lst, lenD_tup, lenD_str, DL.strO, decide_eq_true_eq, decide_eq_false_iff_not]
      refine ⟨rangeL 0 4, rfl, ?_⟩
      refine wq_lcX (P := fun i d => Let d) h6 (by rw [rangeL_len]; decide) (fun i d S6 hd h6 => ?_) (fun acc S7 hl h7 hp => ?_)
      · simp only [wq_bind, wq_pure, wq_of, wq_mC, wq_opd, wq_mSlot, wq_resV, wq_resS, wq_mSet, wq_gN, wq_mNx, wq_mIf, wq_seq, wq_asg, wq_ret, wq_drop, wq_op, wq_k1, wq_mB, wq_tru, wq_not, wq_and, wq_or, wq_andV, wq_nil, wq_cons, wq_keep, wq_tup, wq_lst, wq_resL0, wq_resL1, wq_bui, wq_pNo, wq_pIs, wq_sl, wq_call, wq_sq, wq_st, wq_rg, wq_par, wq_var, wq_lc, wq_tg, wq_ag, List.map_cons, List.map_nil, List.cons_append, List.nil_append, List.length_cons, List.length_nil, List.replicate, Nat.reduceAdd, Nat.reduceSub, Nat.sub_zero, List.getElem?_cons_zero, List.getElem?_cons_succ, List.set_cons_zero, List.set_cons_succ, Option.some.injEq, exists_eq_left', exists_eq_left, DV.d, lendR, DL.asB, DL.intD, DL.op1, DL.op2', DL.seqD, w_m1, eqD_int, eqD_str, ltI_eq, subD_eq, addD_int, pow12, lenD_lst, lenD_tup, lenD_str, DL.strO, decide_eq_true_eq, decide_eq_false_iff_not]
        refine w_all ?_
        simp only [wq_bind, wq_pure, wq_of, wq_mC, wq_opd, wq_mSlot, wq_resV, wq_resS, wq_mSet, wq_gN, wq_mNx, wq_mIf, wq_seq, wq_asg, wq_ret, wq_drop, wq_op, wq_k1, wq_mB, wq_tru, wq_not, wq_and, wq_or, wq_andV, wq_nil, wq_cons, wq_keep, wq_tup, wq_lst, wq_resL0, wq_resL1, wq_bui, wq_pNo, wq_pIs, wq_sl, wq_call, wq_sq, wq_st, wq_rg, wq_par, wq_var, wq_lc, wq_tg, wq_ag, List.map_cons, List.map_nil, List.cons_append, List.nil_append, List.length_cons, List.length_nil, List.replicate, Nat.reduceAdd, Nat.reduceSub, Nat.sub_zero, List.getElem?_cons_zero, List.getElem?_cons_succ, List.set_cons_zero, List.set_cons_succ, Option.some.injEq, exists_eq_left', exists_eq_left, DV.d, lendR, DL.asB, DL.intD, DL.op1, DL.op2', DL.seqD, w_m1, eqD_int, eqD_str, ltI_eq, subD_eq, addD_int, pow12, lenD_lst, lenD_tup, lenD_str, DL.strO, decide_eq_true_eq, decide_eq_false_iff_not]
        refine w_letter (L := words) rfl h6 (by decide) (by decide) (fun _ z => z) fun w ps S7 h7 hw hd => ?_
        exact ⟨rfl, h7, hd⟩
      · rw [rangeL_len] at hl
        simp only [wq_bind, wq_pure, wq_of, wq_mC, wq_opd, wq_mSlot, wq_resV, wq_resS, wq_mSet, wq_gN, wq_mNx, wq_mIf, wq_seq, wq_asg, wq_ret, wq_drop, wq_op, wq_k1, wq_mB, wq_tru, wq_not, wq_and, wq_or, wq_andV, wq_nil, wq_cons, wq_keep, wq_tup, wq_lst, wq_resL0, wq_resL1, wq_bui, wq_pNo, wq_pIs, wq_sl, wq_call, wq_sq, wq_st, wq_rg, wq_par, wq_var, wq_lc, wq_tg, wq_ag, List.map_cons, List.map_nil, List.cons_append, List.nil_append, List.length_cons, List.length_nil, List.replicate, Nat.reduceAdd, Nat.reduceSub, Nat.sub_zero, List.getElem?_cons_zero, List.getElem?_cons_succ, List.set_cons_zero, List.set_cons_succ, Option.some.injEq, exists_eq_left', exists_eq_left, DV.d, lendR, DL.asB, DL.intD, DL.op1, DL.op2', DL.seqD, w_m1, eqD_int, eqD_str, ltI_eq, subD_eq, addD_int, pow12, lenD_lst, lenD_tup, lenD_str, DL.strO, decide_eq_true_eq, decide_eq_false_iff_not]
        refine ⟨_, addD_lst (Nat.le_of_lt (few (by omega))), (by show 1 ≤ sizeLine; decide), _, addD_lst (Nat.le_of_lt (few (by rw [List.length_append]; show fs.length + acc.length + 1 ≤ 1000; omega))), trivial, h7, fs ++ acc ++ [.tup (.str w :: ps)], by rw [List.length_append, List.length_append]; show fs.length + acc.length + 1 ≤ 25; omega, fun x hx => ?_, rfl⟩
        rcases List.mem_append.mp hx with hx | hx
        · rcases List.mem_append.mp hx with hx | hx
          · exact hf x hx
          · obtain ⟨j, hj⟩ := List.mem_iff_getElem?.mp hx
            exact hp j x hj
        · rw [List.mem_singleton.mp hx]; exact dl
    rintro ρ S7 ⟨h7, gs, lg, hg, rfl⟩
    refine seqI (fun ρ S => SrcOk S ∧ ∃ a9 a11, ρ = ev (some (.ow (.lst sent))) (some (.ow (.lst heard))) (some (.sh d)) (some (.sh (.tup (.str w :: ps)))) a7 (some (.sh (.lst gs))) a9 a10 a11 a12 a13 a14 a15 a16 a17 a18) ?_ ?_
    · rw [wq_bind, wq_sq, wq_var]
      refine ⟨.ow (.lst gs), rfl, gs, rfl, ?_⟩
      refine wq_for (I := fun i ρ S => SrcOk S ∧ ∃ a9 a11, ρ = ev (some (.ow (.lst sent))) (some (.ow (.lst heard))) (some (.sh d)) (some (.sh (.tup (.str w :: ps)))) a7 (some (.sh (.lst gs))) a9 a10 a11 a12 a13 a14 a15 a16 a17 a18) ⟨h7, a9, a11, rfl⟩ (fun i an ρ S8 han hI => ?_) (fun ρ S8 hI => ⟨rfl, hI⟩)
      obtain ⟨h8, a9, a11, rfl⟩ := hI
      have an_l := hg an (List.mem_of_getElem? han)
      rw [wq_gN]
      simp only [List.set_cons_succ, List.set_cons_zero]
      rw [wq_seq, wq_bind, wq_sq]
      simp only [wq_bind, wq_pure, wq_of, wq_mC, wq_opd, wq_mSlot, wq_resV, wq_resS, wq_mSet, wq_gN, wq_mNx, wq_mIf, wq_seq, wq_asg, wq_ret, wq_drop, wq_op, wq_k1, wq_mB, wq_tru, wq_not, wq_and, wq_or, wq_andV, wq_nil, wq_cons, wq_keep, wq_tup, wq_lst, wq_resL0, wq_resL1, wq_bui, wq_pNo, wq_pIs, wq_sl, wq_call, wq_sq, wq_st, wq_rg, wq_par, wq_var, wq_lc, wq_tg, wq_ag, List.map_cons, List.map_nil, List.cons_append, List.nil_append, List.length_cons, List.length_nil, List.replicate, Nat.reduceAdd, Nat.reduceSub, Nat.sub_zero, List.getElem?_cons_zero, List.getElem?_cons_succ, List.set_cons_zero, List.set_cons_succ, Option.some.injEq, exists_eq_left', exists_eq_left, DV.d, lendR, DL.asB, DL.intD, DL.op1, DL.op2', DL.seqD, w_m1, eqD_int, eqD_str, ltI_eq, subD_eq, addD_int, pow12, lenD_lst, lenD_tup, lenD_str, DL.strO, decide_eq_true_eq, decide_eq_false_iff_not]
      refine w_all ?_
      simp only [wq_bind, wq_pure, wq_of, wq_mC, wq_opd, wq_mSlot, wq_resV, wq_resS, wq_mSet, wq_gN, wq_mNx, wq_mIf, wq_seq, wq_asg, wq_ret, wq_drop, wq_op, wq_k1, wq_mB, wq_tru, wq_not, wq_and, wq_or, wq_andV, wq_nil, wq_cons, wq_keep, wq_tup, wq_lst, wq_resL0, wq_resL1, wq_bui, wq_pNo, wq_pIs, wq_sl, wq_call, wq_sq, wq_st, wq_rg, wq_par, wq_var, wq_lc, wq_tg, wq_ag, List.map_cons, List.map_nil, List.cons_append, List.nil_append, List.length_cons, List.length_nil, List.replicate, Nat.reduceAdd, Nat.reduceSub, Nat.sub_zero, List.getElem?_cons_zero, List.getElem?_cons_succ, List.set_cons_zero, List.set_cons_succ, Option.some.injEq, exists_eq_left', exists_eq_left, DV.d, lendR, DL.asB, DL.intD, DL.op1, DL.op2', DL.seqD, w_m1, eqD_int, eqD_str, ltI_eq, subD_eq, addD_int, pow12, lenD_lst, lenD_tup, lenD_str, DL.strO, decide_eq_true_eq, decide_eq_false_iff_not]
      refine w_letter (L := words) rfl h8 (by decide) (by decide) (fun _ z => z) fun w2 ps2 S9 h9 hw2 hd2 => ?_
      simp only [wq_bind, wq_pure, wq_of, wq_mC, wq_opd, wq_mSlot, wq_resV, wq_resS, wq_mSet, wq_gN, wq_mNx, wq_mIf, wq_seq, wq_asg, wq_ret, wq_drop, wq_op, wq_k1, wq_mB, wq_tru, wq_not, wq_and, wq_or, wq_andV, wq_nil, wq_cons, wq_keep, wq_tup, wq_lst, wq_resL0, wq_resL1, wq_bui, wq_pNo, wq_pIs, wq_sl, wq_call, wq_sq, wq_st, wq_rg, wq_par, wq_var, wq_lc, wq_tg, wq_ag, List.map_cons, List.map_nil, List.cons_append, List.nil_append, List.length_cons, List.length_nil, List.replicate, Nat.reduceAdd, Nat.reduceSub, Nat.sub_zero, List.getElem?_cons_zero, List.getElem?_cons_succ, List.set_cons_zero, List.set_cons_succ, Option.some.injEq, exists_eq_left', exists_eq_left, DV.d, lendR, DL.asB, DL.intD, DL.op1, DL.op2', DL.seqD, w_m1, eqD_int, eqD_str, ltI_eq, subD_eq, addD_int, pow12, lenD_lst, lenD_tup, lenD_str, DL.strO, decide_eq_true_eq, decide_eq_false_iff_not]
      refine ⟨(by show 2 ≤ sizeLine; decide), ?_⟩
      refine wq_for (I := fun i ρ S => SrcOk S ∧ ∃ a11, ρ = ev (some (.ow (.lst sent))) (some (.ow (.lst heard))) (some (.sh d)) (some (.sh (.tup (.str w :: ps)))) a7 (some (.sh (.lst gs))) (some (.sh an)) a10 a11 a12 a13 a14 a15 a16 a17 a18) ⟨h9, a11, rfl⟩ (fun j one ρ T hone hJ => ?_) (fun ρ T hJ => ⟨trivial, hJ.1, _, hJ.2.choose, hJ.2.choose_spec⟩)
      obtain ⟨hT, a11, rfl⟩ := hJ
      have one_l : Let one := by
        have m := List.mem_of_getElem? hone
        rcases List.mem_cons.mp m with rfl | m
        · exact dl
        · rw [List.mem_singleton.mp m]; exact hd2
      simp only [wq_bind, wq_pure, wq_of, wq_mC, wq_opd, wq_mSlot, wq_resV, wq_resS, wq_mSet, wq_gN, wq_mNx, wq_mIf, wq_seq, wq_asg, wq_ret, wq_drop, wq_op, wq_k1, wq_mB, wq_tru, wq_not, wq_and, wq_or, wq_andV, wq_nil, wq_cons, wq_keep, wq_tup, wq_lst, wq_resL0, wq_resL1, wq_bui, wq_pNo, wq_pIs, wq_sl, wq_call, wq_sq, wq_st, wq_rg, wq_par, wq_var, wq_lc, wq_tg, wq_ag, List.map_cons, List.map_nil, List.cons_append, List.nil_append, List.length_cons, List.length_nil, List.replicate, Nat.reduceAdd, Nat.reduceSub, Nat.sub_zero, List.getElem?_cons_zero, List.getElem?_cons_succ, List.set_cons_zero, List.set_cons_succ, Option.some.injEq, exists_eq_left', exists_eq_left, DV.d, lendR, DL.asB, DL.intD, DL.op1, DL.op2', DL.seqD, w_m1, eqD_int, eqD_str, ltI_eq, subD_eq, addD_int, pow12, lenD_lst, lenD_tup, lenD_str, DL.strO, decide_eq_true_eq, decide_eq_false_iff_not]
      refine w_isA rfl one_l an_l ?_
      simp only [wq_bind, wq_pure, wq_of, wq_mC, wq_opd, wq_mSlot, wq_resV, wq_resS, wq_mSet, wq_gN, wq_mNx, wq_mIf, wq_seq, wq_asg, wq_ret, wq_drop, wq_op, wq_k1, wq_mB, wq_tru, wq_not, wq_and, wq_or, wq_andV, wq_nil, wq_cons, wq_keep, wq_tup, wq_lst, wq_resL0, wq_resL1, wq_bui, wq_pNo, wq_pIs, wq_sl, wq_call, wq_sq, wq_st, wq_rg, wq_par, wq_var, wq_lc, wq_tg, wq_ag, List.map_cons, List.map_nil, List.cons_append, List.nil_append, List.length_cons, List.length_nil, List.replicate, Nat.reduceAdd, Nat.reduceSub, Nat.sub_zero, List.getElem?_cons_zero, List.getElem?_cons_succ, List.set_cons_zero, List.set_cons_succ, Option.some.injEq, exists_eq_left', exists_eq_left, DV.d, lendR, DL.asB, DL.intD, DL.op1, DL.op2', DL.seqD, w_m1, eqD_int, eqD_str, ltI_eq, subD_eq, addD_int, pow12, lenD_lst, lenD_tup, lenD_str, DL.strO, decide_eq_true_eq, decide_eq_false_iff_not]
      refine ⟨_, repr_bl _, ?_⟩
      simp only [wq_bind, wq_pure, wq_of, wq_mC, wq_opd, wq_mSlot, wq_resV, wq_resS, wq_mSet, wq_gN, wq_mNx, wq_mIf, wq_seq, wq_asg, wq_ret, wq_drop, wq_op, wq_k1, wq_mB, wq_tru, wq_not, wq_and, wq_or, wq_andV, wq_nil, wq_cons, wq_keep, wq_tup, wq_lst, wq_resL0, wq_resL1, wq_bui, wq_pNo, wq_pIs, wq_sl, wq_call, wq_sq, wq_st, wq_rg, wq_par, wq_var, wq_lc, wq_tg, wq_ag, List.map_cons, List.map_nil, List.cons_append, List.nil_append, List.length_cons, List.length_nil, List.replicate, Nat.reduceAdd, Nat.reduceSub, Nat.sub_zero, List.getElem?_cons_zero, List.getElem?_cons_succ, List.set_cons_zero, List.set_cons_succ, Option.some.injEq, exists_eq_left', exists_eq_left, DV.d, lendR, DL.asB, DL.intD, DL.op1, DL.op2', DL.seqD, w_m1, eqD_int, eqD_str, ltI_eq, subD_eq, addD_int, pow12, lenD_lst, lenD_tup, lenD_str, DL.strO, decide_eq_true_eq, decide_eq_false_iff_not]
      refine w_lawA rfl one_l an_l ?_
      simp only [wq_bind, wq_pure, wq_of, wq_mC, wq_opd, wq_mSlot, wq_resV, wq_resS, wq_mSet, wq_gN, wq_mNx, wq_mIf, wq_seq, wq_asg, wq_ret, wq_drop, wq_op, wq_k1, wq_mB, wq_tru, wq_not, wq_and, wq_or, wq_andV, wq_nil, wq_cons, wq_keep, wq_tup, wq_lst, wq_resL0, wq_resL1, wq_bui, wq_pNo, wq_pIs, wq_sl, wq_call, wq_sq, wq_st, wq_rg, wq_par, wq_var, wq_lc, wq_tg, wq_ag, List.map_cons, List.map_nil, List.cons_append, List.nil_append, List.length_cons, List.length_nil, List.replicate, Nat.reduceAdd, Nat.reduceSub, Nat.sub_zero, List.getElem?_cons_zero, List.getElem?_cons_succ, List.set_cons_zero, List.set_cons_succ, Option.some.injEq, exists_eq_left', exists_eq_left, DV.d, lendR, DL.asB, DL.intD, DL.op1, DL.op2', DL.seqD, w_m1, eqD_int, eqD_str, ltI_eq, subD_eq, addD_int, pow12, lenD_lst, lenD_tup, lenD_str, DL.strO, decide_eq_true_eq, decide_eq_false_iff_not]
      refine ⟨_, repr_bl _, _, neD_str, ?_⟩
      refine ⟨_, rfl, fun z => ?_, fun _ => ?_⟩
      · simp at z
      · exact ⟨trivial, hT, _, rfl⟩
    rintro ρ S8 ⟨h8, a9, a11, rfl⟩
    refine seqI (fun ρ S => SrcOk S ∧ ∃ sent' : List DL.D, sent'.length ≤ 3 * (i + 1) ∧ (∀ d ∈ sent', Let d) ∧ ρ = ev (some (.ow (.lst sent'))) (some (.ow (.lst heard))) (some (.sh d)) (some (.sh (.tup (.str w :: ps)))) a7 (some (.sh (.lst gs))) a9 a10 a11 a12 a13 a14 a15 a16 a17 a18) ?_ ?_
    · simp only [wq_bind, wq_pure, wq_of, wq_mC, wq_opd, wq_mSlot, wq_resV, wq_resS, wq_mSet, wq_gN, wq_mNx, wq_mIf, wq_seq, wq_asg, wq_ret, wq_drop, wq_op, wq_k1, wq_mB, wq_tru, wq_not, wq_and, wq_or, wq_andV, wq_nil, wq_cons, wq_keep, wq_tup, wq_lst, wq_resL0, wq_resL1, wq_bui, wq_pNo, wq_pIs, wq_sl, wq_call, wq_sq, wq_st, wq_rg, wq_par, wq_var, wq_lc, wq_tg, wq_ag, List.map_cons, List.map_nil, List.cons_append, List.nil_append, List.length_cons, List.length_nil, List.replicate, Nat.reduceAdd, Nat.reduceSub, Nat.sub_zero, List.getElem?_cons_zero, List.getElem?_cons_succ, List.set_cons_zero, List.set_cons_succ, Option.some.injEq, exists_eq_left', exists_eq_left, DV.d, lendR, DL.asB, DL.intD, DL.op1, DL.op2', DL.seqD, w_m1, eqD_int, eqD_str, ltI_eq, subD_eq, addD_int, pow12, lenD_lst, lenD_tup, lenD_str, DL.strO, decide_eq_true_eq, decide_eq_false_iff_not]
      refine w_all ?_
      simp only [wq_bind, wq_pure, wq_of, wq_mC, wq_opd, wq_mSlot, wq_resV, wq_resS, wq_mSet, wq_gN, wq_mNx, wq_mIf, wq_seq, wq_asg, wq_ret, wq_drop, wq_op, wq_k1, wq_mB, wq_tru, wq_not, wq_and, wq_or, wq_andV, wq_nil, wq_cons, wq_keep, wq_tup, wq_lst, wq_resL0, wq_resL1, wq_bui, wq_pNo, wq_pIs, wq_sl, wq_call, wq_sq, wq_st, wq_rg, wq_par, wq_var, wq_lc, wq_tg, wq_ag, List.map_cons, List.map_nil, List.cons_append, List.nil_append, List.length_cons, List.length_nil, List.replicate, Nat.reduceAdd, Nat.reduceSub, Nat.sub_zero, List.getElem?_cons_zero, List.getElem?_cons_succ, List.set_cons_zero, List.set_cons_succ, Option.some.injEq, exists_eq_left', exists_eq_left, DV.d, lendR, DL.asB, DL.intD, DL.op1, DL.op2', DL.seqD, w_m1, eqD_int, eqD_str, ltI_eq, subD_eq, addD_int, pow12, lenD_lst, lenD_tup, lenD_str, DL.strO, decide_eq_true_eq, decide_eq_false_iff_not]
      refine w_letter (L := words) rfl h8 (by decide) (by decide) (fun _ z => z) fun w2 ps2 S9 h9 hw2 hd2 => ?_
      simp only [wq_bind, wq_pure, wq_of, wq_mC, wq_opd, wq_mSlot, wq_resV, wq_resS, wq_mSet, wq_gN, wq_mNx, wq_mIf, wq_seq, wq_asg, wq_ret, wq_drop, wq_op, wq_k1, wq_mB, wq_tru, wq_not, wq_and, wq_or, wq_andV, wq_nil, wq_cons, wq_keep, wq_tup, wq_lst, wq_resL0, wq_resL1, wq_bui, wq_pNo, wq_pIs, wq_sl, wq_call, wq_sq, wq_st, wq_rg, wq_par, wq_var, wq_lc, wq_tg, wq_ag, List.map_cons, List.map_nil, List.cons_append, List.nil_append, List.length_cons, List.length_nil, List.replicate, Nat.reduceAdd, Nat.reduceSub, Nat.sub_zero, List.getElem?_cons_zero, List.getElem?_cons_succ, List.set_cons_zero, List.set_cons_succ, Option.some.injEq, exists_eq_left', exists_eq_left, DV.d, lendR, DL.asB, DL.intD, DL.op1, DL.op2', DL.seqD, w_m1, eqD_int, eqD_str, ltI_eq, subD_eq, addD_int, pow12, lenD_lst, lenD_tup, lenD_str, DL.strO, decide_eq_true_eq, decide_eq_false_iff_not]
      refine ⟨(by show 3 ≤ sizeLine; decide), ?_⟩
      refine w_pick (n := 3) rfl h9 (by decide) (by decide) fun k T hT k0 k1 => ?_
      simp only [wq_bind, wq_pure, wq_of, wq_mC, wq_opd, wq_mSlot, wq_resV, wq_resS, wq_mSet, wq_gN, wq_mNx, wq_mIf, wq_seq, wq_asg, wq_ret, wq_drop, wq_op, wq_k1, wq_mB, wq_tru, wq_not, wq_and, wq_or, wq_andV, wq_nil, wq_cons, wq_keep, wq_tup, wq_lst, wq_resL0, wq_resL1, wq_bui, wq_pNo, wq_pIs, wq_sl, wq_call, wq_sq, wq_st, wq_rg, wq_par, wq_var, wq_lc, wq_tg, wq_ag, List.map_cons, List.map_nil, List.cons_append, List.nil_append, List.length_cons, List.length_nil, List.replicate, Nat.reduceAdd, Nat.reduceSub, Nat.sub_zero, List.getElem?_cons_zero, List.getElem?_cons_succ, List.set_cons_zero, List.set_cons_succ, Option.some.injEq, exists_eq_left', exists_eq_left, DV.d, lendR, DL.asB, DL.intD, DL.op1, DL.op2', DL.seqD, w_m1, eqD_int, eqD_str, ltI_eq, subD_eq, addD_int, pow12, lenD_lst, lenD_tup, lenD_str, DL.strO, decide_eq_true_eq, decide_eq_false_iff_not]
      refine ⟨_, slD_lst, ?_⟩
      rw [cut_take (by omega)]
      obtain ⟨cs, hcs⟩ : ∃ cs, cs = List.take (1 + k).toNat [DL.D.tup (.str w :: ps), .tup (.str w :: ps), .tup (.str w2 :: ps2)] := ⟨_, rfl⟩
      rw [← hcs]
      have lc : cs.length ≤ 3 := by rw [hcs]; exact List.length_take_le' _ _
      have mc : ∀ x ∈ cs, Let x := fun x hx => by
        rw [hcs] at hx
        have := List.mem_of_mem_take hx
        simp only [List.mem_cons, List.not_mem_nil, or_false] at this
        rcases this with rfl | rfl | rfl
        · exact dl
        · exact dl
        · exact hd2
      have li : i < 7 := by
        have := (List.getElem?_eq_some_iff.mp hd).1
        rw [rangeL_len] at this; exact this
      refine ⟨_, addD_lst (Nat.le_of_lt (few (by omega))), trivial, hT, sent ++ cs, by rw [List.length_append]; omega, fun x hx => (List.mem_append.mp hx).elim (hs x) (mc x), rfl⟩
    rintro ρ S9 ⟨h9, sent', ls', hs', rfl⟩
    simp only [wq_bind, wq_pure, wq_of, wq_mC, wq_opd, wq_mSlot, wq_resV, wq_resS, wq_mSet, wq_gN, wq_mNx, wq_mIf, wq_seq, wq_asg, wq_ret, wq_drop, wq_op, wq_k1, wq_mB, wq_tru, wq_not, wq_and, wq_or, wq_andV, wq_nil, wq_cons, wq_keep, wq_tup, wq_lst, wq_resL0, wq_resL1, wq_bui, wq_pNo, wq_pIs, wq_sl, wq_call, wq_sq, wq_st, wq_rg, wq_par, wq_var, wq_lc, wq_tg, wq_ag, List.map_cons, List.map_nil, List.cons_append, List.nil_append, List.length_cons, List.length_nil, List.replicate, Nat.reduceAdd, Nat.reduceSub, Nat.sub_zero, List.getElem?_cons_zero, List.getElem?_cons_succ, List.set_cons_zero, List.set_cons_succ, Option.some.injEq, exists_eq_left', exists_eq_left, DV.d, lendR, DL.asB, DL.intD, DL.op1, DL.op2', DL.seqD, w_m1, eqD_int, eqD_str, ltI_eq, subD_eq, addD_int, pow12, lenD_lst, lenD_tup, lenD_str, DL.strO, decide_eq_true_eq, decide_eq_false_iff_not]
    refine w_pick (n := 4) rfl h9 (by decide) (by decide) fun k T hT k0 k1 => ?_
    simp only [wq_bind, wq_pure, wq_of, wq_mC, wq_opd, wq_mSlot, wq_resV, wq_resS, wq_mSet, wq_gN, wq_mNx, wq_mIf, wq_seq, wq_asg, wq_ret, wq_drop, wq_op, wq_k1, wq_mB, wq_tru, wq_not, wq_and, wq_or, wq_andV, wq_nil, wq_cons, wq_keep, wq_tup, wq_lst, wq_resL0, wq_resL1, wq_bui, wq_pNo, wq_pIs, wq_sl, wq_call, wq_sq, wq_st, wq_rg, wq_par, wq_var, wq_lc, wq_tg, wq_ag, List.map_cons, List.map_nil, List.cons_append, List.nil_append, List.length_cons, List.length_nil, List.replicate, Nat.reduceAdd, Nat.reduceSub, Nat.sub_zero, List.getElem?_cons_zero, List.getElem?_cons_succ, List.set_cons_zero, List.set_cons_succ, Option.some.injEq, exists_eq_left', exists_eq_left, DV.d, lendR, DL.asB, DL.intD, DL.op1, DL.op2', DL.seqD, w_m1, eqD_int, eqD_str, ltI_eq, subD_eq, addD_int, pow12, lenD_lst, lenD_tup, lenD_str, DL.strO, decide_eq_true_eq, decide_eq_false_iff_not]
    refine ⟨_, slD_lst, ?_⟩
    rw [cut_take k0]
    have li : i < 7 := by
      have := (List.getElem?_eq_some_iff.mp hd).1
      rw [rangeL_len] at this; exact this
    have lc : (List.take k.toNat gs).length ≤ 3 := Nat.le_trans (List.length_take_le _ _) (by omega)
    refine ⟨_, addD_lst (Nat.le_of_lt (few (by omega))), ?_⟩
    refine ⟨trivial, hT, sent', heard ++ List.take k.toNat gs, _, _, _, _, _, _, _, _, _, _, _, _, _, _, rfl, ls', by rw [List.length_append]; omega, hs', fun x hx => (List.mem_append.mp hx).elim (hh x) fun m => hg x (List.mem_of_mem_take m)⟩
  · obtain ⟨h3, sent, heard, a5, a6, a7, a8, a9, a10, a11, a12, a13, a14, a15, a16, a17, a18, rfl, ls, lh, hs, hh⟩ := hI
    rw [rangeL_len] at ls lh
    exact ⟨rfl, h3, sent, heard, a5, a6, a7, a8, a9, a10, a11, a12, a13, a14, a15, a16, a17, a18, rfl, ls, lh, hs, hh⟩

end K22
set_option Elab.async false
set_option linter.all false
set_option maxRecDepth 100000
set_option maxHeartbeats 4000000
namespace K22
open PySem PySem.Spec PyProof.Rows L2 DL
theorem inAsks {w : Str} : inDV false (.str w) (.lst (asks6.map DL.D.str)) = some (.sh (.bl (decide (w ∈ asks6)))) := by
  have c : (asks6.map DL.D.str).any (fun z => eqv z (.str w)) = decide (w ∈ asks6) := by
    unfold asks6 asks5
    simp only [List.cons_append, List.nil_append, List.map_cons, List.map_nil, List.any_cons, List.any_nil, Bool.or_false, eqv_str, List.mem_cons, List.not_mem_nil, or_false, Bool.decide_or, eq_comm (a := w)]
  have f : Fits 0 8 (asks6.map DL.D.str) := Fits.of fun d hd => by
    obtain ⟨s, hs, rfl⟩ := List.mem_map.mp hd
    have : ∀ s ∈ asks6, s.length ≤ 8 ∧ PyData.strOk s = true := by decide +kernel
    exact Fit.str (this s hs).1 (this s hs).2
  unfold inDV inD
  have k : cmpOk (.str w) (.lst (asks6.map DL.D.str)) = true ∧ dep (.str w) ≤ 64 ∧ deps (asks6.map DL.D.str) + 1 ≤ 64 := by
    refine ⟨?_, Nat.zero_le _, Nat.le_trans (Nat.succ_le_succ f.dep) (by decide)⟩
    unfold cmpOk
    rw [show nd (.lst (asks6.map DL.D.str)) = true from f.nd]
    rfl
  simp only [if_pos k, c, Option.map_some, Bool.false_eq_true, if_false]
theorem ones_nil {n : List DL.D} {p : DL.D → Bool} : eqD (.lst ((n.filter p).map fun _ => DL.D.int 1)) (.lst []) = some (.sh (.bl (!(n.any p)))) := by
  have hn : ∀ m : List DL.D, nds (m.map fun _ => DL.D.int 1) = true := fun m => by induction m with | nil => rfl | cons x r ih => simp [nds, nd, ih]
  have c : cmpOk (.lst ((n.filter p).map fun _ => DL.D.int 1)) (.lst []) = true := by
    unfold cmpOk
    rw [show nd (.lst ((n.filter p).map fun _ => DL.D.int 1)) = true from hn _]
    have : (decide (dep (.lst ((n.filter p).map fun _ => DL.D.int 1)) ≤ 64) || decide (dep (.lst ([] : List DL.D)) ≤ 64)) = true := by
      rw [show decide (dep (.lst ([] : List DL.D)) ≤ 64) = true from by decide, Bool.or_true]
    rw [this]; rfl
  unfold eqD
  rw [if_pos c]
  have q : eqv (.lst ((n.filter p).map fun _ => DL.D.int 1)) (.lst []) = !(n.any p) := by
    have e1 : (n.filter p).isEmpty = !(n.any p) := by
      clear c
      induction n with
      | nil => rfl
      | cons x r ih =>
        cases hp : p x with
        | true => rw [List.filter_cons_of_pos hp, List.any_cons, hp]; rfl
        | false => rw [List.filter_cons_of_neg (by rw [hp]; decide), List.any_cons, hp, ih]; rfl
    rw [← e1]
    unfold eqv
    simp only [toP]
    unfold PyData.eqv
    cases n.filter p with
    | nil => simp [toPs, PyData.eqvAll]
    | cons x r => simp [toPs, PyData.eqvAll]
  rw [q]
def DueI (os heard : List DL.D) (n : Nat) (a5 a7 a8 a10 a11 a14 a15 a16 a17 a18 : Option DV) (ρ : DL.Env) (S : Src) : Prop := SrcOk S ∧ ∃ v : DV, (v = .ow (.lst heard) ∨ v = .sh (.lst heard)) ∧ ∃ a6 a9 a13, ρ = ev (some (.sh (.lst os))) (some v) a5 a6 a7 a8 a9 a10 a11 (some (.ow (.lst (dueL (os.take n) heard)))) a13 a14 a15 a16 a17 a18
theorem st4_ok {os heard : List DL.D} {S4 : Src} {a5 a6 a7 a8 a9 a10 a11 a13 a14 a15 a16 a17 a18 : Option DV} (h4 : SrcOk S4) (lo : os.length ≤ 21) (lh : heard.length ≤ 21) (ho : ∀ d ∈ os, Let d) (hh : ∀ d ∈ heard, Let d) :
    wp st4 (ev (some (.ow (.lst os))) (some (.ow (.lst heard))) a5 a6 a7 a8 a9 a10 a11 (some (.ow (.lst []))) a13 a14 a15 a16 a17 a18) S4 (fun f ρ S => f = .nx ∧ DueI os heard os.length a5 a7 a8 a10 a11 a14 a15 a16 a17 a18 ρ S) E0' := by
  unfold st4
  rw [wq_bind, wq_sq, wq_var]
  refine ⟨.ow (.lst os), rfl, os, rfl, ?_⟩
  refine wq_for (I := fun i ρ S => DueI os heard i a5 a7 a8 a10 a11 a14 a15 a16 a17 a18 ρ S) ⟨h4, _, .inl rfl, a6, a9, a13, rfl⟩ (fun i d ρ S5 hd hI => ?_) (fun ρ S5 hI => ⟨rfl, hI⟩)
  obtain ⟨h5, v, hv, a6, a9, a13, rfl⟩ := hI
  have hm := List.mem_of_getElem? hd
  have li : i < os.length := (List.getElem?_eq_some_iff.mp hd).1
  have dl := ho d hm
  obtain ⟨w, t, ps, rfl, ht, _⟩ := dl.ex
  unfold DueI
  rw [due_step hd]
  obtain ⟨left, hleft⟩ : ∃ left, left = dueL (os.take i) heard := ⟨_, rfl⟩
  have fl : ∀ x ∈ left, Fit 6 21848 x := by rw [hleft]; exact due_let ho i
  have ll : left.length ≤ i := by rw [hleft]; exact (due_take i).2
  rw [← hleft, wq_gN]
  simp only [List.set_cons_succ, List.set_cons_zero]
  refine seqI (fun ρ S => SrcOk S ∧ ρ = ev (some (.sh (.lst os))) (some (.sh (.lst heard))) a5 (some (.sh (.tup (.str w :: ps)))) a7 a8 a9 a10 a11 (some (.ow (.lst left))) (some (.sh (.bl (!(heard.any fun e => ansC (.tup (.str w :: ps)) e))))) a14 a15 a16 a17 a18) ?_ ?_
  · rcases hv with rfl | rfl
    all_goals
      simp only [wq_bind, wq_pure, wq_of, wq_mC, wq_opd, wq_mSlot, wq_resV, wq_resS, wq_mSet, wq_gN, wq_mNx, wq_mIf, wq_seq, wq_asg, wq_ret, wq_drop, wq_op, wq_k1, wq_mB, wq_tru, wq_not, wq_and, wq_or, wq_andV, wq_nil, wq_cons, wq_keep, wq_tup, wq_lst, wq_resL0, wq_resL1, wq_bui, wq_pNo, wq_pIs, wq_sl, wq_call, wq_sq, wq_st, wq_rg, wq_par, wq_var, wq_lc, wq_tg, wq_ag, List.map_cons, List.map_nil, List.cons_append, List.nil_append, List.length_cons, List.length_nil, List.replicate, Nat.reduceAdd, Nat.reduceSub, Nat.sub_zero, List.getElem?_cons_zero, List.getElem?_cons_succ, List.set_cons_zero, List.set_cons_succ, Option.some.injEq, exists_eq_left', exists_eq_left, DV.d, lendR, DL.asB, DL.intD, DL.op1, DL.op2', DL.seqD, w_m1, eqD_int, eqD_str, ltI_eq, subD_eq, addD_int, pow12, lenD_lst, lenD_tup, lenD_str, DL.strO, decide_eq_true_eq, decide_eq_false_iff_not]
      refine wq_lcF (p := fun e => ansC (.tup (.str w :: ps)) e) (f := fun _ => .int 1) (Nat.le_of_lt (few (by omega))) (fun e he => ?_) (fun e he _ => ?_) ?_
      · simp only [wq_bind, wq_pure, wq_of, wq_mC, wq_opd, wq_mSlot, wq_resV, wq_resS, wq_mSet, wq_gN, wq_mNx, wq_mIf, wq_seq, wq_asg, wq_ret, wq_drop, wq_op, wq_k1, wq_mB, wq_tru, wq_not, wq_and, wq_or, wq_andV, wq_nil, wq_cons, wq_keep, wq_tup, wq_lst, wq_resL0, wq_resL1, wq_bui, wq_pNo, wq_pIs, wq_sl, wq_call, wq_sq, wq_st, wq_rg, wq_par, wq_var, wq_lc, wq_tg, wq_ag, List.map_cons, List.map_nil, List.cons_append, List.nil_append, List.length_cons, List.length_nil, List.replicate, Nat.reduceAdd, Nat.reduceSub, Nat.sub_zero, List.getElem?_cons_zero, List.getElem?_cons_succ, List.set_cons_zero, List.set_cons_succ, Option.some.injEq, exists_eq_left', exists_eq_left, DV.d, lendR, DL.asB, DL.intD, DL.op1, DL.op2', DL.seqD, w_m1, eqD_int, eqD_str, ltI_eq, subD_eq, addD_int, pow12, lenD_lst, lenD_tup, lenD_str, DL.strO, decide_eq_true_eq, decide_eq_false_iff_not]
        refine w_lawA rfl dl (hh e he) ?_
        refine ⟨_, rfl, ?_⟩
        refine ⟨?_, ?_, ?_⟩ <;> first | trivial | rfl
      · simp only [wq_bind, wq_pure, wq_of, wq_mC, wq_opd, wq_mSlot, wq_resV, wq_resS, wq_mSet, wq_gN, wq_mNx, wq_mIf, wq_seq, wq_asg, wq_ret, wq_drop, wq_op, wq_k1, wq_mB, wq_tru, wq_not, wq_and, wq_or, wq_andV, wq_nil, wq_cons, wq_keep, wq_tup, wq_lst, wq_resL0, wq_resL1, wq_bui, wq_pNo, wq_pIs, wq_sl, wq_call, wq_sq, wq_st, wq_rg, wq_par, wq_var, wq_lc, wq_tg, wq_ag, List.map_cons, List.map_nil, List.cons_append, List.nil_append, List.length_cons, List.length_nil, List.replicate, Nat.reduceAdd, Nat.reduceSub, Nat.sub_zero, List.getElem?_cons_zero, List.getElem?_cons_succ, List.set_cons_zero, List.set_cons_succ, Option.some.injEq, exists_eq_left', exists_eq_left, DV.d, lendR, DL.asB, DL.intD, DL.op1, DL.op2', DL.seqD, w_m1, eqD_int, eqD_str, ltI_eq, subD_eq, addD_int, pow12, lenD_lst, lenD_tup, lenD_str, DL.strO, decide_eq_true_eq, decide_eq_false_iff_not]
        refine ⟨?_, ?_, ?_⟩ <;> first | trivial | rfl
      · simp only [wq_bind, wq_pure, wq_of, wq_mC, wq_opd, wq_mSlot, wq_resV, wq_resS, wq_mSet, wq_gN, wq_mNx, wq_mIf, wq_seq, wq_asg, wq_ret, wq_drop, wq_op, wq_k1, wq_mB, wq_tru, wq_not, wq_and, wq_or, wq_andV, wq_nil, wq_cons, wq_keep, wq_tup, wq_lst, wq_resL0, wq_resL1, wq_bui, wq_pNo, wq_pIs, wq_sl, wq_call, wq_sq, wq_st, wq_rg, wq_par, wq_var, wq_lc, wq_tg, wq_ag, List.map_cons, List.map_nil, List.cons_append, List.nil_append, List.length_cons, List.length_nil, List.replicate, Nat.reduceAdd, Nat.reduceSub, Nat.sub_zero, List.getElem?_cons_zero, List.getElem?_cons_succ, List.set_cons_zero, List.set_cons_succ, Option.some.injEq, exists_eq_left', exists_eq_left, DV.d, lendR, DL.asB, DL.intD, DL.op1, DL.op2', DL.seqD, w_m1, eqD_int, eqD_str, ltI_eq, subD_eq, addD_int, pow12, lenD_lst, lenD_tup, lenD_str, DL.strO, decide_eq_true_eq, decide_eq_false_iff_not]
        refine ⟨Nat.zero_le _, _, ones_nil, trivial, h5, rfl⟩
  rintro ρ S6 ⟨h6, rfl⟩
  have stp : ∀ {a b : Bool}, (left.any fun z => eqv z (.tup (.str w :: ps))) = a → (heard.any fun e => ansC (.tup (.str w :: ps)) e) = b → step heard left (.tup (.str w :: ps)) = if decide (w ∈ asks6) && (!a && !b) then left ++ [.tup (.str w :: ps)] else left := fun ha hb => by
    unfold step headS
    rw [ha, hb]
  have tl : left.length + 1 ≤ sizeLine := few (by omega)
  simp only [wq_bind, wq_pure, wq_of, wq_mC, wq_opd, wq_mSlot, wq_resV, wq_resS, wq_mSet, wq_gN, wq_mNx, wq_mIf, wq_seq, wq_asg, wq_ret, wq_drop, wq_op, wq_k1, wq_mB, wq_tru, wq_not, wq_and, wq_or, wq_andV, wq_nil, wq_cons, wq_keep, wq_tup, wq_lst, wq_resL0, wq_resL1, wq_bui, wq_pNo, wq_pIs, wq_sl, wq_call, wq_sq, wq_st, wq_rg, wq_par, wq_var, wq_lc, wq_tg, wq_ag, List.map_cons, List.map_nil, List.cons_append, List.nil_append, List.length_cons, List.length_nil, List.replicate, Nat.reduceAdd, Nat.reduceSub, Nat.sub_zero, List.getElem?_cons_zero, List.getElem?_cons_succ, List.set_cons_zero, List.set_cons_succ, Option.some.injEq, exists_eq_left', exists_eq_left, DV.d, lendR, DL.asB, DL.intD, DL.op1, DL.op2', DL.seqD, w_m1, eqD_int, eqD_str, ltI_eq, subD_eq, addD_int, pow12, lenD_lst, lenD_tup, lenD_str, DL.strO, decide_eq_true_eq, decide_eq_false_iff_not]
  simp only [ix0, inAsks, Option.some.injEq, exists_eq_left']
  rw [notIn_lst (n := true) dl.fit fl (by decide)]
  have ig : ∀ a b : Bool, (if true = true then a else b) = a := fun a b => rfl
  simp only [ig, Option.some.injEq, exists_eq_left', truD]
  have fin : ∀ (l : List DL.D), l = step heard left (.tup (.str w :: ps)) → ∃ v : DV, (v = .ow (.lst heard) ∨ v = .sh (.lst heard)) ∧ ∃ a6' a9' a13', (ev (some (.sh (.lst os))) (some (.sh (.lst heard))) a5 (some (.sh (.tup (.str w :: ps)))) a7 a8 a9 a10 a11 (some (.ow (.lst l))) (some (.sh (.bl (!(heard.any fun e => ansC (.tup (.str w :: ps)) e))))) a14 a15 a16 a17 a18 : DL.Env) = ev (some (.sh (.lst os))) (some v) a5 a6' a7 a8 a9' a10 a11 (some (.ow (.lst (step heard left (.tup (.str w :: ps)))))) a13' a14 a15 a16 a17 a18 := fun l hl => ⟨_, .inr rfl, some (.sh (.tup (.str w :: ps))), a9, some (.sh (.bl (!(heard.any fun e => ansC (.tup (.str w :: ps)) e)))), by rw [hl]⟩
  have lk : ∀ x y : Bool, (if True then x else y) = x := fun x y => rfl
  have fin0 : left = step heard left (.tup (.str w :: ps)) → ∃ r, addD (.lst left) (.lst []) = some r ∧ True ∧ SrcOk S6 ∧ ∃ v : DV, (v = .ow (.lst heard) ∨ v = .sh (.lst heard)) ∧ ∃ a6' a9' a13', (ev (some (.sh (.lst os))) (some (.sh (.lst heard))) a5 (some (.sh (.tup (.str w :: ps)))) a7 a8 a9 a10 a11 (some r) (some (.sh (.bl (!(heard.any fun e => ansC (.tup (.str w :: ps)) e))))) a14 a15 a16 a17 a18 : DL.Env) = ev (some (.sh (.lst os))) (some v) a5 a6' a7 a8 a9' a10 a11 (some (.ow (.lst (step heard left (.tup (.str w :: ps)))))) a13' a14 a15 a16 a17 a18 := fun hl =>
    ⟨_, addD_lst (Nat.le_of_lt (few (by show left.length + 0 ≤ 1000; omega))), trivial, h6, fin _ (by rw [List.append_nil]; exact hl)⟩
  refine ⟨fun hw => ⟨fun hb => ⟨fun hc => ?_, fun hc => ?_⟩, fun hb => ?_⟩, fun hw => ?_⟩
  · rw [lk] at hb
    have hb : (left.any fun z => eqv z (.tup (.str w :: ps))) = false := by simpa using hb
    have hc : (heard.any fun e => ansC (.tup (.str w :: ps)) e) = false := by simpa using hc
    exact ⟨(by show 1 ≤ sizeLine; decide), _, addD_lst tl, trivial, h6, fin _ (by rw [stp hb hc, hw]; rfl)⟩
  · rw [lk] at hb
    have hb : (left.any fun z => eqv z (.tup (.str w :: ps))) = false := by simpa using hb
    have hc : (heard.any fun e => ansC (.tup (.str w :: ps)) e) = true := by simpa using hc
    exact ⟨Nat.zero_le _, fin0 (by rw [stp hb hc, hw]; rfl)⟩
  · rw [lk] at hb
    have hb : (left.any fun z => eqv z (.tup (.str w :: ps))) = true := by simpa using hb
    have z : left = step heard left (.tup (.str w :: ps)) := by rw [stp hb rfl, hw]; rfl
    first
      | exact ⟨Nat.zero_le _, fin0 z⟩
      | exact ⟨(fun z => by cases z), fun _ => ⟨Nat.zero_le _, fin0 z⟩⟩
  · have z : left = step heard left (.tup (.str w :: ps)) := by rw [stp rfl rfl, hw]; rfl
    first
      | exact ⟨Nat.zero_le _, fin0 z⟩
      | exact ⟨(fun z => by cases z), fun _ => ⟨Nat.zero_le _, fin0 z⟩⟩
      | exact ⟨(fun z => by cases z), fun _ => ⟨(fun z => by cases z), fun _ => ⟨Nat.zero_le _, fin0 z⟩⟩⟩
end K22
set_option Elab.async false
set_option linter.all false
set_option maxRecDepth 100000
namespace K22
open PySem PySem.Spec PyProof.Rows L2 DL
theorem w_order {ρ : DL.Env} {S : Src} {E : Po DL.D} {os : List Opd} {Q : Po DV} {ρL : DL.Env} {ds : List DL.D} (hl : lendR os ρ = some ([.src, .lst ds], ρL)) (h : SrcOk S) (ls : ds.length ≤ 1000) (hd : ∀ d ∈ ds, Let d)
    (q : ∀ xs S', SrcOk S' → xs.length = ds.length → (∀ d ∈ xs, d ∈ ds) → Q (.ow (.lst xs)) ρ S') : wp (callF F__law_any_order os) ρ S Q E := by
  obtain ⟨r, S', e, xs, rfl, l1, l2, h1⟩ := order_ok h ls
  refine wq_callF hl e ?_
  rw [lets_pur fun d hm => hd d (l2 d hm)]
  exact q xs S' h1 l1 l2
theorem st3_ok {sent heard : List DL.D} {S3 : Src} {a5 a6 a7 a8 a9 a10 a11 a12 a13 a14 a15 a16 a17 a18 : Option DV} (h3 : SrcOk S3) (ls : sent.length ≤ 21) (hs : ∀ d ∈ sent, Let d) :
    wp st3 (ev (some (.ow (.lst sent))) (some (.ow (.lst heard))) a5 a6 a7 a8 a9 a10 a11 a12 a13 a14 a15 a16 a17 a18) S3 (fun f ρ S => f = .nx ∧ SrcOk S ∧ ∃ os : List DL.D, os.length ≤ 21 ∧ (∀ d ∈ os, Let d) ∧ ρ = ev (some (.ow (.lst os))) (some (.ow (.lst heard))) a5 a6 a7 a8 a9 a10 a11 (some (.ow (.lst []))) a13 a14 a15 a16 a17 a18) E0' := by
  unfold st3
  simp only [wq_bind, wq_pure, wq_of, wq_mC, wq_opd, wq_mSlot, wq_resV, wq_resS, wq_mSet, wq_gN, wq_mNx, wq_mIf, wq_seq, wq_asg, wq_ret, wq_drop, wq_op, wq_k1, wq_mB, wq_tru, wq_not, wq_and, wq_or, wq_andV, wq_nil, wq_cons, wq_keep, wq_tup, wq_lst, wq_resL0, wq_resL1, wq_bui, wq_pNo, wq_pIs, wq_sl, wq_call, wq_sq, wq_st, wq_rg, wq_par, wq_var, wq_lc, wq_tg, wq_ag, List.map_cons, List.map_nil, List.cons_append, List.nil_append, List.length_cons, List.length_nil, List.replicate, Nat.reduceAdd, Nat.reduceSub, Nat.sub_zero, List.getElem?_cons_zero, List.getElem?_cons_succ, List.set_cons_zero, List.set_cons_succ, Option.some.injEq, exists_eq_left', exists_eq_left, DV.d, lendR, DL.asB, DL.intD, DL.op1, DL.op2', DL.seqD, w_m1, eqD_int, eqD_str, ltI_eq, subD_eq, addD_int, pow12, lenD_lst, lenD_tup, lenD_str, DL.strO, decide_eq_true_eq, decide_eq_false_iff_not]
  have wo := @w_order
  generalize F__law_any_order = F0 at wo ⊢
  refine wo rfl h3 (Nat.le_trans ls (by decide)) hs fun xs S4 h4 l1 l2 => ?_
  exact ⟨Nat.zero_le _, trivial, h4, xs, by omega, fun d hd => hs d (l2 d hd), rfl⟩
end K22
set_option Elab.async false
set_option linter.all false
set_option maxRecDepth 100000
set_option maxHeartbeats 4000000
namespace K22
open PySem PySem.Spec PyProof.Rows L2 DL
theorem due_all {os heard : List DL.D} (ho : ∀ d ∈ os, Let d) : (∀ x ∈ dueL os heard, Fit 6 21848 x) ∧ (dueL os heard).length ≤ os.length := by
  have a := due_let (heard := heard) ho os.length
  have b := (due_take (sent := os) (heard := heard) os.length).2
  rw [List.take_length] at a b
  exact ⟨a, b⟩
theorem w_unans {ρ : DL.Env} {S : Src} {E : Po DL.D} {xs : List Opd} {Q : Po DV} {ρL : DL.Env} {X Y : DL.D} {os heard : List DL.D} (hl : lendR xs ρ = some ([X, Y], ρL)) (hX : X = .lst os ∨ X = .tup os) (hY : Y = .lst heard ∨ Y = .tup heard) (lo : os.length ≤ 21) (ho : ∀ d ∈ os, Let d) (hh : ∀ d ∈ heard, Let d)
    (q : Q (.sh (.tup (dueL os heard))) ρ S) : wp (callF F_unanswered xs) ρ S Q E := by
  refine wq_callF hl (unans_ok ho hh (by omega) hX hY S) ?_
  have f : Fit 7 458829 (.tup (dueL os heard)) := Fit.tup (due_all ho).1 (by have := (due_all (heard := heard) ho).2; omega)
  rw [f.purV]
  exact q
theorem two_repr {os heard : List DL.D} (lo : os.length ≤ 21) (ho : ∀ d ∈ os, Let d) : reprF (.lst [.tup (dueL os heard), .tup (dueL os heard)]) = some (.sh (.str (shownD (.lst [.tup (dueL os heard), .tup (dueL os heard)])))) := by
  have f : Fit 7 458829 (.tup (dueL os heard)) := Fit.tup (due_all ho).1 (by have := (due_all (heard := heard) ho).2; omega)
  exact Fits.repr (Fits.cons f (Fits.cons f Fits.nil)) (by decide) (by show 2 * 458830 ≤ 1118480; decide)
theorem st5_ok {os heard : List DL.D} {S : Src} {v : DV} {a5 a6 a7 a8 a9 a10 a11 a13 a14 a15 a16 a17 a18 : Option DV} (hv : v = .ow (.lst heard) ∨ v = .sh (.lst heard)) (lo : os.length ≤ 21) (ho : ∀ d ∈ os, Let d) (hh : ∀ d ∈ heard, Let d) :
    wp st5 (ev (some (.sh (.lst os))) (some v) a5 a6 a7 a8 a9 a10 a11 (some (.ow (.lst (dueL os heard)))) a13 a14 a15 a16 a17 a18) S (fun f ρ S' => f = .nx ∧ S' = S ∧ ρ = ev (some (.sh (.lst os))) (some v) a5 a6 a7 a8 a9 a10 a11 (some (.ow (.lst (dueL os heard)))) a13 a14 a15 a16 a17 a18) E0' := by
  unfold st5
  rcases hv with rfl | rfl
  all_goals
    simp only [wq_bind, wq_pure, wq_of, wq_mC, wq_opd, wq_mSlot, wq_resV, wq_resS, wq_mSet, wq_gN, wq_mNx, wq_mIf, wq_seq, wq_asg, wq_ret, wq_drop, wq_op, wq_k1, wq_mB, wq_tru, wq_not, wq_and, wq_or, wq_andV, wq_nil, wq_cons, wq_keep, wq_tup, wq_lst, wq_resL0, wq_resL1, wq_bui, wq_pNo, wq_pIs, wq_sl, wq_call, wq_sq, wq_st, wq_rg, wq_par, wq_var, wq_lc, wq_tg, wq_ag, List.map_cons, List.map_nil, List.cons_append, List.nil_append, List.length_cons, List.length_nil, List.replicate, Nat.reduceAdd, Nat.reduceSub, Nat.sub_zero, List.getElem?_cons_zero, List.getElem?_cons_succ, List.set_cons_zero, List.set_cons_succ, Option.some.injEq, exists_eq_left', exists_eq_left, DV.d, lendR, DL.asB, DL.intD, DL.op1, DL.op2', DL.seqD, w_m1, eqD_int, eqD_str, ltI_eq, subD_eq, addD_int, pow12, lenD_lst, lenD_tup, lenD_str, DL.strO, decide_eq_true_eq, decide_eq_false_iff_not]
    refine w_unans rfl (.inl rfl) (.inl rfl) lo ho hh ?_
    simp only [wq_bind, wq_pure, wq_of, wq_mC, wq_opd, wq_mSlot, wq_resV, wq_resS, wq_mSet, wq_gN, wq_mNx, wq_mIf, wq_seq, wq_asg, wq_ret, wq_drop, wq_op, wq_k1, wq_mB, wq_tru, wq_not, wq_and, wq_or, wq_andV, wq_nil, wq_cons, wq_keep, wq_tup, wq_lst, wq_resL0, wq_resL1, wq_bui, wq_pNo, wq_pIs, wq_sl, wq_call, wq_sq, wq_st, wq_rg, wq_par, wq_var, wq_lc, wq_tg, wq_ag, List.map_cons, List.map_nil, List.cons_append, List.nil_append, List.length_cons, List.length_nil, List.replicate, Nat.reduceAdd, Nat.reduceSub, Nat.sub_zero, List.getElem?_cons_zero, List.getElem?_cons_succ, List.set_cons_zero, List.set_cons_succ, Option.some.injEq, exists_eq_left', exists_eq_left, DV.d, lendR, DL.asB, DL.intD, DL.op1, DL.op2', DL.seqD, w_m1, eqD_int, eqD_str, ltI_eq, subD_eq, addD_int, pow12, lenD_lst, lenD_tup, lenD_str, DL.strO, decide_eq_true_eq, decide_eq_false_iff_not]
    refine ⟨_, tupF_lst, _, tupF_lst, ?_⟩
    refine w_unans rfl (.inr rfl) (.inr rfl) lo ho hh ?_
    simp only [wq_bind, wq_pure, wq_of, wq_mC, wq_opd, wq_mSlot, wq_resV, wq_resS, wq_mSet, wq_gN, wq_mNx, wq_mIf, wq_seq, wq_asg, wq_ret, wq_drop, wq_op, wq_k1, wq_mB, wq_tru, wq_not, wq_and, wq_or, wq_andV, wq_nil, wq_cons, wq_keep, wq_tup, wq_lst, wq_resL0, wq_resL1, wq_bui, wq_pNo, wq_pIs, wq_sl, wq_call, wq_sq, wq_st, wq_rg, wq_par, wq_var, wq_lc, wq_tg, wq_ag, List.map_cons, List.map_nil, List.cons_append, List.nil_append, List.length_cons, List.length_nil, List.replicate, Nat.reduceAdd, Nat.reduceSub, Nat.sub_zero, List.getElem?_cons_zero, List.getElem?_cons_succ, List.set_cons_zero, List.set_cons_succ, Option.some.injEq, exists_eq_left', exists_eq_left, DV.d, lendR, DL.asB, DL.intD, DL.op1, DL.op2', DL.seqD, w_m1, eqD_int, eqD_str, ltI_eq, subD_eq, addD_int, pow12, lenD_lst, lenD_tup, lenD_str, DL.strO, decide_eq_true_eq, decide_eq_false_iff_not]
    refine ⟨(by show 2 ≤ sizeLine; decide), _, two_repr lo ho, _, tupF_lst, (by show 1 ≤ sizeLine; decide), _, rfl, ?_⟩
    refine ⟨_, two_repr lo ho, _, neD_str, _, rfl, fun z => ?_, fun _ => ?_⟩
    · simp at z
    · exact ⟨trivial, trivial, trivial⟩
end K22
set_option Elab.async false
set_option linter.all false
set_option maxRecDepth 100000
set_option maxHeartbeats 4000000
namespace K22
open PySem PySem.Spec PyProof.Rows L2 DL
theorem st0_ok {S : Src} : wp st0 lawEnv S (fun f ρ S' => f = .nx ∧ S' = S ∧ ρ = ev none none none none none none none none none none none none none none none none) E0' := by
  unfold st0 lawEnv
  simp only [wq_bind, wq_pure, wq_of, wq_mC, wq_opd, wq_mSlot, wq_resV, wq_resS, wq_mSet, wq_gN, wq_mNx, wq_mIf, wq_seq, wq_asg, wq_ret, wq_drop, wq_op, wq_k1, wq_mB, wq_tru, wq_not, wq_and, wq_or, wq_andV, wq_nil, wq_cons, wq_keep, wq_tup, wq_lst, wq_resL0, wq_resL1, wq_bui, wq_pNo, wq_pIs, wq_sl, wq_call, wq_sq, wq_st, wq_rg, wq_par, wq_var, wq_lc, wq_tg, wq_ag, List.map_cons, List.map_nil, List.cons_append, List.nil_append, List.length_cons, List.length_nil, List.replicate, Nat.reduceAdd, Nat.reduceSub, Nat.sub_zero, List.getElem?_cons_zero, List.getElem?_cons_succ, List.set_cons_zero, List.set_cons_succ, Option.some.injEq, exists_eq_left', exists_eq_left, DV.d, lendR, DL.asB, DL.intD, DL.op1, DL.op2', DL.seqD, w_m1, eqD_int, eqD_str, ltI_eq, subD_eq, addD_int, pow12, lenD_lst, lenD_tup, lenD_str, DL.strO, decide_eq_true_eq, decide_eq_false_iff_not]
  exact ⟨(by show 6 ≤ sizeLine; decide), trivial, trivial, rfl⟩
theorem st1_ok {S : Src} : wp st1 (ev none none none none none none none none none none none none none none none none) S (fun f ρ S' => f = .nx ∧ S' = S ∧ ρ = ev (some (.ow (.lst []))) (some (.ow (.lst []))) none none none none none none none none none none none none none none) E0' := by
  unfold st1
  simp only [wq_bind, wq_pure, wq_of, wq_mC, wq_opd, wq_mSlot, wq_resV, wq_resS, wq_mSet, wq_gN, wq_mNx, wq_mIf, wq_seq, wq_asg, wq_ret, wq_drop, wq_op, wq_k1, wq_mB, wq_tru, wq_not, wq_and, wq_or, wq_andV, wq_nil, wq_cons, wq_keep, wq_tup, wq_lst, wq_resL0, wq_resL1, wq_bui, wq_pNo, wq_pIs, wq_sl, wq_call, wq_sq, wq_st, wq_rg, wq_par, wq_var, wq_lc, wq_tg, wq_ag, List.map_cons, List.map_nil, List.cons_append, List.nil_append, List.length_cons, List.length_nil, List.replicate, Nat.reduceAdd, Nat.reduceSub, Nat.sub_zero, List.getElem?_cons_zero, List.getElem?_cons_succ, List.set_cons_zero, List.set_cons_succ, Option.some.injEq, exists_eq_left', exists_eq_left, DV.d, lendR, DL.asB, DL.intD, DL.op1, DL.op2', DL.seqD, w_m1, eqD_int, eqD_str, ltI_eq, subD_eq, addD_int, pow12, lenD_lst, lenD_tup, lenD_str, DL.strO, decide_eq_true_eq, decide_eq_false_iff_not]
  exact ⟨Nat.zero_le _, Nat.zero_le _, trivial, trivial, trivial⟩
end K22
set_option Elab.async false
set_option linter.all false
set_option maxRecDepth 100000
set_option maxHeartbeats 4000000
namespace K22
open PySem PySem.Spec PyProof.Rows L2 DL
def dicF3 : List (Key × DL.D) := dicF.take 3
theorem putF1 : putO (.str (Str.ofString "bar")) (.tup [.str (Str.ofString "barred"), .str (Str.ofString "moment")]) (.dic dicF3) = some (.dic (dicF.take 4)) := by rfl
theorem putF2 : putO (.str (Str.ofString "end")) (.tup [.str (Str.ofString "ends"), .str (Str.ofString "holds"), .str (Str.ofString "moment")]) (.dic (dicF.take 4)) = some (.dic dicF) := by rfl
theorem st6_ok {S : Src} {a3 a4 a5 a6 a7 a8 a9 a10 a11 a12 a13 a14 a15 a16 a17 a18 : Option DV} : wp st6 (ev a3 a4 a5 a6 a7 a8 a9 a10 a11 a12 a13 a14 a15 a16 a17 a18) S (fun f ρ S' => f = .nx ∧ S' = S ∧ ρ = ev a3 a4 a5 a6 a7 a8 a9 a10 a11 a12 a13 (some (.ow (.dic dicF3))) a15 a16 a17 a18) E0' := by
  unfold st6
  simp only [wq_bind, wq_pure, wq_of, wq_mC, wq_opd, wq_mSlot, wq_resV, wq_resS, wq_mSet, wq_gN, wq_mNx, wq_mIf, wq_seq, wq_asg, wq_ret, wq_drop, wq_op, wq_k1, wq_mB, wq_tru, wq_not, wq_and, wq_or, wq_andV, wq_nil, wq_cons, wq_keep, wq_tup, wq_lst, wq_resL0, wq_resL1, wq_bui, wq_pNo, wq_pIs, wq_sl, wq_call, wq_sq, wq_st, wq_rg, wq_par, wq_var, wq_lc, wq_tg, wq_ag, List.map_cons, List.map_nil, List.cons_append, List.nil_append, List.length_cons, List.length_nil, List.replicate, Nat.reduceAdd, Nat.reduceSub, Nat.sub_zero, List.getElem?_cons_zero, List.getElem?_cons_succ, List.set_cons_zero, List.set_cons_succ, Option.some.injEq, exists_eq_left', exists_eq_left, DV.d, lendR, DL.asB, DL.intD, DL.op1, DL.op2', DL.seqD, w_m1, eqD_int, eqD_str, ltI_eq, subD_eq, addD_int, pow12, lenD_lst, lenD_tup, lenD_str, DL.strO, decide_eq_true_eq, decide_eq_false_iff_not]
  simp only [wq_disp, wq_pCons, wq_pNil]
  simp only [wq_bind, wq_pure, wq_of, wq_mC, wq_opd, wq_mSlot, wq_resV, wq_resS, wq_mSet, wq_gN, wq_mNx, wq_mIf, wq_seq, wq_asg, wq_ret, wq_drop, wq_op, wq_k1, wq_mB, wq_tru, wq_not, wq_and, wq_or, wq_andV, wq_nil, wq_cons, wq_keep, wq_tup, wq_lst, wq_resL0, wq_resL1, wq_bui, wq_pNo, wq_pIs, wq_sl, wq_call, wq_sq, wq_st, wq_rg, wq_par, wq_var, wq_lc, wq_tg, wq_ag, List.map_cons, List.map_nil, List.cons_append, List.nil_append, List.length_cons, List.length_nil, List.replicate, Nat.reduceAdd, Nat.reduceSub, Nat.sub_zero, List.getElem?_cons_zero, List.getElem?_cons_succ, List.set_cons_zero, List.set_cons_succ, Option.some.injEq, exists_eq_left', exists_eq_left, DV.d, lendR, DL.asB, DL.intD, DL.op1, DL.op2', DL.seqD, w_m1, eqD_int, eqD_str, ltI_eq, subD_eq, addD_int, pow12, lenD_lst, lenD_tup, lenD_str, DL.strO, decide_eq_true_eq, decide_eq_false_iff_not]
  exact ⟨(by show 2 ≤ sizeLine; decide), (by show 3 ≤ sizeLine; decide), (by show 3 ≤ sizeLine; decide), _, rfl, trivial, trivial, rfl⟩
theorem st7_ok {S : Src} {a3 a4 a5 a6 a7 a8 a9 a10 a11 a12 a13 a15 a16 a17 a18 : Option DV} : wp st7 (ev a3 a4 a5 a6 a7 a8 a9 a10 a11 a12 a13 (some (.ow (.dic dicF3))) a15 a16 a17 a18) S (fun f ρ S' => f = .nx ∧ S' = S ∧ ρ = ev a3 a4 a5 a6 a7 a8 a9 a10 a11 a12 a13 (some (.ow (.dic dicF))) a15 a16 a17 a18) E0' := by
  unfold st7
  simp only [wq_asgH]
  simp only [wq_bind, wq_pure, wq_of, wq_mC, wq_opd, wq_mSlot, wq_resV, wq_resS, wq_mSet, wq_gN, wq_mNx, wq_mIf, wq_seq, wq_asg, wq_ret, wq_drop, wq_op, wq_k1, wq_mB, wq_tru, wq_not, wq_and, wq_or, wq_andV, wq_nil, wq_cons, wq_keep, wq_tup, wq_lst, wq_resL0, wq_resL1, wq_bui, wq_pNo, wq_pIs, wq_sl, wq_call, wq_sq, wq_st, wq_rg, wq_par, wq_var, wq_lc, wq_tg, wq_ag, List.map_cons, List.map_nil, List.cons_append, List.nil_append, List.length_cons, List.length_nil, List.replicate, Nat.reduceAdd, Nat.reduceSub, Nat.sub_zero, List.getElem?_cons_zero, List.getElem?_cons_succ, List.set_cons_zero, List.set_cons_succ, Option.some.injEq, exists_eq_left', exists_eq_left, DV.d, lendR, DL.asB, DL.intD, DL.op1, DL.op2', DL.seqD, w_m1, eqD_int, eqD_str, ltI_eq, subD_eq, addD_int, pow12, lenD_lst, lenD_tup, lenD_str, DL.strO, decide_eq_true_eq, decide_eq_false_iff_not]
  refine ⟨(by show 2 ≤ sizeLine; decide), (by show 3 ≤ sizeLine; decide), (by show 2 ≤ sizeLine; decide), ?_⟩
  simp only [wq_gTp2]
  refine wq_gSb rfl rfl putF1 ?_
  refine wq_gSb rfl rfl putF2 ?_
  refine ⟨?_, ?_, ?_⟩ <;> first | trivial | rfl
end K22
set_option Elab.async false
set_option linter.all false
set_option maxRecDepth 100000
set_option maxHeartbeats 4000000
namespace K22
open PySem PySem.Spec PyProof.Rows L2 DL
theorem wq_get2 {mo mk mz : M Opd} {ρ : DL.Env} {S : Src} {E : Po DL.D} {Q : Po DV} : wp (mGet2 mo mk mz) ρ S Q E = wp mo ρ S (fun o ρ1 S1 => wp (isDicM o) ρ1 S1 (fun _ ρ2 S2 => wp mk ρ2 S2 (fun k ρ3 S3 => wp mz ρ3 S3 (fun z ρ4 S4 => wp (res o) ρ4 S4 (fun d ρ5 S5 => wp (res k) ρ5 S5 (fun kd ρ6 S6 => ∃ p, lendR [z] ρ6 = some p ∧ ∃ r, (match p.1 with | [zd] => getF d kd zd | _ => none) = some r ∧ Q r p.2 S6) E) E) E) E) E) E := by
  unfold mGet2
  simp only [wq_bind, wq_of, wq_keep]
  all_goals rfl
theorem wq_isDic {o : Opd} {ρ : DL.Env} {S : Src} {E : Po DL.D} {Q : Po Unit} : wp (isDicM o) ρ S Q E = wp (res o) ρ S (fun d ρ1 S1 => ∃ u : Unit, (show Option Unit from match d with | .dic _ => some () | _ => none) = some u ∧ Q u ρ1 S1) E := by
  unfold isDicM
  simp only [wq_bind, wq_of]
  all_goals rfl
theorem st8_ok {os heard : List DL.D} {S : Src} {v : DV} {a5 a6 a7 a8 a9 a10 a11 a12 a13 a15 a16 a17 a18 : Option DV} (hv : v = .ow (.lst heard) ∨ v = .sh (.lst heard)) (lo : os.length ≤ 21) (lh : heard.length ≤ 21) (ho : ∀ d ∈ os, Let d) (hh : ∀ d ∈ heard, Let d) :
    wp st8 (ev (some (.sh (.lst os))) (some v) a5 a6 a7 a8 a9 a10 a11 a12 a13 (some (.ow (.dic dicF))) a15 a16 a17 a18) S (fun f ρ S' => f = .nx ∧ S' = S ∧ ∃ a6, ρ = ev (some (.sh (.lst os))) (some v) a5 a6 a7 a8 a9 a10 a11 a12 a13 (some (.ow (.dic dicF))) a15 a16 a17 a18) E0' := by
  unfold st8
  have loop : ∀ ds : List DL.D, (∀ d ∈ ds, Let d) → wp (mFor (gN 6) (mSeq (mIf (mB (mOp neD (opd (mCall F_fields_of (aCons (mSlot 6) (aNil)))) (opd (mGet2 (mSlot 14) (opd (mOp ixD (mSlot 6) (opd (mC (.int 0))))) (opd (mTup (aNil))))))) (mSeq (mRet (mC (.bl false))) (mNx)) (mNx)) (mNx)) ds)
      (ev (some (.sh (.lst os))) (some v) a5 a6 a7 a8 a9 a10 a11 a12 a13 (some (.ow (.dic dicF))) a15 a16 a17 a18) S (fun f ρ S' => f = .nx ∧ S' = S ∧ ∃ a6, ρ = ev (some (.sh (.lst os))) (some v) a5 a6 a7 a8 a9 a10 a11 a12 a13 (some (.ow (.dic dicF))) a15 a16 a17 a18) E0' := fun ds hds => by
    refine wq_for (I := fun i ρ S' => S' = S ∧ ∃ a6, ρ = ev (some (.sh (.lst os))) (some v) a5 a6 a7 a8 a9 a10 a11 a12 a13 (some (.ow (.dic dicF))) a15 a16 a17 a18) ⟨rfl, a6, rfl⟩ (fun i d ρ S1 hd hI => ?_) (fun ρ S1 hI => ⟨rfl, hI⟩)
    obtain ⟨hS, a6, hρ⟩ := hI
    subst hS
    subst hρ
    obtain ⟨w, t, ps, rfl, ht, _⟩ := (hds d (List.mem_of_getElem? hd)).ex
    have fn := fields_ne w (words_of ht)
    simp only [wq_bind, wq_pure, wq_of, wq_mC, wq_opd, wq_mSlot, wq_resV, wq_resS, wq_mSet, wq_gN, wq_mNx, wq_mIf, wq_seq, wq_asg, wq_ret, wq_drop, wq_op, wq_k1, wq_mB, wq_tru, wq_not, wq_and, wq_or, wq_andV, wq_nil, wq_cons, wq_keep, wq_tup, wq_lst, wq_resL0, wq_resL1, wq_bui, wq_pNo, wq_pIs, wq_sl, wq_call, wq_sq, wq_st, wq_rg, wq_par, wq_var, wq_lc, wq_tg, wq_ag, List.map_cons, List.map_nil, List.cons_append, List.nil_append, List.length_cons, List.length_nil, List.replicate, Nat.reduceAdd, Nat.reduceSub, Nat.sub_zero, List.getElem?_cons_zero, List.getElem?_cons_succ, List.set_cons_zero, List.set_cons_succ, Option.some.injEq, exists_eq_left', exists_eq_left, DV.d, lendR, DL.asB, DL.intD, DL.op1, DL.op2', DL.seqD, w_m1, eqD_int, eqD_str, ltI_eq, subD_eq, addD_int, pow12, lenD_lst, lenD_tup, lenD_str, DL.strO, decide_eq_true_eq, decide_eq_false_iff_not]
    refine wq_callF rfl (fields_ok _) ?_
    rw [show purV (.sh ((t_FIELDS.lookup w).getD (.tup []))) = true from fn.2, if_pos rfl]
    simp only [wq_get2, wq_isDic]
    simp only [wq_bind, wq_pure, wq_of, wq_mC, wq_opd, wq_mSlot, wq_resV, wq_resS, wq_mSet, wq_gN, wq_mNx, wq_mIf, wq_seq, wq_asg, wq_ret, wq_drop, wq_op, wq_k1, wq_mB, wq_tru, wq_not, wq_and, wq_or, wq_andV, wq_nil, wq_cons, wq_keep, wq_tup, wq_lst, wq_resL0, wq_resL1, wq_bui, wq_pNo, wq_pIs, wq_sl, wq_call, wq_sq, wq_st, wq_rg, wq_par, wq_var, wq_lc, wq_tg, wq_ag, List.map_cons, List.map_nil, List.cons_append, List.nil_append, List.length_cons, List.length_nil, List.replicate, Nat.reduceAdd, Nat.reduceSub, Nat.sub_zero, List.getElem?_cons_zero, List.getElem?_cons_succ, List.set_cons_zero, List.set_cons_succ, Option.some.injEq, exists_eq_left', exists_eq_left, DV.d, lendR, DL.asB, DL.intD, DL.op1, DL.op2', DL.seqD, w_m1, eqD_int, eqD_str, ltI_eq, subD_eq, addD_int, pow12, lenD_lst, lenD_tup, lenD_str, DL.strO, decide_eq_true_eq, decide_eq_false_iff_not]
    simp only [ix0, Option.some.injEq, exists_eq_left']
    refine ⟨(), trivial, Nat.zero_le _, _, rfl, ?_⟩
    refine ⟨_, fn.1, _, rfl, (fun z => by cases z), fun _ => ?_⟩
    exact ⟨trivial, trivial, _, rfl⟩
  rcases hv with rfl | rfl
  all_goals
    simp only [wq_bind, wq_pure, wq_of, wq_mC, wq_opd, wq_mSlot, wq_resV, wq_resS, wq_mSet, wq_gN, wq_mNx, wq_mIf, wq_seq, wq_asg, wq_ret, wq_drop, wq_op, wq_k1, wq_mB, wq_tru, wq_not, wq_and, wq_or, wq_andV, wq_nil, wq_cons, wq_keep, wq_tup, wq_lst, wq_resL0, wq_resL1, wq_bui, wq_pNo, wq_pIs, wq_sl, wq_call, wq_sq, wq_st, wq_rg, wq_par, wq_var, wq_lc, wq_tg, wq_ag, List.map_cons, List.map_nil, List.cons_append, List.nil_append, List.length_cons, List.length_nil, List.replicate, Nat.reduceAdd, Nat.reduceSub, Nat.sub_zero, List.getElem?_cons_zero, List.getElem?_cons_succ, List.set_cons_zero, List.set_cons_succ, Option.some.injEq, exists_eq_left', exists_eq_left, DV.d, lendR, DL.asB, DL.intD, DL.op1, DL.op2', DL.seqD, w_m1, eqD_int, eqD_str, ltI_eq, subD_eq, addD_int, pow12, lenD_lst, lenD_tup, lenD_str, DL.strO, decide_eq_true_eq, decide_eq_false_iff_not]
    refine ⟨_, addD_lst (Nat.le_of_lt (few (by omega))), _, rfl, ?_⟩
    exact loop _ fun d hd => (List.mem_append.mp hd).elim (ho d) (hh d)
end K22
set_option Elab.async false
set_option linter.all false
set_option maxRecDepth 100000
set_option maxHeartbeats 4000000
namespace K22
open PySem PySem.Spec PyProof.Rows L2 DL
theorem st9_ok {os heard : List DL.D} {S : Src} {v : DV} {a5 a6 a7 a8 a9 a10 a11 a12 a13 a14 a15 a16 a17 a18 : Option DV} (h : SrcOk S) (hv : v = .ow (.lst heard) ∨ v = .sh (.lst heard)) (lo : os.length ≤ 21) (lh : heard.length ≤ 21) (ho : ∀ d ∈ os, Let d) (hh : ∀ d ∈ heard, Let d) :
    wp st9 (ev (some (.sh (.lst os))) (some v) a5 a6 a7 a8 a9 a10 a11 a12 a13 a14 a15 a16 a17 a18) S (fun f ρ S' => f = .nx ∧ SrcOk S' ∧ ∃ air : List DL.D, air.length ≤ 11 ∧ (∀ d ∈ air, Let d) ∧ ρ = ev (some (.sh (.lst os))) (some v) a5 a6 a7 a8 a9 a10 a11 a12 a13 a14 (some (.sh (.tup air))) a16 a17 a18) E0' := by
  unfold st9
  rcases hv with rfl | rfl
  all_goals
    simp only [wq_bind, wq_pure, wq_of, wq_mC, wq_opd, wq_mSlot, wq_resV, wq_resS, wq_mSet, wq_gN, wq_mNx, wq_mIf, wq_seq, wq_asg, wq_ret, wq_drop, wq_op, wq_k1, wq_mB, wq_tru, wq_not, wq_and, wq_or, wq_andV, wq_nil, wq_cons, wq_keep, wq_tup, wq_lst, wq_resL0, wq_resL1, wq_bui, wq_pNo, wq_pIs, wq_sl, wq_call, wq_sq, wq_st, wq_rg, wq_par, wq_var, wq_lc, wq_tg, wq_ag, List.map_cons, List.map_nil, List.cons_append, List.nil_append, List.length_cons, List.length_nil, List.replicate, Nat.reduceAdd, Nat.reduceSub, Nat.sub_zero, List.getElem?_cons_zero, List.getElem?_cons_succ, List.set_cons_zero, List.set_cons_succ, Option.some.injEq, exists_eq_left', exists_eq_left, DV.d, lendR, DL.asB, DL.intD, DL.op1, DL.op2', DL.seqD, w_m1, eqD_int, eqD_str, ltI_eq, subD_eq, addD_int, pow12, lenD_lst, lenD_tup, lenD_str, DL.strO, decide_eq_true_eq, decide_eq_false_iff_not]
    refine ⟨_, addD_lst (Nat.le_of_lt (few (by omega))), _, tupF_lst, ?_⟩
    refine w_pick (n := 12) rfl h (by decide) (by decide) fun k T hT k0 k1 => ?_
    simp only [wq_bind, wq_pure, wq_of, wq_mC, wq_opd, wq_mSlot, wq_resV, wq_resS, wq_mSet, wq_gN, wq_mNx, wq_mIf, wq_seq, wq_asg, wq_ret, wq_drop, wq_op, wq_k1, wq_mB, wq_tru, wq_not, wq_and, wq_or, wq_andV, wq_nil, wq_cons, wq_keep, wq_tup, wq_lst, wq_resL0, wq_resL1, wq_bui, wq_pNo, wq_pIs, wq_sl, wq_call, wq_sq, wq_st, wq_rg, wq_par, wq_var, wq_lc, wq_tg, wq_ag, List.map_cons, List.map_nil, List.cons_append, List.nil_append, List.length_cons, List.length_nil, List.replicate, Nat.reduceAdd, Nat.reduceSub, Nat.sub_zero, List.getElem?_cons_zero, List.getElem?_cons_succ, List.set_cons_zero, List.set_cons_succ, Option.some.injEq, exists_eq_left', exists_eq_left, DV.d, lendR, DL.asB, DL.intD, DL.op1, DL.op2', DL.seqD, w_m1, eqD_int, eqD_str, ltI_eq, subD_eq, addD_int, pow12, lenD_lst, lenD_tup, lenD_str, DL.strO, decide_eq_true_eq, decide_eq_false_iff_not]
    refine ⟨_, slD_tup, trivial, hT, _, ?_, fun d hd => ?_, rfl⟩
    · exact Nat.le_trans (cut_len k0) (by omega)
    · exact (List.mem_append.mp (cut_mem d hd)).elim (hh d) (ho d)
end K22
set_option Elab.async false
set_option linter.all false
set_option maxRecDepth 100000
set_option maxHeartbeats 4000000
namespace K22
open PySem PySem.Spec PyProof.Rows L2 DL
theorem out_nil {k : Int} (S : Src) : F_taken_out [.tup [], .int k] S = some (.ret (.sh (.tup [.non, .tup []])) S) := by rfl
theorem dbl_nil {k : Int} (S : Src) : F_doubled [.tup [], .int k] S = some (.ret (.sh (.tup [])) S) := by rfl
theorem dbl_ok {air : List DL.D} (la : air.length ≤ 1000) (ne : air ≠ []) {k p : Int} {x : DL.D} (hp : p = k % air.length) (hx : ixD (.tup air) (.int p) = some (.sh x)) (S : Src) : F_doubled [.tup air, .int k] S = some (.ret (.sh (.tup (air ++ [x]))) S) := by
  have l0 : 0 < air.length := List.length_pos_iff.mpr ne
  refine exact_of ?_
  unfold m_doubled
  simp only [wq_bind, wq_pure, wq_of, wq_mC, wq_opd, wq_mSlot, wq_resV, wq_resS, wq_mSet, wq_gN, wq_mNx, wq_mIf, wq_seq, wq_asg, wq_ret, wq_drop, wq_op, wq_k1, wq_mB, wq_tru, wq_not, wq_and, wq_or, wq_andV, wq_nil, wq_cons, wq_keep, wq_tup, wq_lst, wq_resL0, wq_resL1, wq_bui, wq_pNo, wq_pIs, wq_sl, wq_call, wq_sq, wq_st, wq_rg, wq_par, wq_var, wq_lc, wq_tg, wq_ag, List.map_cons, List.map_nil, List.cons_append, List.nil_append, List.length_cons, List.length_nil, List.replicate, Nat.reduceAdd, Nat.reduceSub, Nat.sub_zero, List.getElem?_cons_zero, List.getElem?_cons_succ, List.set_cons_zero, List.set_cons_succ, Option.some.injEq, exists_eq_left', exists_eq_left, DV.d, lendR, DL.asB, DL.intD, DL.op1, DL.op2', DL.seqD, w_m1, eqD_int, eqD_str, ltI_eq, subD_eq, addD_int, pow12, lenD_lst, lenD_tup, lenD_str, DL.strO, decide_eq_true_eq, decide_eq_false_iff_not]
  refine ⟨!air.isEmpty, rfl, ?_⟩
  have e0 : air.isEmpty = false := by cases air with | nil => exact absurd rfl ne | cons _ _ => rfl
  rw [e0]
  refine ⟨fun _ => ?_, (fun z => by cases z)⟩
  refine ⟨_, modD_ok (by omega), ?_⟩
  rw [← hp]
  simp only [wq_bind, wq_pure, wq_of, wq_mC, wq_opd, wq_mSlot, wq_resV, wq_resS, wq_mSet, wq_gN, wq_mNx, wq_mIf, wq_seq, wq_asg, wq_ret, wq_drop, wq_op, wq_k1, wq_mB, wq_tru, wq_not, wq_and, wq_or, wq_andV, wq_nil, wq_cons, wq_keep, wq_tup, wq_lst, wq_resL0, wq_resL1, wq_bui, wq_pNo, wq_pIs, wq_sl, wq_call, wq_sq, wq_st, wq_rg, wq_par, wq_var, wq_lc, wq_tg, wq_ag, List.map_cons, List.map_nil, List.cons_append, List.nil_append, List.length_cons, List.length_nil, List.replicate, Nat.reduceAdd, Nat.reduceSub, Nat.sub_zero, List.getElem?_cons_zero, List.getElem?_cons_succ, List.set_cons_zero, List.set_cons_succ, Option.some.injEq, exists_eq_left', exists_eq_left, DV.d, lendR, DL.asB, DL.intD, DL.op1, DL.op2', DL.seqD, w_m1, eqD_int, eqD_str, ltI_eq, subD_eq, addD_int, pow12, lenD_lst, lenD_tup, lenD_str, DL.strO, decide_eq_true_eq, decide_eq_false_iff_not]
  refine ⟨_, hx, (by show 1 ≤ sizeLine; decide), _, addD_tup (by have : sizeLine = 16777216 := sizeLine_eq; show air.length + 1 ≤ sizeLine; omega), _, rfl, rfl, trivial⟩
theorem st11_ok {ρ : DL.Env} {S : Src} : wp st11 ρ S (fun f _ _ => f = .ret (.sh (.bl true))) E0' := rfl
end K22
set_option Elab.async false
set_option linter.all false
set_option maxRecDepth 100000
set_option maxHeartbeats 4000000
namespace K22
open PySem PySem.Spec PyProof.Rows L2 DL
def t0 : M Fl := mAsg (mCall F__law_pick (aCons (mSlot 1) (aCons (opd (mC (.int 40))) (aNil)))) 16
def t1 : M Fl := mAsg (mOp modD (opd (mBui (op1 intF) (aCons (mSlot 16) (aNil)))) (opd (mBui (op2' max2) (aCons (opd (mC (.int 1))) (aCons (opd (mBui (op1 lenD) (aCons (mSlot 15) (aNil)))) (aNil)))))) 17
def t2 : M Fl := mAsg (mIf (mB (mOp neD (mSlot 15) (opd (mTup (aNil))))) (mTup (aCons (opd (mOp ixD (mSlot 15) (mSlot 17))) (aCons (opd (mOp addD (opd (mSl (mSlot 15) (pNo) (pIs (mSlot 17)))) (opd (mSl (mSlot 15) (pIs (opd (mOp addD (mSlot 17) (opd (mC (.int 1)))))) (pNo))))) (aNil)))) (mTup (aCons (opd (mC .non)) (aCons (opd (mTup (aNil))) (aNil))))) 12
def t3 : M Fl := mIf (mB (mOp neD (opd (mBui (op1 reprF) (aCons (opd (mLst (aCons (opd (mCall F_taken_out (aCons (mSlot 15) (aCons (mSlot 16) (aNil))))) (aCons (opd (mCall F_doubled (aCons (mSlot 15) (aCons (mSlot 16) (aNil))))) (aNil))))) (aNil)))) (opd (mBui (op1 reprF) (aCons (opd (mLst (aCons (mSlot 12) (aCons (opd (mOp addD (mSlot 15) (opd (mSl (mSlot 15) (pIs (mSlot 17)) (pIs (opd (mOp addD (mSlot 17) (opd (mC (.int 1)))))))))) (aNil))))) (aNil)))))) (mSeq (mRet (mC (.bl false))) (mNx)) (mNx)
def t4 : M Fl := mSq (mLst (aCons (opd (mTup (aCons (opd (mC (.str "store"))) (aNil)))) (aCons (opd (mTup (aCons (opd (mC (.str "keeper"))) (aNil)))) (aCons (opd (mTup (aCons (opd (mC (.str "machine"))) (aCons (opd (mCall F__law_pick (aCons (mSlot 1) (aCons (opd (mC (.int 8))) (aNil))))) (aNil))))) (aNil))))) >>= mFor (gN 18) (mSeq (mIf (mB (mOp neD (opd (mCall F_for_whom (aCons (mSlot 15) (aCons (mSlot 18) (aNil))))) (opd (mBui (op1 tupF) (aCons (opd (mLc [6] (mSq (mVar 15)) (gN 6) (mB (mOp eqD (opd (mCall F_goes_to (aCons (mSlot 6) (aNil)))) (mSlot 18))) (mVar 6))) (aNil)))))) (mSeq (mRet (mC (.bl false))) (mNx)) (mNx)) (mNx))
theorem st10_eq : st10 = mRg rg1 (aCons (opd (mC (.int 3))) (aNil)) >>= mFor (gN 5) (mSeq t0 (mSeq t1 (mSeq t2 (mSeq t3 (mSeq t4 (mNx)))))) := rfl
theorem ix_tup {ds : List DL.D} {i : Int} (h0 : 0 ≤ i) (h1 : i < ds.length) : ∃ x ∈ ds, ixD (.tup ds) (.int i) = some (.sh x) := by
  obtain ⟨x, hx, e⟩ := atI_mem h0 h1
  exact ⟨x, hx, by unfold ixD; simp only [e, Option.map_some]⟩
theorem ix_atI {ds : List DL.D} {i : Int} {x : DL.D} (h0 : 0 ≤ i) (e : ixD (.tup ds) (.int i) = some (.sh x)) : ds[i.toNat]? = some x := by
  unfold ixD at e
  simp only at e
  obtain ⟨y, hy, z⟩ := Option.map_eq_some_iff.mp e
  cases z
  unfold atI ixN at hy
  rw [if_pos h0] at hy
  split at hy
  · exact hy
  · cases hy
theorem intF_int {i : Int} : intF (.int i) = some (.sh (.int i)) := rfl
theorem max2_int {i j : Int} : max2 (.int i) (.int j) = some (.sh (.int (if j > i then j else i))) := rfl
theorem cut_all {α : Type} {xs : List α} {p : Int} : (cutL xs none (some p)).length + (cutL xs (some (p + 1)) none).length ≤ 2 * xs.length := by
  have c1 : ∀ (lo hi : Option Int), (cutL xs lo hi).length ≤ xs.length := fun lo hi => by
    unfold cutL
    rw [List.length_take, List.length_drop]; omega
  have := c1 none (some p)
  have := c1 (some (p + 1)) none
  omega
theorem cut_out {α : Type} {xs : List α} {p : Int} (h0 : 0 ≤ p) (h1 : p < xs.length) : (cutL xs none (some p) ++ cutL xs (some (p + 1)) none).length + 1 = xs.length := by
  have s1 : HT.sIx xs.length xs.length (some p) = p.toNat := by
    unfold HT.sIx
    simp only
    have : ¬ p < 0 := by omega
    simp [this]
    omega
  have s2 : HT.sIx xs.length 0 (some (p + 1)) = p.toNat + 1 := by
    unfold HT.sIx
    simp only
    have : ¬ p + 1 < 0 := by omega
    simp [this]
    omega
  unfold cutL
  rw [s1, s2, show HT.sIx xs.length 0 none = 0 from rfl, show HT.sIx xs.length xs.length none = xs.length from rfl]
  rw [List.length_append, List.length_take, List.length_take, List.length_drop, List.length_drop]
  omega
theorem cut_one {ds : List DL.D} {p : Int} {x : DL.D} (h0 : 0 ≤ p) (h1 : p < ds.length) (hx : ixD (.tup ds) (.int p) = some (.sh x)) : cutL ds (some p) (some (p + 1)) = [x] := by
  have hx := ix_atI h0 hx
  have s1 : HT.sIx ds.length 0 (some p) = p.toNat := by
    unfold HT.sIx
    simp only
    have : ¬ p < 0 := by omega
    simp [this]
    omega
  have s2 : HT.sIx ds.length ds.length (some (p + 1)) = p.toNat + 1 := by
    unfold HT.sIx
    simp only
    have : ¬ p + 1 < 0 := by omega
    simp [this]
    omega
  unfold cutL
  rw [s1, s2, show p.toNat + 1 - p.toNat = 1 from by omega]
  refine List.ext_getElem? fun i => ?_
  cases i with
  | zero => rw [List.getElem?_take, if_pos (by decide), List.getElem?_drop]; simpa using hx
  | succ i => rw [List.getElem?_take, if_neg (by omega)]; rfl
theorem t4_ok {air : List DL.D} {S : Src} {a3 a4 a5 a6 a7 a8 a9 a10 a11 a12 a13 a14 a16 a17 a18 : Option DV} (h : SrcOk S) (la : air.length ≤ 11) (ha : ∀ d ∈ air, Let d) :
    wp t4 (ev a3 a4 a5 a6 a7 a8 a9 a10 a11 a12 a13 a14 (some (.sh (.tup air))) a16 a17 a18) S (fun f ρ S' => f = .nx ∧ SrcOk S' ∧ ∃ a18, ρ = ev a3 a4 a5 a6 a7 a8 a9 a10 a11 a12 a13 a14 (some (.sh (.tup air))) a16 a17 a18) E0' := by
  unfold t4
  simp only [wq_bind, wq_pure, wq_of, wq_mC, wq_opd, wq_mSlot, wq_resV, wq_resS, wq_mSet, wq_gN, wq_mNx, wq_mIf, wq_seq, wq_asg, wq_ret, wq_drop, wq_op, wq_k1, wq_mB, wq_tru, wq_not, wq_and, wq_or, wq_andV, wq_nil, wq_cons, wq_keep, wq_tup, wq_lst, wq_resL0, wq_resL1, wq_bui, wq_pNo, wq_pIs, wq_sl, wq_call, wq_sq, wq_st, wq_rg, wq_par, wq_var, wq_lc, wq_tg, wq_ag, List.map_cons, List.map_nil, List.cons_append, List.nil_append, List.length_cons, List.length_nil, List.replicate, Nat.reduceAdd, Nat.reduceSub, Nat.sub_zero, List.getElem?_cons_zero, List.getElem?_cons_succ, List.set_cons_zero, List.set_cons_succ, Option.some.injEq, exists_eq_left', exists_eq_left, DV.d, lendR, DL.asB, DL.intD, DL.op1, DL.op2', DL.seqD, w_m1, eqD_int, eqD_str, ltI_eq, subD_eq, addD_int, pow12, lenD_lst, lenD_tup, lenD_str, DL.strO, decide_eq_true_eq, decide_eq_false_iff_not]
  refine ⟨(by show 1 ≤ sizeLine; decide), (by show 1 ≤ sizeLine; decide), ?_⟩
  refine w_pick (n := 8) rfl h (by decide) (by decide) fun k T hT k0 k1 => ?_
  simp only [wq_bind, wq_pure, wq_of, wq_mC, wq_opd, wq_mSlot, wq_resV, wq_resS, wq_mSet, wq_gN, wq_mNx, wq_mIf, wq_seq, wq_asg, wq_ret, wq_drop, wq_op, wq_k1, wq_mB, wq_tru, wq_not, wq_and, wq_or, wq_andV, wq_nil, wq_cons, wq_keep, wq_tup, wq_lst, wq_resL0, wq_resL1, wq_bui, wq_pNo, wq_pIs, wq_sl, wq_call, wq_sq, wq_st, wq_rg, wq_par, wq_var, wq_lc, wq_tg, wq_ag, List.map_cons, List.map_nil, List.cons_append, List.nil_append, List.length_cons, List.length_nil, List.replicate, Nat.reduceAdd, Nat.reduceSub, Nat.sub_zero, List.getElem?_cons_zero, List.getElem?_cons_succ, List.set_cons_zero, List.set_cons_succ, Option.some.injEq, exists_eq_left', exists_eq_left, DV.d, lendR, DL.asB, DL.intD, DL.op1, DL.op2', DL.seqD, w_m1, eqD_int, eqD_str, ltI_eq, subD_eq, addD_int, pow12, lenD_lst, lenD_tup, lenD_str, DL.strO, decide_eq_true_eq, decide_eq_false_iff_not]
  refine ⟨(by show 2 ≤ sizeLine; decide), (by show 3 ≤ sizeLine; decide), ?_⟩
  refine wq_for (I := fun i ρ S' => SrcOk S' ∧ ∃ a18, ρ = ev a3 a4 a5 a6 a7 a8 a9 a10 a11 a12 a13 a14 (some (.sh (.tup air))) a16 a17 a18) ⟨hT, a18, rfl⟩ (fun i g ρ S1 hg hI => ?_) (fun ρ S1 hI => ⟨rfl, hI⟩)
  obtain ⟨h1, a18, rfl⟩ := hI
  have gf : Fit 6 6000 g := by
    have m := List.mem_of_getElem? hg
    simp only [List.mem_cons, List.not_mem_nil, or_false] at m
    rcases m with rfl | rfl | rfl
    · exact store_fit.mono (by decide) (by decide)
    · exact Fit.mono (Fit.tup (k := 0) (b := 10) (n := 20) (fun d hd => by rw [List.mem_singleton.mp hd]; exact Fit.str (by decide +kernel) (by decide +kernel)) (by decide)) (by decide) (by decide)
    · refine Fit.mono (Fit.tup (k := 0) (b := 10) (n := 30) (fun d hd => ?_) (by show 2 * 11 ≤ 30; decide)) (by decide) (by decide)
      rcases List.mem_cons.mp hd with rfl | hd
      · exact Fit.str (by decide +kernel) (by decide +kernel)
      · rw [List.mem_singleton.mp hd]; exact Fit.int (by omega)
  simp only [wq_bind, wq_pure, wq_of, wq_mC, wq_opd, wq_mSlot, wq_resV, wq_resS, wq_mSet, wq_gN, wq_mNx, wq_mIf, wq_seq, wq_asg, wq_ret, wq_drop, wq_op, wq_k1, wq_mB, wq_tru, wq_not, wq_and, wq_or, wq_andV, wq_nil, wq_cons, wq_keep, wq_tup, wq_lst, wq_resL0, wq_resL1, wq_bui, wq_pNo, wq_pIs, wq_sl, wq_call, wq_sq, wq_st, wq_rg, wq_par, wq_var, wq_lc, wq_tg, wq_ag, List.map_cons, List.map_nil, List.cons_append, List.nil_append, List.length_cons, List.length_nil, List.replicate, Nat.reduceAdd, Nat.reduceSub, Nat.sub_zero, List.getElem?_cons_zero, List.getElem?_cons_succ, List.set_cons_zero, List.set_cons_succ, Option.some.injEq, exists_eq_left', exists_eq_left, DV.d, lendR, DL.asB, DL.intD, DL.op1, DL.op2', DL.seqD, w_m1, eqD_int, eqD_str, ltI_eq, subD_eq, addD_int, pow12, lenD_lst, lenD_tup, lenD_str, DL.strO, decide_eq_true_eq, decide_eq_false_iff_not]
  refine wq_callF rfl (whom_ok ha (by omega) gf S1) ?_
  have fit : Fit 7 240339 (.tup (air.filter fun d => eqv (goesC d) g)) := Fit.tup (k := 6) (b := 21848) (fun d hd => (ha d (List.mem_filter.mp hd).1).fit) (by have := List.length_filter_le (fun d => eqv (goesC d) g) air; omega)
  rw [fit.purV, if_pos rfl]
  simp only [wq_bind, wq_pure, wq_of, wq_mC, wq_opd, wq_mSlot, wq_resV, wq_resS, wq_mSet, wq_gN, wq_mNx, wq_mIf, wq_seq, wq_asg, wq_ret, wq_drop, wq_op, wq_k1, wq_mB, wq_tru, wq_not, wq_and, wq_or, wq_andV, wq_nil, wq_cons, wq_keep, wq_tup, wq_lst, wq_resL0, wq_resL1, wq_bui, wq_pNo, wq_pIs, wq_sl, wq_call, wq_sq, wq_st, wq_rg, wq_par, wq_var, wq_lc, wq_tg, wq_ag, List.map_cons, List.map_nil, List.cons_append, List.nil_append, List.length_cons, List.length_nil, List.replicate, Nat.reduceAdd, Nat.reduceSub, Nat.sub_zero, List.getElem?_cons_zero, List.getElem?_cons_succ, List.set_cons_zero, List.set_cons_succ, Option.some.injEq, exists_eq_left', exists_eq_left, DV.d, lendR, DL.asB, DL.intD, DL.op1, DL.op2', DL.seqD, w_m1, eqD_int, eqD_str, ltI_eq, subD_eq, addD_int, pow12, lenD_lst, lenD_tup, lenD_str, DL.strO, decide_eq_true_eq, decide_eq_false_iff_not]
  refine wq_lcF (p := fun d => eqv (goesC d) g) (f := id) (K := fun acc => DV.ow (.lst acc)) (Nat.le_of_lt (few (by omega))) (fun d hd => ?_) (fun d hd _ => ?_) ?_
  · simp only [wq_bind, wq_pure, wq_of, wq_mC, wq_opd, wq_mSlot, wq_resV, wq_resS, wq_mSet, wq_gN, wq_mNx, wq_mIf, wq_seq, wq_asg, wq_ret, wq_drop, wq_op, wq_k1, wq_mB, wq_tru, wq_not, wq_and, wq_or, wq_andV, wq_nil, wq_cons, wq_keep, wq_tup, wq_lst, wq_resL0, wq_resL1, wq_bui, wq_pNo, wq_pIs, wq_sl, wq_call, wq_sq, wq_st, wq_rg, wq_par, wq_var, wq_lc, wq_tg, wq_ag, List.map_cons, List.map_nil, List.cons_append, List.nil_append, List.length_cons, List.length_nil, List.replicate, Nat.reduceAdd, Nat.reduceSub, Nat.sub_zero, List.getElem?_cons_zero, List.getElem?_cons_succ, List.set_cons_zero, List.set_cons_succ, Option.some.injEq, exists_eq_left', exists_eq_left, DV.d, lendR, DL.asB, DL.intD, DL.op1, DL.op2', DL.seqD, w_m1, eqD_int, eqD_str, ltI_eq, subD_eq, addD_int, pow12, lenD_lst, lenD_tup, lenD_str, DL.strO, decide_eq_true_eq, decide_eq_false_iff_not]
    refine w_goesC rfl (ha d hd) ?_
    simp only [wq_bind, wq_pure, wq_of, wq_mC, wq_opd, wq_mSlot, wq_resV, wq_resS, wq_mSet, wq_gN, wq_mNx, wq_mIf, wq_seq, wq_asg, wq_ret, wq_drop, wq_op, wq_k1, wq_mB, wq_tru, wq_not, wq_and, wq_or, wq_andV, wq_nil, wq_cons, wq_keep, wq_tup, wq_lst, wq_resL0, wq_resL1, wq_bui, wq_pNo, wq_pIs, wq_sl, wq_call, wq_sq, wq_st, wq_rg, wq_par, wq_var, wq_lc, wq_tg, wq_ag, List.map_cons, List.map_nil, List.cons_append, List.nil_append, List.length_cons, List.length_nil, List.replicate, Nat.reduceAdd, Nat.reduceSub, Nat.sub_zero, List.getElem?_cons_zero, List.getElem?_cons_succ, List.set_cons_zero, List.set_cons_succ, Option.some.injEq, exists_eq_left', exists_eq_left, DV.d, lendR, DL.asB, DL.intD, DL.op1, DL.op2', DL.seqD, w_m1, eqD_int, eqD_str, ltI_eq, subD_eq, addD_int, pow12, lenD_lst, lenD_tup, lenD_str, DL.strO, decide_eq_true_eq, decide_eq_false_iff_not]
    refine ⟨_, (goesC_ok (ha d hd)).2.eqD gf (.inl (by decide)), _, rfl, ?_⟩
    refine ⟨?_, ?_, ?_⟩ <;> first | rfl | trivial
  · simp only [wq_bind, wq_pure, wq_of, wq_mC, wq_opd, wq_mSlot, wq_resV, wq_resS, wq_mSet, wq_gN, wq_mNx, wq_mIf, wq_seq, wq_asg, wq_ret, wq_drop, wq_op, wq_k1, wq_mB, wq_tru, wq_not, wq_and, wq_or, wq_andV, wq_nil, wq_cons, wq_keep, wq_tup, wq_lst, wq_resL0, wq_resL1, wq_bui, wq_pNo, wq_pIs, wq_sl, wq_call, wq_sq, wq_st, wq_rg, wq_par, wq_var, wq_lc, wq_tg, wq_ag, List.map_cons, List.map_nil, List.cons_append, List.nil_append, List.length_cons, List.length_nil, List.replicate, Nat.reduceAdd, Nat.reduceSub, Nat.sub_zero, List.getElem?_cons_zero, List.getElem?_cons_succ, List.set_cons_zero, List.set_cons_succ, Option.some.injEq, exists_eq_left', exists_eq_left, DV.d, lendR, DL.asB, DL.intD, DL.op1, DL.op2', DL.seqD, w_m1, eqD_int, eqD_str, ltI_eq, subD_eq, addD_int, pow12, lenD_lst, lenD_tup, lenD_str, DL.strO, decide_eq_true_eq, decide_eq_false_iff_not]
    refine ⟨?_, ?_, ?_⟩ <;> first | rfl | trivial
  · rw [List.map_id]
    simp only [wq_bind, wq_pure, wq_of, wq_mC, wq_opd, wq_mSlot, wq_resV, wq_resS, wq_mSet, wq_gN, wq_mNx, wq_mIf, wq_seq, wq_asg, wq_ret, wq_drop, wq_op, wq_k1, wq_mB, wq_tru, wq_not, wq_and, wq_or, wq_andV, wq_nil, wq_cons, wq_keep, wq_tup, wq_lst, wq_resL0, wq_resL1, wq_bui, wq_pNo, wq_pIs, wq_sl, wq_call, wq_sq, wq_st, wq_rg, wq_par, wq_var, wq_lc, wq_tg, wq_ag, List.map_cons, List.map_nil, List.cons_append, List.nil_append, List.length_cons, List.length_nil, List.replicate, Nat.reduceAdd, Nat.reduceSub, Nat.sub_zero, List.getElem?_cons_zero, List.getElem?_cons_succ, List.set_cons_zero, List.set_cons_succ, Option.some.injEq, exists_eq_left', exists_eq_left, DV.d, lendR, DL.asB, DL.intD, DL.op1, DL.op2', DL.seqD, w_m1, eqD_int, eqD_str, ltI_eq, subD_eq, addD_int, pow12, lenD_lst, lenD_tup, lenD_str, DL.strO, decide_eq_true_eq, decide_eq_false_iff_not]
    refine ⟨_, tupF_lst, _, neD_refl fit (by decide), _, rfl, (fun z => by cases z), fun _ => ?_⟩
    exact ⟨trivial, h1, _, rfl⟩
theorem t3_ok {air : List DL.D} {S : Src} {k p : Int} {due : DL.D} {ex : List DL.D} {a3 a4 a5 a6 a7 a8 a9 a10 a11 a13 a14 a18 : Option DV} (la : air.length ≤ 11) (ha : ∀ d ∈ air, Let d)
    (ho : F_taken_out [.tup air, .int k] S = some (.ret (.sh due) S)) (hd : F_doubled [.tup air, .int k] S = some (.ret (.sh (.tup (air ++ ex))) S)) (hc : cutL air (some p) (some (p + 1)) = ex) (lx : ex.length ≤ 1) (hx : ∀ d ∈ ex, Let d) (fd : Fit 8 480000 due) :
    wp t3 (ev a3 a4 a5 a6 a7 a8 a9 a10 a11 (some (.sh due)) a13 a14 (some (.sh (.tup air))) (some (.sh (.int k))) (some (.sh (.int p))) a18) S (fun f ρ S' => f = .nx ∧ S' = S ∧ ρ = ev a3 a4 a5 a6 a7 a8 a9 a10 a11 (some (.sh due)) a13 a14 (some (.sh (.tup air))) (some (.sh (.int k))) (some (.sh (.int p))) a18) E0' := by
  unfold t3
  simp only [wq_bind, wq_pure, wq_of, wq_mC, wq_opd, wq_mSlot, wq_resV, wq_resS, wq_mSet, wq_gN, wq_mNx, wq_mIf, wq_seq, wq_asg, wq_ret, wq_drop, wq_op, wq_k1, wq_mB, wq_tru, wq_not, wq_and, wq_or, wq_andV, wq_nil, wq_cons, wq_keep, wq_tup, wq_lst, wq_resL0, wq_resL1, wq_bui, wq_pNo, wq_pIs, wq_sl, wq_call, wq_sq, wq_st, wq_rg, wq_par, wq_var, wq_lc, wq_tg, wq_ag, List.map_cons, List.map_nil, List.cons_append, List.nil_append, List.length_cons, List.length_nil, List.replicate, Nat.reduceAdd, Nat.reduceSub, Nat.sub_zero, List.getElem?_cons_zero, List.getElem?_cons_succ, List.set_cons_zero, List.set_cons_succ, Option.some.injEq, exists_eq_left', exists_eq_left, DV.d, lendR, DL.asB, DL.intD, DL.op1, DL.op2', DL.seqD, w_m1, eqD_int, eqD_str, ltI_eq, subD_eq, addD_int, pow12, lenD_lst, lenD_tup, lenD_str, DL.strO, decide_eq_true_eq, decide_eq_false_iff_not]
  refine wq_callF rfl ho ?_
  rw [fd.purV, if_pos rfl]
  simp only [wq_bind, wq_pure, wq_of, wq_mC, wq_opd, wq_mSlot, wq_resV, wq_resS, wq_mSet, wq_gN, wq_mNx, wq_mIf, wq_seq, wq_asg, wq_ret, wq_drop, wq_op, wq_k1, wq_mB, wq_tru, wq_not, wq_and, wq_or, wq_andV, wq_nil, wq_cons, wq_keep, wq_tup, wq_lst, wq_resL0, wq_resL1, wq_bui, wq_pNo, wq_pIs, wq_sl, wq_call, wq_sq, wq_st, wq_rg, wq_par, wq_var, wq_lc, wq_tg, wq_ag, List.map_cons, List.map_nil, List.cons_append, List.nil_append, List.length_cons, List.length_nil, List.replicate, Nat.reduceAdd, Nat.reduceSub, Nat.sub_zero, List.getElem?_cons_zero, List.getElem?_cons_succ, List.set_cons_zero, List.set_cons_succ, Option.some.injEq, exists_eq_left', exists_eq_left, DV.d, lendR, DL.asB, DL.intD, DL.op1, DL.op2', DL.seqD, w_m1, eqD_int, eqD_str, ltI_eq, subD_eq, addD_int, pow12, lenD_lst, lenD_tup, lenD_str, DL.strO, decide_eq_true_eq, decide_eq_false_iff_not]
  refine wq_callF rfl hd ?_
  have fa : Fit 8 480000 (.tup (air ++ ex)) := Fit.mono (Fit.tup (k := 6) (b := 21848) (n := 262188) (fun d h => ((List.mem_append.mp h).elim (ha d) (hx d)).fit) (by rw [List.length_append]; omega)) (by decide) (by decide)
  rw [fa.purV, if_pos rfl]
  simp only [wq_bind, wq_pure, wq_of, wq_mC, wq_opd, wq_mSlot, wq_resV, wq_resS, wq_mSet, wq_gN, wq_mNx, wq_mIf, wq_seq, wq_asg, wq_ret, wq_drop, wq_op, wq_k1, wq_mB, wq_tru, wq_not, wq_and, wq_or, wq_andV, wq_nil, wq_cons, wq_keep, wq_tup, wq_lst, wq_resL0, wq_resL1, wq_bui, wq_pNo, wq_pIs, wq_sl, wq_call, wq_sq, wq_st, wq_rg, wq_par, wq_var, wq_lc, wq_tg, wq_ag, List.map_cons, List.map_nil, List.cons_append, List.nil_append, List.length_cons, List.length_nil, List.replicate, Nat.reduceAdd, Nat.reduceSub, Nat.sub_zero, List.getElem?_cons_zero, List.getElem?_cons_succ, List.set_cons_zero, List.set_cons_succ, Option.some.injEq, exists_eq_left', exists_eq_left, DV.d, lendR, DL.asB, DL.intD, DL.op1, DL.op2', DL.seqD, w_m1, eqD_int, eqD_str, ltI_eq, subD_eq, addD_int, pow12, lenD_lst, lenD_tup, lenD_str, DL.strO, decide_eq_true_eq, decide_eq_false_iff_not]
  have rp : reprF (.lst [due, .tup (air ++ ex)]) = some (.sh (.str (shownD (.lst [due, .tup (air ++ ex)])))) := Fits.repr (Fits.cons fd (Fits.cons fa Fits.nil)) (by decide) (by show 2 * 480001 ≤ 1118480; decide)
  refine ⟨(by show 2 ≤ sizeLine; decide), _, rp, ?_⟩
  simp only [wq_bind, wq_pure, wq_of, wq_mC, wq_opd, wq_mSlot, wq_resV, wq_resS, wq_mSet, wq_gN, wq_mNx, wq_mIf, wq_seq, wq_asg, wq_ret, wq_drop, wq_op, wq_k1, wq_mB, wq_tru, wq_not, wq_and, wq_or, wq_andV, wq_nil, wq_cons, wq_keep, wq_tup, wq_lst, wq_resL0, wq_resL1, wq_bui, wq_pNo, wq_pIs, wq_sl, wq_call, wq_sq, wq_st, wq_rg, wq_par, wq_var, wq_lc, wq_tg, wq_ag, List.map_cons, List.map_nil, List.cons_append, List.nil_append, List.length_cons, List.length_nil, List.replicate, Nat.reduceAdd, Nat.reduceSub, Nat.sub_zero, List.getElem?_cons_zero, List.getElem?_cons_succ, List.set_cons_zero, List.set_cons_succ, Option.some.injEq, exists_eq_left', exists_eq_left, DV.d, lendR, DL.asB, DL.intD, DL.op1, DL.op2', DL.seqD, w_m1, eqD_int, eqD_str, ltI_eq, subD_eq, addD_int, pow12, lenD_lst, lenD_tup, lenD_str, DL.strO, decide_eq_true_eq, decide_eq_false_iff_not]
  refine ⟨_, slD_tup, ?_⟩
  rw [hc]
  refine ⟨_, addD_tup (Nat.le_of_lt (few (by omega))), (by show 2 ≤ sizeLine; decide), _, rp, _, neD_str, _, rfl, fun z => ?_, fun _ => ?_⟩
  · simp at z
  · exact ⟨trivial, trivial, trivial⟩
theorem st10_ok {air : List DL.D} {S : Src} {a3 a4 a5 a6 a7 a8 a9 a10 a11 a12 a13 a14 a16 a17 a18 : Option DV} (h : SrcOk S) (la : air.length ≤ 11) (ha : ∀ d ∈ air, Let d) :
    wp st10 (ev a3 a4 a5 a6 a7 a8 a9 a10 a11 a12 a13 a14 (some (.sh (.tup air))) a16 a17 a18) S (fun f ρ S' => f = .nx) E0' := by
  rw [st10_eq]
  rw [wq_bind, wq_rg]
  simp only [wq_bind, wq_pure, wq_of, wq_mC, wq_opd, wq_mSlot, wq_resV, wq_resS, wq_mSet, wq_gN, wq_mNx, wq_mIf, wq_seq, wq_asg, wq_ret, wq_drop, wq_op, wq_k1, wq_mB, wq_tru, wq_not, wq_and, wq_or, wq_andV, wq_nil, wq_cons, wq_keep, wq_tup, wq_lst, wq_resL0, wq_resL1, wq_bui, wq_pNo, wq_pIs, wq_sl, wq_call, wq_sq, wq_st, wq_rg, wq_par, wq_var, wq_lc, wq_tg, wq_ag, List.map_cons, List.map_nil, List.cons_append, List.nil_append, List.length_cons, List.length_nil, List.replicate, Nat.reduceAdd, Nat.reduceSub, Nat.sub_zero, List.getElem?_cons_zero, List.getElem?_cons_succ, List.set_cons_zero, List.set_cons_succ, Option.some.injEq, exists_eq_left', exists_eq_left, DV.d, lendR, DL.asB, DL.intD, DL.op1, DL.op2', DL.seqD, w_m1, eqD_int, eqD_str, ltI_eq, subD_eq, addD_int, pow12, lenD_lst, lenD_tup, lenD_str, DL.strO, decide_eq_true_eq, decide_eq_false_iff_not]
  refine ⟨rangeL 0 3, rfl, ?_⟩
  refine wq_for (I := fun i ρ S' => SrcOk S' ∧ ∃ a5 a12 a16 a17 a18, ρ = ev a3 a4 a5 a6 a7 a8 a9 a10 a11 a12 a13 a14 (some (.sh (.tup air))) a16 a17 a18) ⟨h, a5, a12, a16, a17, a18, rfl⟩ (fun i d ρ S1 hd hI => ?_) (fun ρ S1 hI => rfl)
  obtain ⟨h1, a5, a12, a16, a17, a18, rfl⟩ := hI
  rw [wq_gN]
  simp only [List.set_cons_succ, List.set_cons_zero]
  refine seqI (fun ρ S' => SrcOk S' ∧ ∃ k : Int, 0 ≤ k ∧ ρ = ev a3 a4 (some (.sh d)) a6 a7 a8 a9 a10 a11 a12 a13 a14 (some (.sh (.tup air))) (some (.sh (.int k))) a17 a18) ?_ ?_
  · unfold t0
    simp only [wq_bind, wq_pure, wq_of, wq_mC, wq_opd, wq_mSlot, wq_resV, wq_resS, wq_mSet, wq_gN, wq_mNx, wq_mIf, wq_seq, wq_asg, wq_ret, wq_drop, wq_op, wq_k1, wq_mB, wq_tru, wq_not, wq_and, wq_or, wq_andV, wq_nil, wq_cons, wq_keep, wq_tup, wq_lst, wq_resL0, wq_resL1, wq_bui, wq_pNo, wq_pIs, wq_sl, wq_call, wq_sq, wq_st, wq_rg, wq_par, wq_var, wq_lc, wq_tg, wq_ag, List.map_cons, List.map_nil, List.cons_append, List.nil_append, List.length_cons, List.length_nil, List.replicate, Nat.reduceAdd, Nat.reduceSub, Nat.sub_zero, List.getElem?_cons_zero, List.getElem?_cons_succ, List.set_cons_zero, List.set_cons_succ, Option.some.injEq, exists_eq_left', exists_eq_left, DV.d, lendR, DL.asB, DL.intD, DL.op1, DL.op2', DL.seqD, w_m1, eqD_int, eqD_str, ltI_eq, subD_eq, addD_int, pow12, lenD_lst, lenD_tup, lenD_str, DL.strO, decide_eq_true_eq, decide_eq_false_iff_not]
    refine w_pick (n := 40) rfl h1 (by decide) (by decide) fun k T hT k0 k1 => ?_
    exact ⟨trivial, hT, k, k0, rfl⟩
  rintro ρ S2 ⟨h2, k, k0, rfl⟩
  obtain ⟨m, hm⟩ : ∃ m : Int, m = if (air.length : Int) > 1 then (air.length : Int) else 1 := ⟨_, rfl⟩
  have m0 : 0 < m := by rw [hm]; split <;> omega
  refine seqI (fun ρ S' => S' = S2 ∧ ρ = ev a3 a4 (some (.sh d)) a6 a7 a8 a9 a10 a11 a12 a13 a14 (some (.sh (.tup air))) (some (.sh (.int k))) (some (.sh (.int (k % m)))) a18) ?_ ?_
  · unfold t1
    simp only [wq_bind, wq_pure, wq_of, wq_mC, wq_opd, wq_mSlot, wq_resV, wq_resS, wq_mSet, wq_gN, wq_mNx, wq_mIf, wq_seq, wq_asg, wq_ret, wq_drop, wq_op, wq_k1, wq_mB, wq_tru, wq_not, wq_and, wq_or, wq_andV, wq_nil, wq_cons, wq_keep, wq_tup, wq_lst, wq_resL0, wq_resL1, wq_bui, wq_pNo, wq_pIs, wq_sl, wq_call, wq_sq, wq_st, wq_rg, wq_par, wq_var, wq_lc, wq_tg, wq_ag, List.map_cons, List.map_nil, List.cons_append, List.nil_append, List.length_cons, List.length_nil, List.replicate, Nat.reduceAdd, Nat.reduceSub, Nat.sub_zero, List.getElem?_cons_zero, List.getElem?_cons_succ, List.set_cons_zero, List.set_cons_succ, Option.some.injEq, exists_eq_left', exists_eq_left, DV.d, lendR, DL.asB, DL.intD, DL.op1, DL.op2', DL.seqD, w_m1, eqD_int, eqD_str, ltI_eq, subD_eq, addD_int, pow12, lenD_lst, lenD_tup, lenD_str, DL.strO, decide_eq_true_eq, decide_eq_false_iff_not]
    simp only [intF_int, max2_int, Option.some.injEq, exists_eq_left']
    rw [← hm]
    refine ⟨_, modD_ok m0, trivial, trivial, rfl⟩
  rintro ρ S3 ⟨rfl, rfl⟩
  obtain ⟨p, hp⟩ : ∃ p, p = k % m := ⟨_, rfl⟩
  rw [← hp]
  have p0 : 0 ≤ p := by rw [hp]; exact Int.emod_nonneg _ (by omega)
  have p1 : p < m := by rw [hp]; exact Int.emod_lt_of_pos _ m0
  by_cases ne : air = []
  · have e1 : eqv (.tup air) (.tup []) = true := by rw [eqv_nil, ne]; rfl
    have fair : Fit 7 480000 (.tup air) := Fit.tup (k := 6) (b := 21848) (fun d h => (ha d h).fit) (by omega)
    refine seqI (fun ρ S' => S' = S3 ∧ ρ = ev a3 a4 (some (.sh d)) a6 a7 a8 a9 a10 a11 (some (.sh (.tup [.non, .tup []]))) a13 a14 (some (.sh (.tup air))) (some (.sh (.int k))) (some (.sh (.int p))) a18) ?_ ?_
    · unfold t2
      simp only [wq_bind, wq_pure, wq_of, wq_mC, wq_opd, wq_mSlot, wq_resV, wq_resS, wq_mSet, wq_gN, wq_mNx, wq_mIf, wq_seq, wq_asg, wq_ret, wq_drop, wq_op, wq_k1, wq_mB, wq_tru, wq_not, wq_and, wq_or, wq_andV, wq_nil, wq_cons, wq_keep, wq_tup, wq_lst, wq_resL0, wq_resL1, wq_bui, wq_pNo, wq_pIs, wq_sl, wq_call, wq_sq, wq_st, wq_rg, wq_par, wq_var, wq_lc, wq_tg, wq_ag, List.map_cons, List.map_nil, List.cons_append, List.nil_append, List.length_cons, List.length_nil, List.replicate, Nat.reduceAdd, Nat.reduceSub, Nat.sub_zero, List.getElem?_cons_zero, List.getElem?_cons_succ, List.set_cons_zero, List.set_cons_succ, Option.some.injEq, exists_eq_left', exists_eq_left, DV.d, lendR, DL.asB, DL.intD, DL.op1, DL.op2', DL.seqD, w_m1, eqD_int, eqD_str, ltI_eq, subD_eq, addD_int, pow12, lenD_lst, lenD_tup, lenD_str, DL.strO, decide_eq_true_eq, decide_eq_false_iff_not]
      refine ⟨Nat.zero_le _, ?_⟩
      refine ⟨_, fair.neD (Fit.tup (k := 0) (b := 0) (n := 0) (fun _ z => by cases z) (by decide)) (.inl (by decide)), _, rfl, fun z => ?_, fun _ => ?_⟩
      · rw [e1] at z; cases z
      · exact ⟨Nat.zero_le _, (by show 2 ≤ sizeLine; decide), trivial, trivial, trivial⟩
    rintro ρ S4 ⟨rfl, rfl⟩
    refine seqI (fun ρ S' => S' = S4 ∧ ρ = ev a3 a4 (some (.sh d)) a6 a7 a8 a9 a10 a11 (some (.sh (.tup [.non, .tup []]))) a13 a14 (some (.sh (.tup air))) (some (.sh (.int k))) (some (.sh (.int p))) a18) ?_ ?_
    · refine t3_ok (ex := []) la ha (by rw [ne]; exact out_nil S4) (by rw [ne]; exact dbl_nil S4) ?_ (by decide) (fun _ z => by cases z) ?_
      · rw [ne]; unfold cutL; rw [List.drop_nil, List.take_nil]
      · refine Fit.mono (Fit.tup (k := 1) (b := 10) (n := 22) (fun d hd => ?_) (by decide)) (by decide) (by decide)
        rcases List.mem_cons.mp hd with rfl | hd
        · exact Fit.non
        · rw [List.mem_singleton.mp hd]; exact Fit.tup (k := 0) (b := 0) (fun _ z => by cases z) (by decide)
    rintro ρ S5 ⟨rfl, rfl⟩
    refine seqI (fun ρ S' => SrcOk S' ∧ ∃ a18, ρ = ev a3 a4 (some (.sh d)) a6 a7 a8 a9 a10 a11 (some (.sh (.tup [.non, .tup []]))) a13 a14 (some (.sh (.tup air))) (some (.sh (.int k))) (some (.sh (.int p))) a18) (t4_ok h2 la ha) ?_
    rintro ρ S6 ⟨h6, a18, rfl⟩
    rw [wq_mNx]
    exact ⟨rfl, h6, _, _, _, _, _, rfl⟩
  · have l0 : 0 < air.length := List.length_pos_iff.mpr ne
    have em : m = air.length := by rw [hm]; split <;> omega
    have p1 : p < air.length := by omega
    obtain ⟨x, hx, ex⟩ := ix_tup p0 p1
    have hp : p = k % air.length := by rw [hp, em]
    have e0 : eqv (.tup air) (.tup []) = false := by rw [eqv_nil]; cases air with | nil => exact absurd rfl ne | cons _ _ => rfl
    have cm : ∀ d ∈ cutL air none (some p) ++ cutL air (some (p + 1)) none, Let d := fun d hd => (List.mem_append.mp hd).elim (fun h => ha d (cut_mem d h)) fun h => ha d (cut_mem d h)
    have fair : Fit 7 480000 (.tup air) := Fit.tup (k := 6) (b := 21848) (fun d h => (ha d h).fit) (by omega)
    have cl := cut_all (xs := air) (p := p)
    refine seqI (fun ρ S' => S' = S3 ∧ ρ = ev a3 a4 (some (.sh d)) a6 a7 a8 a9 a10 a11 (some (.sh (outD air p x))) a13 a14 (some (.sh (.tup air))) (some (.sh (.int k))) (some (.sh (.int p))) a18) ?_ ?_
    · unfold t2
      simp only [wq_bind, wq_pure, wq_of, wq_mC, wq_opd, wq_mSlot, wq_resV, wq_resS, wq_mSet, wq_gN, wq_mNx, wq_mIf, wq_seq, wq_asg, wq_ret, wq_drop, wq_op, wq_k1, wq_mB, wq_tru, wq_not, wq_and, wq_or, wq_andV, wq_nil, wq_cons, wq_keep, wq_tup, wq_lst, wq_resL0, wq_resL1, wq_bui, wq_pNo, wq_pIs, wq_sl, wq_call, wq_sq, wq_st, wq_rg, wq_par, wq_var, wq_lc, wq_tg, wq_ag, List.map_cons, List.map_nil, List.cons_append, List.nil_append, List.length_cons, List.length_nil, List.replicate, Nat.reduceAdd, Nat.reduceSub, Nat.sub_zero, List.getElem?_cons_zero, List.getElem?_cons_succ, List.set_cons_zero, List.set_cons_succ, Option.some.injEq, exists_eq_left', exists_eq_left, DV.d, lendR, DL.asB, DL.intD, DL.op1, DL.op2', DL.seqD, w_m1, eqD_int, eqD_str, ltI_eq, subD_eq, addD_int, pow12, lenD_lst, lenD_tup, lenD_str, DL.strO, decide_eq_true_eq, decide_eq_false_iff_not]
      refine ⟨Nat.zero_le _, ?_⟩
      refine ⟨_, fair.neD (Fit.tup (k := 0) (b := 0) (n := 0) (fun _ z => by cases z) (by decide)) (.inl (by decide)), _, rfl, fun _ => ?_, fun z => ?_⟩
      · refine ⟨_, ex, _, slD_tup, _, slD_tup, _, addD_tup (Nat.le_of_lt (few (by omega))), (by show 2 ≤ sizeLine; decide), trivial, trivial, rfl⟩
      · rw [e0] at z; cases z
    rintro ρ S4 ⟨rfl, rfl⟩
    refine seqI (fun ρ S' => S' = S4 ∧ ρ = ev a3 a4 (some (.sh d)) a6 a7 a8 a9 a10 a11 (some (.sh (outD air p x))) a13 a14 (some (.sh (.tup air))) (some (.sh (.int k))) (some (.sh (.int p))) a18) ?_ ?_
    · refine t3_ok (ex := [x]) la ha (out_ok (by omega) ne hp ex S4) (dbl_ok (by omega) ne hp ex S4) (cut_one p0 p1 ex) (by show 1 ≤ 1; decide) (fun d z => by rw [List.mem_singleton.mp z]; exact ha x hx) ?_
      have co := cut_out (xs := air) p0 p1
      refine Fit.tup (k := 7) (b := 218490) (fun d hd => ?_) (by show 2 * 218491 ≤ 480000; decide)
      rcases List.mem_cons.mp hd with rfl | hd
      · exact (ha _ hx).fit.mono (by decide) (by decide)
      · rw [List.mem_singleton.mp hd]
        exact Fit.tup (k := 6) (b := 21848) (fun d h => (cm d h).fit) (by omega)
    rintro ρ S5 ⟨rfl, rfl⟩
    refine seqI (fun ρ S' => SrcOk S' ∧ ∃ a18, ρ = ev a3 a4 (some (.sh d)) a6 a7 a8 a9 a10 a11 (some (.sh (outD air p x))) a13 a14 (some (.sh (.tup air))) (some (.sh (.int k))) (some (.sh (.int p))) a18) (t4_ok h2 la ha) ?_
    rintro ρ S6 ⟨h6, a18, rfl⟩
    rw [wq_mNx]
    exact ⟨rfl, h6, _, _, _, _, _, rfl⟩
end K22
set_option Elab.async false
set_option linter.all false
set_option maxRecDepth 100000
set_option maxHeartbeats 4000000
namespace K22
open PySem PySem.Spec PyProof.Rows L2 DL
theorem law_wp {S : Src} (h : SrcOk S) : wp m_law lawEnv S (fun f _ _ => f = .ret (.sh (.bl true))) E0' := by
  rw [m_law_eq]
  have q0 := @st0_ok
  have q1 := @st1_ok
  have q2 := @st2_ok
  have q3 := @st3_ok
  have q4 := @st4_ok
  have q5 := @st5_ok
  have q6 := @st6_ok
  have q7 := @st7_ok
  have q8 := @st8_ok
  have q9 := @st9_ok
  have q10 := @st10_ok
  have q11 := @st11_ok
  generalize st0 = m0 at q0 ⊢
  generalize st1 = m1 at q1 ⊢
  generalize st2 = m2 at q2 ⊢
  generalize st3 = m3 at q3 ⊢
  generalize st4 = m4 at q4 ⊢
  generalize st5 = m5 at q5 ⊢
  generalize st6 = m6 at q6 ⊢
  generalize st7 = m7 at q7 ⊢
  generalize st8 = m8 at q8 ⊢
  generalize st9 = m9 at q9 ⊢
  generalize st10 = m10 at q10 ⊢
  generalize st11 = m11 at q11 ⊢
  refine seqI _ q0 ?_
  rintro ρ S0 ⟨rfl, rfl⟩
  refine seqI _ q1 ?_
  rintro ρ S1 ⟨rfl, rfl⟩
  refine seqI _ (q2 h) ?_
  rintro ρ S2 ⟨h2, sent, heard, a5, a6, a7, a8, a9, a10, a11, a12, a13, a14, a15, a16, a17, a18, rfl, ls, lh, hs, hh⟩
  refine seqI _ (q3 h2 ls hs) ?_
  rintro ρ S3 ⟨h3, os, lo, ho, rfl⟩
  refine seqI _ (q4 h3 lo lh ho hh) ?_
  rintro ρ S4 ⟨h4, v, hv, a6, a9, a13, rfl⟩
  rw [List.take_length]
  refine seqI _ (q5 hv lo ho hh) ?_
  rintro ρ S5 ⟨rfl, rfl⟩
  refine seqI _ q6 ?_
  rintro ρ S6 ⟨rfl, rfl⟩
  refine seqI _ q7 ?_
  rintro ρ S7 ⟨rfl, rfl⟩
  refine seqI _ (q8 hv lo lh ho hh) ?_
  rintro ρ S8 ⟨rfl, a6, rfl⟩
  refine seqI _ (q9 h4 hv lo lh ho hh) ?_
  rintro ρ S9 ⟨h9, air, la, ha, rfl⟩
  refine seqI (fun _ _ => True) (wp_mono (q10 h9 la ha) (fun f _ _ e => ⟨e, trivial⟩) fun _ _ _ z => z) ?_
  intro ρ S10 _
  rw [wq_seq]
  refine wp_mono q11 (fun f ρ S e => ?_) fun _ _ _ z => z
  subst e
  rfl
theorem law_run (S : Src) (h : SrcOk S) : ∃ ρ' S', m_law lawEnv S = some (.ok (.ret (.sh (.bl true))) ρ' S') := run_of (law_wp h)
end K22
set_option Elab.async false
set_option linter.all false
set_option maxRecDepth 100000
set_option maxHeartbeats 4000000
/-! what stands behind the top: defs, constants, tables -/
namespace DL
open PySem PySem.Spec PyProof.Rows L2
abbrev FnD (K : PySem.W.Frag) (x : Str) (st : Stmt) (f : Addr) (fd : FuncData) : Prop := FunD K x x (defArgs st) (defBody st) (defScope st) [] [] f fd
section
variable {K : PySem.W.Frag} {w : World} {mg : Str → Option Value} {base h : Heap} {x : Str} {st : Stmt} {f : Addr} {fd : FuncData} {ps : List Str}
theorem fun_of (F : FnD K x st f fd) : Fun K x x st f fd := by
  obtain ⟨⟨oc, od, dV, kV, doc, pm, an, cdv, ct, osl, rfl, lk, hcd, hD, _⟩, kp⟩ := F
  rcases hD with ⟨_, rfl⟩ | ⟨e, _⟩
  · exact ⟨⟨oc, od, kV, doc, pm, an, cdv, ct, osl, rfl, lk, hcd⟩, kp⟩
  · exact absurd rfl e
theorem func_of (F : FnD K x st (He.fAd K (x, none)) fd) : FunC K x x st (He.fAd K (x, none)) fd (He.codeOf K (x, none)) := by
  obtain ⟨⟨oc, od, dV, kV, doc, pm, an, cdv, ct, osl, rfl, lk, hcd, hD, _⟩, kp⟩ := F
  rcases hD with ⟨_, rfl⟩ | ⟨e, _⟩
  · obtain ⟨c, rfl⟩ := He.codeIn_ref hcd
    rw [He.codeOf_eq lk rfl]
    exact ⟨⟨oc, od, kV, doc, pm, an, ct, osl, rfl, lk, hcd⟩⟩
  · exact absurd rfl e
def dd (x : Str) (st : Stmt) : He.DefD := ⟨(x, none), x, x, defArgs st, defBody st, defScope st, [], []⟩
theorem defA_of (F : FnD K x st (He.fAd K (x, none)) fd) (m : mg x = some (.ref (He.ga K x))) (b : Binds K fd ps []) : DefA K mg x ps st := ⟨He.fAd K (x, none), fd, fun_of F, m, b⟩
theorem defC_of (F : FnD K x st (He.fAd K (x, none)) fd) (m : mg x = some (.ref (He.ga K x))) (b : Binds K fd ps []) (t : LamX.TabB base mg (He.cT K (x, none)).1 (He.cT K (x, none)).2) : DefC K mg base x ps st (He.cT K (x, none)).2 :=
  ⟨He.fAd K (x, none), fd, He.codeOf K (x, none), func_of F, F.kp, m, b, ⟨t.code, t.bm, t.gP⟩⟩
/-- a constant looked at -/
def cstX (K : PySem.W.Frag) (x : Str) (d : D) : Bool := match PySem.W.nsIn K mainGlobals x with
  | some (some u) => cstB K d u
  | _ => false
theorem cst_of (X : K.In h) (G : h.Ns mainGlobals mg) {d : D} (b : cstX K x d = true) : CstA K mg x d := by
  unfold cstX at b
  split at b
  · rename_i u hu
    obtain ⟨v, r, c⟩ := cstB_ok b
    exact ⟨u, v, PySem.W.mg_of X G hu, r, c⟩
  · cases b
theorem tab_of (X : K.In h) (G : h.Ns mainGlobals mg) (c : (He.Fa.glo x).ok K = true) {tb : List (Str × D)} (b : ktbB K x tb = true) (k : ∃ es n, KDict K w (He.ga K x) es n) : TabA K w mg x tb :=
  ⟨_, He.glo_ok X G c, ktb_ok (mg := mg) (h := h) (He.eqO_ok c) b k⟩
end
end DL
set_option Elab.async false
set_option linter.all false
set_option maxRecDepth 100000
set_option maxHeartbeats 4000000
namespace K22
open PySem PySem.Spec PyProof.Rows L2 DL

def fn : List He.DefD := [dd "goes_to" s_goes_to, dd "is_answer" s_is_answer, dd "unanswered" s_unanswered, dd "fields_of" s_fields_of, dd "taken_out" s_taken_out, dd "doubled" s_doubled, dd "for_whom" s_for_whom, dd "_law_open_cells" s__law_open_cells, dd "_law_pick" s__law_pick, dd "_law_any_order" s__law_any_order, dd "_law_sorts" s__law_sorts, dd "_law_any_value" s__law_any_value, dd "_law_draw_ending" s__law_draw_ending, dd "_law_draw_part" s__law_draw_part, dd "_law_draw_letter" s__law_draw_letter, dd "_law_all_words" s__law_all_words, dd "_law_right_answers" s__law_right_answers, dd "_law_near_answer" s__law_near_answer, dd "_law_answers" s__law_answers, dd "law" s_law]
def fa : List He.Fa := [.glo "goes_to", .glo "is_answer", .glo "unanswered", .glo "fields_of", .glo "taken_out", .glo "doubled", .glo "for_whom", .glo "_law_open_cells", .glo "_law_pick", .glo "_law_any_order", .glo "_law_sorts", .glo "_law_any_value", .glo "_law_draw_ending", .glo "_law_draw_part", .glo "_law_draw_letter", .glo "_law_all_words", .glo "_law_right_answers", .glo "_law_near_answer", .glo "_law_answers", .glo "law", .free "len", .free "abs", .free "max", .free "min", .free "sum", .free "any", .free "all", .free "sorted", .free "repr", .free "int", .free "list", .free "tuple", .free "range", .free "dict", .free "enumerate", .free "zip", .free "set", .free "str", .free "isinstance", .glo "SORTS", .glo "ASKED", .glo "FIELDS"]
def ts : List He.Tab := [(fun K => He.ga K "SORTS", ["take", "grant", "free", "bar", "ask", "end", "taken", "granted", "freed", "barred", "no", "told", "work", "ended", "refused"]), (fun K => He.ga K "ASKED", ["take", "grant", "free", "bar", "ask"]), (fun K => He.ga K "FIELDS", ["take", "grant", "free", "bar", "end"])]
def tf : List He.Defn := [("unanswered", none), ("for_whom", none)]
def ex (K : PySem.W.Frag) : Bool := cstX K "TO_MACHINES" c_TO_MACHINES && ktbB K "SORTS" t_SORTS && ktbB K "ASKED" t_ASKED && ktbB K "FIELDS" t_FIELDS
theorem facts {l : PySem.W.OpenLaw} {w : World} {K : PySem.W.Frag} {h : Heap} {mg : Str → Option Value} {f : Addr} (X : K.In h) (G : h.Ns mainGlobals mg) (hfa : mg "law" = some (.ref f)) (c : He.SaysX fa fn ts tf ex w h K) :
    LamX.LawAtG l w K CX0 9 63 "_law_script" mg f h := by
  obtain ⟨d0, F0⟩ := c.t.d.def_ 0 (d := dd "goes_to" s_goes_to) rfl
  obtain ⟨d1, F1⟩ := c.t.d.def_ 1 (d := dd "is_answer" s_is_answer) rfl
  obtain ⟨d2, F2⟩ := c.t.d.def_ 2 (d := dd "unanswered" s_unanswered) rfl
  obtain ⟨d3, F3⟩ := c.t.d.def_ 3 (d := dd "fields_of" s_fields_of) rfl
  obtain ⟨d4, F4⟩ := c.t.d.def_ 4 (d := dd "taken_out" s_taken_out) rfl
  obtain ⟨d5, F5⟩ := c.t.d.def_ 5 (d := dd "doubled" s_doubled) rfl
  obtain ⟨d6, F6⟩ := c.t.d.def_ 6 (d := dd "for_whom" s_for_whom) rfl
  obtain ⟨d7, F7⟩ := c.t.d.def_ 7 (d := dd "_law_open_cells" s__law_open_cells) rfl
  obtain ⟨d8, F8⟩ := c.t.d.def_ 8 (d := dd "_law_pick" s__law_pick) rfl
  obtain ⟨d9, F9⟩ := c.t.d.def_ 9 (d := dd "_law_any_order" s__law_any_order) rfl
  obtain ⟨d10, F10⟩ := c.t.d.def_ 10 (d := dd "_law_sorts" s__law_sorts) rfl
  obtain ⟨d11, F11⟩ := c.t.d.def_ 11 (d := dd "_law_any_value" s__law_any_value) rfl
  obtain ⟨d12, F12⟩ := c.t.d.def_ 12 (d := dd "_law_draw_ending" s__law_draw_ending) rfl
  obtain ⟨d13, F13⟩ := c.t.d.def_ 13 (d := dd "_law_draw_part" s__law_draw_part) rfl
  obtain ⟨d14, F14⟩ := c.t.d.def_ 14 (d := dd "_law_draw_letter" s__law_draw_letter) rfl
  obtain ⟨d15, F15⟩ := c.t.d.def_ 15 (d := dd "_law_all_words" s__law_all_words) rfl
  obtain ⟨d16, F16⟩ := c.t.d.def_ 16 (d := dd "_law_right_answers" s__law_right_answers) rfl
  obtain ⟨d17, F17⟩ := c.t.d.def_ 17 (d := dd "_law_near_answer" s__law_near_answer) rfl
  obtain ⟨d18, F18⟩ := c.t.d.def_ 18 (d := dd "_law_answers" s__law_answers) rfl
  obtain ⟨d19, F19⟩ := c.t.d.def_ 19 (d := dd "law" s_law) rfl
  have m0 := He.glo_ok X G (c.t.d.fact 0 (f := .glo "goes_to") rfl)
  have m1 := He.glo_ok X G (c.t.d.fact 1 (f := .glo "is_answer") rfl)
  have m2 := He.glo_ok X G (c.t.d.fact 2 (f := .glo "unanswered") rfl)
  have m3 := He.glo_ok X G (c.t.d.fact 3 (f := .glo "fields_of") rfl)
  have m4 := He.glo_ok X G (c.t.d.fact 4 (f := .glo "taken_out") rfl)
  have m5 := He.glo_ok X G (c.t.d.fact 5 (f := .glo "doubled") rfl)
  have m6 := He.glo_ok X G (c.t.d.fact 6 (f := .glo "for_whom") rfl)
  have m7 := He.glo_ok X G (c.t.d.fact 7 (f := .glo "_law_open_cells") rfl)
  have m8 := He.glo_ok X G (c.t.d.fact 8 (f := .glo "_law_pick") rfl)
  have m9 := He.glo_ok X G (c.t.d.fact 9 (f := .glo "_law_any_order") rfl)
  have m10 := He.glo_ok X G (c.t.d.fact 10 (f := .glo "_law_sorts") rfl)
  have m11 := He.glo_ok X G (c.t.d.fact 11 (f := .glo "_law_any_value") rfl)
  have m12 := He.glo_ok X G (c.t.d.fact 12 (f := .glo "_law_draw_ending") rfl)
  have m13 := He.glo_ok X G (c.t.d.fact 13 (f := .glo "_law_draw_part") rfl)
  have m14 := He.glo_ok X G (c.t.d.fact 14 (f := .glo "_law_draw_letter") rfl)
  have m15 := He.glo_ok X G (c.t.d.fact 15 (f := .glo "_law_all_words") rfl)
  have m16 := He.glo_ok X G (c.t.d.fact 16 (f := .glo "_law_right_answers") rfl)
  have m17 := He.glo_ok X G (c.t.d.fact 17 (f := .glo "_law_near_answer") rfl)
  have m18 := He.glo_ok X G (c.t.d.fact 18 (f := .glo "_law_answers") rfl)
  have m19 := He.glo_ok X G (c.t.d.fact 19 (f := .glo "law") rfl)
  have z0 := He.free_ok X G (c.t.d.fact 20 (f := .free "len") rfl)
  have z1 := He.free_ok X G (c.t.d.fact 21 (f := .free "abs") rfl)
  have z2 := He.free_ok X G (c.t.d.fact 22 (f := .free "max") rfl)
  have z3 := He.free_ok X G (c.t.d.fact 23 (f := .free "min") rfl)
  have z4 := He.free_ok X G (c.t.d.fact 24 (f := .free "sum") rfl)
  have z5 := He.free_ok X G (c.t.d.fact 25 (f := .free "any") rfl)
  have z6 := He.free_ok X G (c.t.d.fact 26 (f := .free "all") rfl)
  have z7 := He.free_ok X G (c.t.d.fact 27 (f := .free "sorted") rfl)
  have z8 := He.free_ok X G (c.t.d.fact 28 (f := .free "repr") rfl)
  have z9 := He.free_ok X G (c.t.d.fact 29 (f := .free "int") rfl)
  have z10 := He.free_ok X G (c.t.d.fact 30 (f := .free "list") rfl)
  have z11 := He.free_ok X G (c.t.d.fact 31 (f := .free "tuple") rfl)
  have z12 := He.free_ok X G (c.t.d.fact 32 (f := .free "range") rfl)
  have z13 := He.free_ok X G (c.t.d.fact 33 (f := .free "dict") rfl)
  have z14 := He.free_ok X G (c.t.d.fact 34 (f := .free "enumerate") rfl)
  have z15 := He.free_ok X G (c.t.d.fact 35 (f := .free "zip") rfl)
  have z16 := He.free_ok X G (c.t.d.fact 36 (f := .free "set") rfl)
  have z17 := He.free_ok X G (c.t.d.fact 37 (f := .free "str") rfl)
  have z18 := He.free_ok X G (c.t.d.fact 38 (f := .free "isinstance") rfl)
  have Z : Free mg := ⟨z0, z1, z2, z3, z4, z5, z6, z7, z8, z9, z10, z11, z12, z13, z14, z15, z16, z17, z18⟩
  have mo := c.more
  unfold ex at mo
  simp only [Bool.and_eq_true] at mo
  obtain ⟨⟨⟨x0, x1⟩, x2⟩, x3⟩ := mo
  have C : Csts K w mg := ⟨cst_of X G x0, tab_of X G (c.t.d.fact 39 (f := .glo "SORTS") rfl) x1 (c.t.tab 0 (t := (fun K => He.ga K "SORTS", ["take", "grant", "free", "bar", "ask", "end", "taken", "granted", "freed", "barred", "no", "told", "work", "ended", "refused"])) rfl), tab_of X G (c.t.d.fact 40 (f := .glo "ASKED") rfl) x2 (c.t.tab 1 (t := (fun K => He.ga K "ASKED", ["take", "grant", "free", "bar", "ask"])) rfl), tab_of X G (c.t.d.fact 41 (f := .glo "FIELDS") rfl) x3 (c.t.tab 2 (t := (fun K => He.ga K "FIELDS", ["take", "grant", "free", "bar", "end"])) rfl)⟩
  have e := hfa.symm.trans m19
  cases e
  have b0 : Binds K d0 ["letter"] [] := F0.bindsN fun _ _ _ _ _ _ us hl => match us, hl with | [_], _ => rfl
  have b1 : Binds K d1 ["letter", "answer"] [] := F1.bindsN fun _ _ _ _ _ _ us hl => match us, hl with | [_, _], _ => rfl
  have b2 : Binds K d2 ["sent", "heard"] [] := F2.bindsN fun _ _ _ _ _ _ us hl => match us, hl with | [_, _], _ => rfl
  have b3 : Binds K d3 ["letter"] [] := F3.bindsN fun _ _ _ _ _ _ us hl => match us, hl with | [_], _ => rfl
  have b4 : Binds K d4 ["air", "k"] [] := F4.bindsN fun _ _ _ _ _ _ us hl => match us, hl with | [_, _], _ => rfl
  have b5 : Binds K d5 ["air", "k"] [] := F5.bindsN fun _ _ _ _ _ _ us hl => match us, hl with | [_, _], _ => rfl
  have b6 : Binds K d6 ["air", "whom"] [] := F6.bindsN fun _ _ _ _ _ _ us hl => match us, hl with | [_, _], _ => rfl
  have b7 : Binds K d7 ["_law_script"] [] := F7.bindsN fun _ _ _ _ _ _ us hl => match us, hl with | [_], _ => rfl
  have b8 : Binds K d8 ["_law_source", "_law_most"] [] := F8.bindsN fun _ _ _ _ _ _ us hl => match us, hl with | [_, _], _ => rfl
  have b9 : Binds K d9 ["_law_source", "_law_things"] [] := F9.bindsN fun _ _ _ _ _ _ us hl => match us, hl with | [_, _], _ => rfl
  have b10 : Binds K d10 ["_law_word"] [] := F10.bindsN fun _ _ _ _ _ _ us hl => match us, hl with | [_], _ => rfl
  have b11 : Binds K d11 ["_law_source"] [] := F11.bindsN fun _ _ _ _ _ _ us hl => match us, hl with | [_], _ => rfl
  have b12 : Binds K d12 ["_law_source"] [] := F12.bindsN fun _ _ _ _ _ _ us hl => match us, hl with | [_], _ => rfl
  have b13 : Binds K d13 ["_law_source", "_law_sort"] [] := F13.bindsN fun _ _ _ _ _ _ us hl => match us, hl with | [_, _], _ => rfl
  have b14 : Binds K d14 ["_law_source", "_law_words"] [] := F14.bindsN fun _ _ _ _ _ _ us hl => match us, hl with | [_, _], _ => rfl
  have b15 : Binds K d15 [] [] := F15.bindsN fun _ _ _ _ _ _ us hl => match us, hl with | [], _ => rfl
  have b16 : Binds K d16 ["_law_source", "_law_letter"] [] := F16.bindsN fun _ _ _ _ _ _ us hl => match us, hl with | [_, _], _ => rfl
  have b17 : Binds K d17 ["_law_source", "_law_answer"] [] := F17.bindsN fun _ _ _ _ _ _ us hl => match us, hl with | [_, _], _ => rfl
  have b18 : Binds K d18 ["_law_letter", "_law_answer"] [] := F18.bindsN fun _ _ _ _ _ _ us hl => match us, hl with | [_, _], _ => rfl
  have b19 := FunD.bindsA (ps := ["_law_script"]) F19 fun _ _ _ _ _ _ us hl => match us, hl with | [_], _ => rfl
  refine ⟨d19, tf.map (He.cT K), spLawD K ((tf.map (He.cT K)).map (·.2)), ?_, ?_, ?_, fun s u => b19 s [u] rfl, fun H a ns hl _ hT hS => ?_, fun base Xb Gb hTb => ?_⟩
  · intro p hp
    obtain ⟨t, ht, rfl⟩ := List.mem_map.mp hp
    exact c.empty t ht
  · intro p hp
    obtain ⟨t, ht, rfl⟩ := List.mem_map.mp hp
    exact c.out t ht
  · intro p hp
    obtain ⟨t, ht, rfl⟩ := List.mem_map.mp hp
    exact PySem.W.codeHd_of_K X (c.hd t ht)
  · refine ⟨a, ns, rfl, hS, hl, fun t ht => ?_, fun _ => rfl⟩
    obtain ⟨p, hp, rfl⟩ := List.mem_map.mp ht
    exact ⟨#[], hT p hp, trivial⟩
  · obtain ⟨T, hTT⟩ : ∃ T, T = (tf.map (He.cT K)).map (·.2) := ⟨_, rfl⟩
    rw [← hTT]
    have t0 := hTb (He.cT K ("unanswered", none)) (List.mem_map_of_mem (by simp [tf]))
    have i0 : (He.cT K ("unanswered", none)).2 ∈ T := by rw [hTT]; exact List.mem_map_of_mem (List.mem_map_of_mem (by simp [tf]))
    have t1 := hTb (He.cT K ("for_whom", none)) (List.mem_map_of_mem (by simp [tf]))
    have i1 : (He.cT K ("for_whom", none)).2 ∈ T := by rw [hTT]; exact List.mem_map_of_mem (List.mem_map_of_mem (by simp [tf]))
    have A__law_pick : FnA l.prog w K mg base T 1 "_law_pick" ["_law_source", "_law_most"] F__law_pick := a__law_pick Z (defA_of F8 m8 b8)
    have A_goes_to := a_goes_to (P := l.prog) (base := base) (T := T) Z C ⟨trivial⟩ (defA_of F0 m0 b0)
    have A_is_answer := a_is_answer (P := l.prog) (base := base) (T := T) Z C ⟨trivial⟩ (defA_of F1 m1 b1)
    have A_fields_of := a_fields_of (P := l.prog) (base := base) (T := T) Z C ⟨trivial⟩ (defA_of F3 m3 b3)
    have A_taken_out := a_taken_out (P := l.prog) (base := base) (T := T) Z C ⟨trivial⟩ (defA_of F4 m4 b4)
    have A_doubled := a_doubled (P := l.prog) (base := base) (T := T) Z C ⟨trivial⟩ (defA_of F5 m5 b5)
    have A__law_sorts := a__law_sorts (P := l.prog) (base := base) (T := T) Z C ⟨trivial⟩ (defA_of F10 m10 b10)
    have A__law_all_words := a__law_all_words (P := l.prog) (base := base) (T := T) Z C ⟨trivial⟩ (defA_of F15 m15 b15)
    have A__law_answers := a__law_answers (P := l.prog) (base := base) (T := T) Z C ⟨trivial⟩ (defA_of F18 m18 b18)
    have A__law_any_order := a__law_any_order (P := l.prog) (base := base) (T := T) Z C ⟨A__law_pick.mono (by decide)⟩ (defA_of F9 m9 b9)
    have A__law_any_value := a__law_any_value (P := l.prog) (base := base) (T := T) Z C ⟨A__law_pick.mono (by decide)⟩ (defA_of F11 m11 b11)
    have A_unanswered := a_unanswered (P := l.prog) (base := base) (T := T) Z C ⟨A_goes_to.mono (by decide), A_is_answer.mono (by decide)⟩ (defC_of F2 m2 b2 t0) i0
    have A_for_whom := a_for_whom (P := l.prog) (base := base) (T := T) Z C ⟨A_goes_to.mono (by decide)⟩ (defC_of F6 m6 b6 t1) i1
    have A__law_draw_ending := a__law_draw_ending (P := l.prog) (base := base) (T := T) Z C ⟨A__law_any_value.mono (by decide), A__law_pick.mono (by decide)⟩ (defA_of F12 m12 b12)
    obtain ⟨A__law_draw_part, A__law_draw_letter⟩ := a_group (P := l.prog) (base := base) (T := T) Z C ⟨A__law_any_order.mono (by decide), A__law_any_value.mono (by decide), A__law_draw_ending.mono (by decide), A__law_pick.mono (by decide)⟩ ⟨A__law_pick.mono (by decide), A__law_sorts.mono (by decide)⟩ (defA_of F13 m13 b13) (defA_of F14 m14 b14)
    have A__law_near_answer := a__law_near_answer (P := l.prog) (base := base) (T := T) Z C ⟨A__law_draw_part.mono (by decide), A__law_pick.mono (by decide), A__law_sorts.mono (by decide)⟩ (defA_of F17 m17 b17)
    have A__law_right_answers := a__law_right_answers (P := l.prog) (base := base) (T := T) Z C ⟨A__law_draw_letter.mono (by decide), A__law_draw_part.mono (by decide), A__law_pick.mono (by decide)⟩ (defA_of F16 m16 b16)
    exact a_law Z C ⟨A__law_all_words.mono (by decide), A__law_answers.mono (by decide), A__law_any_order.mono (by decide), A__law_draw_letter.mono (by decide), A__law_near_answer.mono (by decide), A__law_pick.mono (by decide), A__law_right_answers.mono (by decide), A_doubled.mono (by decide), A_fields_of.mono (by decide), A_for_whom.mono (by decide), A_goes_to.mono (by decide), A_is_answer.mono (by decide), A_taken_out.mono (by decide), A_unanswered.mono (by decide)⟩ (fun_of F19) (a__law_open (k := 7) (fun_of F7) Z) m7 F7.kp b7 law_run
end K22
set_option Elab.async false
set_option linter.all false
set_option maxRecDepth 100000
set_option maxHeartbeats 0
namespace K22
open PySem PySem.Spec PyProof.Rows L2
abbrev R : PySem.W.OpenRow := PySem.W.OpenLaw.row PySem.Challenge.rw_effectonce_k22_answers_and_air
abbrev qv : Program := PySem.W.view R.prog [26]
abbrev hk : PySem.W.Hook := He.hookX 4 fa fn ts tf ex
def loose : List Str := ["SORTS", "ASKED", "TO_MACHINES", "FIELDS", "goes_to", "is_answer", "unanswered", "fields_of", "taken_out", "doubled", "for_whom", "_law_open_cells", "_law_pick", "_law_any_order", "_law_sorts", "_law_any_value", "_law_draw_ending", "_law_draw_part", "_law_draw_letter", "_law_all_words", "_law_right_answers", "_law_near_answer", "_law_answers", "law"]
def ob (s : PySem.W.SharedT) : He.AlX := He.obsX 4 fa fn ts tf ex (HandSHeadRun.getT s)
theorem ob_eq (s : PySem.W.SharedT) : ob s = hk.obs s.abs := He.obsX_eq (HandSHeadRun.getT_eq s)
theorem run (w : World) : HandSHeadRun.RunEqI R qv hk ob 4000 loose w := by
  refine PySem.W.byRow2 "special-get-raises" (P := fun w => HandSHeadRun.RunEqI R qv hk ob 4000 loose w) (fun w => ?_) (fun w => ?_) w
  · unfold HandSHeadRun.RunEqI
    kernel_rfl
  · unfold HandSHeadRun.RunEqI
    kernel_rfl
end K22
set_option Elab.async false
set_option linter.all false
open PySem PySem.W PySem.Calls PyProof.Rows
set_option maxRecDepth 100000 in
set_option maxHeartbeats 0 in
theorem PySem.Challenge.cw_effectonce_k22_answers_and_air_holds : PySem.Challenge.rw_effectonce_k22_answers_and_air.Holds := by
  w_on; o_law
  refine HandSHeadRun.head_imp (r := K22.R) (q := K22.qv) (H := K22.hk) (ob := K22.ob) (M := 4000) (loose := K22.loose) (d := HandSHeadRun.topDef K22.R.prog 26) (kwd := []) K22.ob_eq K22.run (by kernel_rfl) (by kernel_rfl) (by kernel_rfl) (by rfl) (by first | assumption | decide +kernel) (by decide +kernel) ⟨rfl, rfl, rfl, rfl, rfl, by decide +kernel⟩ ?hw ?hc
  case hw => w_witness2
  case hc =>
    refine LamX.walk_G (l := PySem.Challenge.rw_effectonce_k22_answers_and_air) (n := 63) (k := 9) (x := "_law_script") (CX := fun _ => L2.CX0) rfl (by decide) (by kernel_rfl) ⟨rfl, by decide, by decide⟩ ?F (fun _ _ _ _ _ z => z)
    intro w mg fa h Y G hmg0
    obtain ⟨K, KX, c⟩ := Y
    have hmg : mg ("law" : PySem.Str) = some (.ref fa) := by
      have e : (HandSHeadRun.topDef K22.R.prog 26).name = ("law" : PySem.Str) := by kernel_rfl
      rw [← e]
      exact hmg0
    exact ⟨K, KX, K22.facts KX G hmg c⟩
