import PyProof.Rows.All
import Wide.All
import OpenK.AllK
import Wide.FinOn
import HandS.ForMost
import HandS.ForExc
import HandS.Deep
import KE.KDictKeyed
import HandS.CallSlots
import HandS.Wide
import HandS.Style
import HandS.TupAny
import HandS.TupMul
import HandS.IsInst
import HandS.Zip
import HandS.SortInts
import HandS.SetFor
import HandS.Star
import HandS.ExcIs
import HandS.ExcField
import KE.SortData
import KE.DataCmp
import KE.KExcSuper
import HandS.FStr
import HandS.ExcInit
import HandS.Defaults
import PyProof.P3In
import HandS.Text
import HandS.Spec
import HandS.DictComp
import HandS.TryOnly
import PySem.Challenge.RW_fillchairs_k90_setups_written_and_read
set_option Elab.async false
set_option linter.all false
set_option maxRecDepth 100000
/-! Ly: what a text computes, as functions over data. -/
namespace Ly
open PySem L2

abbrev D := PyData
/-- what is one's own: trees whose leaves are data that nobody changes -/
inductive T where
  | d (x : D) | l (xs : List D) | k (kvs : List (D × T)) | s (xs : List D) | i (C : Str) (fs : List (Str × T)) | t (xs : List T)
/-- a slot: unset; data that nobody changes; a list of one's own; a list lent by the caller; a tree of one's own; a lent one -/
inductive Sl where
  | un | d (x : D) | l (xs : List D) | b (xs : List D) | o (t : T) | p (t : T)
abbrev Ge := List Sl
/-- a step into a tree: a field, a key -/
inductive Pk where
  | f (x : Str) | k (d : D)
/-- a result: data; a new list of one's own; what is one's own at a slot; a new tree of one's own -/
inductive R where
  | d (x : D) | l (xs : List D) | s (i : Nat) | o (t : T)
structure Xn where
  cls : Str
  fld : Option D
inductive Out (α : Type) where
  | ok (a : α) (Γ : Ge) | ex (x : Xn) (Γ : Ge) | no
def Out.bind {α β : Type} (o : Out α) (k : α → Ge → Out β) : Out β := match o with
  | .ok a Γ => k a Γ
  | .ex x Γ => .ex x Γ
  | .no => .no
abbrev EF := Ge → Out R
inductive Fl where
  | nx | bk | ct | rt (r : R)
abbrev SF := Ge → Out Fl

/-- the text's constants, its program and world -/
structure Kx where
  fr : PySem.W.Frag
  P : Program
  w : World
  cl : Str → Option Addr
instance : Coe Kx PySem.W.Frag := ⟨Kx.fr⟩
/-- the objects that names of the text tell -/
def clOf (mg : Str → Option Value) : Str → Option Addr := fun n => match mg n with
  | some (.ref a) => some a
  | _ => none
abbrev kx (X : Cx) : Kx := ⟨X.K, X.prog, X.w, clOf X.mg⟩
/-- the heap of what nobody changes, and which slot owns which objects -/
structure Sx where
  hp : Hp
  fp : Nat → List Addr
instance : Coe Sx Hp := ⟨Sx.hp⟩
def Own (S : Sx) (a : Addr) : Prop := ∃ i, a ∈ S.fp i
def Sx.up (S : Sx) (p : Addr) (o : HO) : Sx := ⟨upd S.hp p o, S.fp⟩
def Sx.fput (S : Sx) (i : Nat) (F : List Addr) : Sx := ⟨S.hp, fun j => if j = i then F else S.fp j⟩
@[simp] theorem Sx.up_hp {S : Sx} {p : Addr} {o : HO} : (S.up p o).hp = upd S.hp p o := id rfl
@[simp] theorem Sx.up_fp {S : Sx} {p : Addr} {o : HO} : (S.up p o).fp = S.fp := id rfl
@[simp] theorem Sx.fput_hp {S : Sx} {i : Nat} {F : List Addr} : (S.fput i F).hp = S.hp := id rfl
theorem Sx.fput_eq {S : Sx} {i : Nat} {F : List Addr} : (S.fput i F).fp i = F := if_pos rfl
theorem Sx.fput_ne {S : Sx} {i j : Nat} {F : List Addr} (h : j ≠ i) : (S.fput i F).fp j = S.fp j := if_neg h
@[simp] theorem own_up {S : Sx} {p : Addr} {o : HO} {a : Addr} : Own (S.up p o) a ↔ Own S a := Iff.rfl

/-! ### data at a value: lists are tracked (or the frozen script), tuples may be constants of the text -/
def kD : Key → D
  | .inl i => .int i
  | .inr x => .str x
mutual
/-- data as a key of a dict -/
def nk : D → Option NestedKey
  | .none => some .none
  | .int i => some (.num i)
  | .str x => some (.text x)
  | .tuple xs => (nks xs).map .tup
  | _ => none
def nks : List D → Option (List NestedKey)
  | [] => some []
  | d :: ds => match nk d, nks ds with
    | some k, some ks => some (k :: ks)
    | _, _ => none
end
/-- an object that is a dict whose keys are tuples -/
def DRaw (P : Program) (w : World) (a : Addr) (xs : List (NestedKey × Addr × V)) : Heap → Prop := fun h =>
  (a == sysModules) = false ∧ xs.length ≤ sizeLine ∧ (xs.map (·.1)).Nodup ∧ ∃ ys : List (NestedKey × Addr × Value), Paired (fun p q => p.1 = q.1 ∧ p.2.1 = q.2.1 ∧ RelV p.2.2 q.2.2) xs ys ∧
    ∃ o es ep, h.get? a = some o ∧ o.ExactDict ∧ o.data = .dict es ep ∧ es.toList = ys.map (entryOfKey (nestedKind P w))
def DRO (K : Kx) (a : Addr) (xs : List (NestedKey × Addr × V)) : HO := .ext (DRaw K.P K.w a xs)
/-- a list to be read: tracked, frozen, or a constant of the text -/
def Ls (K : Kx) (H : Hp) (a : Addr) (xs : List V) : Prop :=
  Rd H a (.lst xs) ∨ ∃ (its : List Value) (n : Nat), K.fr.lookup a = some { cls := .type "list", data := .seq its.toArray n } ∧ Vals xs its ∧ xs.length ≤ sizeLine
theorem Ls.seq {K : Kx} {H : Hp} {a : Addr} {xs : List V} (h : Ls K H a xs) : SqL K H a xs := by
  rcases h with h | ⟨its, n, h1, h2, h3⟩
  · exact .inl h
  · refine .inr ⟨_, its.toArray, n, h1, rfl, rfl, rfl, ?_, by simpa using h2⟩
    have := h2.length
    rw [List.size_toArray]
    omega
theorem Ls.obj {X : Cx} {pins : List (Addr × Obj)} {σ : L2.St} {H : Hp} {s : Shared} {a : Addr} {xs : List V} (I : Inv X pins σ H s) (h : Ls (kx X) H a xs) :
    xs.length ≤ sizeLine ∧ ∃ (its : List Value) (n : Nat), Vals xs its ∧ s.heap.get? a = some { cls := .type "list", data := .seq its.toArray n } := by
  rcases h with h | ⟨its, n, h1, h2, h3⟩
  · exact h.ok I.hok
  · exact ⟨h3, its, n, h2, I.kIn a _ h1⟩
mutual
inductive Dq (K : Kx) (H : Hp) : V → PyData → Prop
  | non : Dq K H .non .none
  | bl (b : Bool) : Dq K H (.bl b) (.bool b)
  | int (i : Int) : Dq K H (.int i) (.int i)
  | str (x : Str) : Dq K H (.str x) (.str x)
  | lst {a : Addr} {xs : List V} {ds : List PyData} : Ls K H a xs → DqAll K H xs ds → Dq K H (.ref a) (.list ds)
  | tup {a : Addr} {xs : List V} {ds : List PyData} : SqT K H a xs → DqAll K H xs ds → Dq K H (.ref a) (.tuple ds)
  | dic {a : Addr} {ks : List (Key × V)} {kvs : List (PyData × PyData)} : Rd H a (.dK ks) → DqKv K H ks kvs → Dq K H (.ref a) (.dict kvs)
  | dix {a : Addr} {xs : List (NestedKey × Addr × V)} {kvs : List (PyData × PyData)} : H a = some (DRO K a xs) → DqKx K H xs kvs → Dq K H (.ref a) (.dict kvs)
inductive DqAll (K : Kx) (H : Hp) : List V → List PyData → Prop
  | nil : DqAll K H [] []
  | cons {v : V} {vs : List V} {d : PyData} {ds : List PyData} : Dq K H v d → DqAll K H vs ds → DqAll K H (v :: vs) (d :: ds)
inductive DqKv (K : Kx) (H : Hp) : List (Key × V) → List (PyData × PyData) → Prop
  | nil : DqKv K H [] []
  | cons {k : Key} {v : V} {vs : List (Key × V)} {d : PyData} {ds : List (PyData × PyData)} : Dq K H v d → DqKv K H vs ds → DqKv K H ((k, v) :: vs) ((kD k, d) :: ds)
inductive DqKx (K : Kx) (H : Hp) : List (NestedKey × Addr × V) → List (PyData × PyData) → Prop
  | nil : DqKx K H [] []
  | cons {k : NestedKey} {b : Addr} {v : V} {vs : List (NestedKey × Addr × V)} {c d : PyData} {ds : List (PyData × PyData)} : Dq K H (.ref b) c → nk c = some k → k.depth ≤ 8 → Dq K H v d → DqKx K H vs ds → DqKx K H ((k, b, v) :: vs) ((c, d) :: ds)
end
theorem Same.rd {H H' : Hp} {a : Addr} {u : HO} (e : Same H H') (h : Rd H a u) : Rd H' a u := by
  rcases h with h | ⟨o, h⟩
  · exact .inl (e _ _ h)
  · exact .inr ⟨o, e _ _ h⟩
theorem Same.ls {K : Kx} {H H' : Hp} {a : Addr} {xs : List V} (e : Same H H') (h : Ls K H a xs) : Ls K H' a xs := by
  rcases h with h | h
  · exact .inl (Same.rd e h)
  · exact .inr h
theorem Same.seqT {K : PySem.W.Frag} {H H' : Hp} {a : Addr} {xs : List V} (e : Same H H') (hs : SqT K H a xs) : SqT K H' a xs := by
  rcases hs with h | h
  · exact .inl (Same.rd e h)
  · exact .inr h
theorem Same.dp {K : Kx} {H H' : Hp} (e : Same H H') : ∀ {v : V} {d : D}, Dq K H v d → Dq K H' v d := by
  intro v d h
  exact Dq.rec (motive_1 := fun v d _ => Dq K H' v d) (motive_2 := fun vs ds _ => DqAll K H' vs ds) (motive_3 := fun vs ds _ => DqKv K H' vs ds) (motive_4 := fun vs ds _ => DqKx K H' vs ds) .non .bl .int .str
    (fun hs _ ih => .lst (Same.ls e hs) ih) (fun hs _ ih => .tup (Same.seqT e hs) ih) (fun hs _ ih => .dic (Same.rd e hs) ih) (fun hs _ ih => .dix (e _ _ hs) ih) .nil (fun _ _ h1 h2 => .cons h1 h2) .nil (fun _ _ h1 h2 => .cons h1 h2) .nil (fun _ q1 q2 _ _ h1 h2 h3 => .cons h1 q1 q2 h2 h3) h
theorem Same.dpAll {K : Kx} {H H' : Hp} (e : Same H H') : ∀ {vs : List V} {ds : List D}, DqAll K H vs ds → DqAll K H' vs ds
  | _, _, .nil => .nil
  | _, _, .cons h t => .cons (Same.dp e h) (Same.dpAll e t)
theorem Same.dpKv {K : Kx} {H H' : Hp} (e : Same H H') : ∀ {vs : List (Key × V)} {ds : List (D × D)}, DqKv K H vs ds → DqKv K H' vs ds
  | _, _, .nil => .nil
  | _, _, .cons h t => .cons (Same.dp e h) (Same.dpKv e t)
theorem Same.dpKx {K : Kx} {H H' : Hp} (e : Same H H') : ∀ {vs : List (NestedKey × Addr × V)} {ds : List (D × D)}, DqKx K H vs ds → DqKx K H' vs ds
  | _, _, .nil => .nil
  | _, _, .cons h q1 q2 h2 t => .cons (Same.dp e h) q1 q2 (Same.dp e h2) (Same.dpKx e t)
/-! no dict within -/
mutual
def flatD : D → Bool
  | .dict _ => false
  | .list xs => flatDs xs
  | .tuple xs => flatDs xs
  | _ => true
def flatDs : List D → Bool
  | [] => true
  | d :: ds => flatD d && flatDs ds
end
theorem Dq.dp {K : Kx} {H : Hp} {v : V} {d : D} (h : Dq K H v d) : flatD d = true → Dp K H v d :=
  Dq.rec (motive_1 := fun v d _ => flatD d = true → Dp K H v d) (motive_2 := fun vs ds _ => flatDs ds = true → DpAll K H vs ds) (motive_3 := fun vs ds _ => True) (motive_4 := fun vs ds _ => True) (fun _ => .non) (fun b _ => .bl b) (fun i _ => .int i) (fun x _ => .str x)
    (fun hs _ ih f => .lst hs.seq (ih (by simpa [flatD] using f))) (fun hs _ ih f => .tup hs (ih (by simpa [flatD] using f))) (fun _ _ _ f => by simp [flatD] at f) (fun _ _ _ f => by simp [flatD] at f) (fun _ => .nil)
    (fun _ _ h1 h2 f => by
      simp only [flatDs, Bool.and_eq_true] at f
      exact .cons (h1 f.1) (h2 f.2)) trivial (fun _ _ _ _ => trivial) trivial (fun _ _ _ _ _ _ _ _ => trivial) h
theorem Same.upd {H : Hp} {p : Addr} {o : HO} (h : H p = none) : Same H (upd H p o) := fun b x e => by
  rw [upd_ne (ne_of_none e h)]
  exact e

/-! ### trees: what they hold, which objects they are made of -/
mutual
inductive TOk (K : Kx) (S H : Hp) : T → V → List Addr → Prop
  | d {x : D} {v : V} : Dq K S v x → TOk K S H (.d x) v []
  | l {xs : List D} {a : Addr} {vs : List V} : S a = none → H a = some (.lst vs) → DqAll K S vs xs → TOk K S H (.l xs) (.ref a) [a]
  | kv {kvs : List (D × T)} {a : Addr} {ks : List (Key × V)} {F : List Addr} : S a = none → H a = some (.dK ks) → TKv K S H ks kvs F → TOk K S H (.k kvs) (.ref a) (a :: F)
  | kx {kvs : List (D × T)} {a : Addr} {xs : List (NestedKey × Addr × V)} {F : List Addr} : xs ≠ [] → S a = none → H a = some (DRO K a xs) → TKx K S H xs kvs F → TOk K S H (.k kvs) (.ref a) (a :: F)
  | i {C : Str} {fs : List (Str × T)} {a c dx : Addr} {vs : List (Str × V)} {F : List Addr} : K.cl C = some c → S a = none → S dx = none → H a = some (.ins c dx vs) → H dx = some (.own a) → TFs K S H vs fs F → TOk K S H (.i C fs) (.ref a) (a :: dx :: F)
  | t {ts : List T} {a : Addr} {vs : List V} {F : List Addr} : S a = none → H a = some (.tup vs) → TAll K S H vs ts F → TOk K S H (.t ts) (.ref a) (a :: F)
inductive TAll (K : Kx) (S H : Hp) : List V → List T → List Addr → Prop
  | nil : TAll K S H [] [] []
  | cons {v : V} {vs : List V} {t : T} {ts : List T} {F G : List Addr} : TOk K S H t v F → TAll K S H vs ts G → TAll K S H (v :: vs) (t :: ts) (F ++ G)
inductive TKv (K : Kx) (S H : Hp) : List (Key × V) → List (D × T) → List Addr → Prop
  | nil : TKv K S H [] [] []
  | cons {k : Key} {v : V} {vs : List (Key × V)} {t : T} {ts : List (D × T)} {F G : List Addr} : TOk K S H t v F → TKv K S H vs ts G → TKv K S H ((k, v) :: vs) ((kD k, t) :: ts) (F ++ G)
inductive TKx (K : Kx) (S H : Hp) : List (NestedKey × Addr × V) → List (D × T) → List Addr → Prop
  | nil : TKx K S H [] [] []
  | cons {k : NestedKey} {b : Addr} {v : V} {vs : List (NestedKey × Addr × V)} {c : D} {t : T} {ts : List (D × T)} {F G : List Addr} : Dq K S (.ref b) c → nk c = some k → k.depth ≤ 8 → TOk K S H t v F → TKx K S H vs ts G → TKx K S H ((k, b, v) :: vs) ((c, t) :: ts) (F ++ G)
inductive TFs (K : Kx) (S H : Hp) : List (Str × V) → List (Str × T) → List Addr → Prop
  | nil : TFs K S H [] [] []
  | cons {x : Str} {v : V} {vs : List (Str × V)} {t : T} {ts : List (Str × T)} {F G : List Addr} : TOk K S H t v F → TFs K S H vs ts G → TFs K S H ((x, v) :: vs) ((x, t) :: ts) (F ++ G)
end
/-- a tree stays while its objects stay -/
theorem TOk.stay {K : Kx} {S H S' H' : Hp} (e : Same S S') : ∀ {t : T} {v : V} {F : List Addr}, TOk K S H t v F → (∀ a ∈ F, S a = none → S' a = none) → (∀ a ∈ F, ∀ o, H a = some o → H' a = some o) → TOk K S' H' t v F := by
  intro t v F h
  refine TOk.rec (motive_1 := fun t v F _ => (∀ a ∈ F, S a = none → S' a = none) → (∀ a ∈ F, ∀ o, H a = some o → H' a = some o) → TOk K S' H' t v F)
    (motive_2 := fun vs ts F _ => (∀ a ∈ F, S a = none → S' a = none) → (∀ a ∈ F, ∀ o, H a = some o → H' a = some o) → TAll K S' H' vs ts F)
    (motive_3 := fun vs ts F _ => (∀ a ∈ F, S a = none → S' a = none) → (∀ a ∈ F, ∀ o, H a = some o → H' a = some o) → TKv K S' H' vs ts F)
    (motive_4 := fun vs ts F _ => (∀ a ∈ F, S a = none → S' a = none) → (∀ a ∈ F, ∀ o, H a = some o → H' a = some o) → TKx K S' H' vs ts F)
    (motive_5 := fun vs ts F _ => (∀ a ∈ F, S a = none → S' a = none) → (∀ a ∈ F, ∀ o, H a = some o → H' a = some o) → TFs K S' H' vs ts F) ?_ ?_ ?_ ?_ ?_ ?_ ?_ ?_ ?_ ?_ ?_ ?_ ?_ ?_ h
  · exact fun h _ _ => .d (Same.dp e h)
  · exact fun h1 h2 h3 f g => .l (f _ (by simp) h1) (g _ (by simp) _ h2) (Same.dpAll e h3)
  · exact fun h1 h2 _ ih f g => .kv (f _ (by simp) h1) (g _ (by simp) _ h2) (ih (fun a h => f a (by simp [h])) fun a h => g a (by simp [h]))
  · exact fun hn h1 h2 _ ih f g => .kx hn (f _ (by simp) h1) (g _ (by simp) _ h2) (ih (fun a h => f a (by simp [h])) fun a h => g a (by simp [h]))
  · exact fun hc h1 h2 h3 h4 _ ih f g => .i hc (f _ (by simp) h1) (f _ (by simp) h2) (g _ (by simp) _ h3) (g _ (by simp) _ h4) (ih (fun a h => f a (by simp [h])) fun a h => g a (by simp [h]))
  · exact fun h1 h2 _ ih f g => .t (f _ (by simp) h1) (g _ (by simp) _ h2) (ih (fun a h => f a (by simp [h])) fun a h => g a (by simp [h]))
  · exact fun _ _ => .nil
  · exact fun _ _ i1 i2 f g => .cons (i1 (fun a h => f a (by simp [h])) fun a h => g a (by simp [h])) (i2 (fun a h => f a (by simp [h])) fun a h => g a (by simp [h]))
  · exact fun _ _ => .nil
  · exact fun _ _ i1 i2 f g => .cons (i1 (fun a h => f a (by simp [h])) fun a h => g a (by simp [h])) (i2 (fun a h => f a (by simp [h])) fun a h => g a (by simp [h]))
  · exact fun _ _ => .nil
  · exact fun q q1 q2 _ _ i1 i2 f g => .cons (Same.dp e q) q1 q2 (i1 (fun a h => f a (by simp [h])) fun a h => g a (by simp [h])) (i2 (fun a h => f a (by simp [h])) fun a h => g a (by simp [h]))
  · exact fun _ _ => .nil
  · exact fun _ _ i1 i2 f g => .cons (i1 (fun a h => f a (by simp [h])) fun a h => g a (by simp [h])) (i2 (fun a h => f a (by simp [h])) fun a h => g a (by simp [h]))
/-- its objects are there, and are nobody's data -/
theorem TOk.there {K : Kx} {S H : Hp} : ∀ {t : T} {v : V} {F : List Addr}, TOk K S H t v F → ∀ a ∈ F, S a = none ∧ ∃ o, H a = some o := by
  intro t v F h
  refine TOk.rec (motive_1 := fun t v F _ => ∀ a ∈ F, S a = none ∧ ∃ o, H a = some o) (motive_2 := fun vs ts F _ => ∀ a ∈ F, S a = none ∧ ∃ o, H a = some o) (motive_3 := fun vs ts F _ => ∀ a ∈ F, S a = none ∧ ∃ o, H a = some o)
    (motive_4 := fun vs ts F _ => ∀ a ∈ F, S a = none ∧ ∃ o, H a = some o) (motive_5 := fun vs ts F _ => ∀ a ∈ F, S a = none ∧ ∃ o, H a = some o) ?_ ?_ ?_ ?_ ?_ ?_ ?_ ?_ ?_ ?_ ?_ ?_ ?_ ?_ h
  · exact fun _ a h => by simp at h
  · exact fun h1 h2 _ a h => by
      rw [List.mem_singleton.mp h]
      exact ⟨h1, _, h2⟩
  · exact fun h1 h2 _ ih a h => by
      rcases List.mem_cons.mp h with rfl | h
      · exact ⟨h1, _, h2⟩
      · exact ih a h
  · exact fun _ h1 h2 _ ih a h => by
      rcases List.mem_cons.mp h with rfl | h
      · exact ⟨h1, _, h2⟩
      · exact ih a h
  · exact fun _ h1 h2 h3 h4 _ ih a h => by
      rcases List.mem_cons.mp h with rfl | h
      · exact ⟨h1, _, h3⟩
      · rcases List.mem_cons.mp h with rfl | h
        · exact ⟨h2, _, h4⟩
        · exact ih a h
  · exact fun h1 h2 _ ih a h => by
      rcases List.mem_cons.mp h with rfl | h
      · exact ⟨h1, _, h2⟩
      · exact ih a h
  · exact fun a h => by simp at h
  · exact fun _ _ i1 i2 a h => (List.mem_append.mp h).elim (i1 a) (i2 a)
  · exact fun a h => by simp at h
  · exact fun _ _ i1 i2 a h => (List.mem_append.mp h).elim (i1 a) (i2 a)
  · exact fun a h => by simp at h
  · exact fun _ _ _ _ _ i1 i2 a h => (List.mem_append.mp h).elim (i1 a) (i2 a)
  · exact fun a h => by simp at h
  · exact fun _ _ i1 i2 a h => (List.mem_append.mp h).elim (i1 a) (i2 a)

def IsOwn (Γ : Ge) (i : Nat) : Prop := ∃ xs : List D, Γ[i]? = some (.l xs) ∨ Γ[i]? = some (.b xs)
/-- what a slot holds, by its value and its objects -/
def SlOk (K : Kx) (S H : Hp) (sl : Sl) (ov : Option V) (F : List Addr) : Prop := match sl with
  | .un => F = []
  | .d x => F = [] ∧ ∃ v, ov = some v ∧ Dq K S v x
  | .l xs => ∃ a vs, ov = some (.ref a) ∧ F = [a] ∧ S a = none ∧ H a = some (.lst vs) ∧ DqAll K S vs xs
  | .b xs => ∃ a vs, ov = some (.ref a) ∧ F = [a] ∧ S a = none ∧ H a = some (.lst vs) ∧ DqAll K S vs xs
  | .o t => ∃ v, ov = some v ∧ TOk K S H t v F ∧ F.Nodup
  | .p t => ∃ v, ov = some v ∧ TOk K S H t v F ∧ F.Nodup
theorem SlOk.stay {K : Kx} {S H S' H' : Hp} {sl : Sl} {ov : Option V} {F : List Addr} (e : Same S S') (h : SlOk K S H sl ov F) (f : ∀ a ∈ F, S a = none → S' a = none) (g : ∀ a ∈ F, ∀ o, H a = some o → H' a = some o) : SlOk K S' H' sl ov F := by
  cases sl with
  | un => exact h
  | d x =>
    obtain ⟨h1, v, h2, h3⟩ := h
    exact ⟨h1, v, h2, Same.dp e h3⟩
  | l xs =>
    obtain ⟨a, vs, h1, rfl, h3, h4, h5⟩ := h
    exact ⟨a, vs, h1, rfl, f a (by simp) h3, g a (by simp) _ h4, Same.dpAll e h5⟩
  | b xs =>
    obtain ⟨a, vs, h1, rfl, h3, h4, h5⟩ := h
    exact ⟨a, vs, h1, rfl, f a (by simp) h3, g a (by simp) _ h4, Same.dpAll e h5⟩
  | o t =>
    obtain ⟨v, h1, h2, h3⟩ := h
    exact ⟨v, h1, TOk.stay e h2 f g, h3⟩
  | p t =>
    obtain ⟨v, h1, h2, h3⟩ := h
    exact ⟨v, h1, TOk.stay e h2 f g, h3⟩
theorem SlOk.there {K : Kx} {S H : Hp} {sl : Sl} {ov : Option V} {F : List Addr} (h : SlOk K S H sl ov F) : ∀ a ∈ F, S a = none ∧ ∃ o, H a = some o := by
  cases sl with
  | un =>
    have h : F = [] := h
    subst h
    exact fun a q => by simp at q
  | d x =>
    obtain ⟨rfl, _⟩ := h
    exact fun a q => by simp at q
  | l xs =>
    obtain ⟨a, vs, h1, rfl, h3, h4, h5⟩ := h
    exact fun b q => by rw [List.mem_singleton.mp q]; exact ⟨h3, _, h4⟩
  | b xs =>
    obtain ⟨a, vs, h1, rfl, h3, h4, h5⟩ := h
    exact fun b q => by rw [List.mem_singleton.mp q]; exact ⟨h3, _, h4⟩
  | o t =>
    obtain ⟨v, h1, h2, h3⟩ := h
    exact TOk.there h2
  | p t =>
    obtain ⟨v, h1, h2, h3⟩ := h
    exact TOk.there h2

structure EnvOk (K : Kx) (S : Sx) (H : Hp) (σ : L2.St) (Γ : Ge) : Prop where
  len : σ.length = Γ.length
  sub : Same S.hp H
  slot : ∀ (i : Nat) (sl : Sl), Γ[i]? = some sl → ∃ ov, σ[i]? = some ov ∧ SlOk K S.hp H sl ov (S.fp i)
  out : ∀ (i : Nat), Γ.length ≤ i → S.fp i = []
  ne : ∀ (i j : Nat) (a : Addr), a ∈ S.fp i → a ∈ S.fp j → i = j
theorem EnvOk.dat {K : Kx} {S : Sx} {H : Hp} {σ : L2.St} {Γ : Ge} (E : EnvOk K S H σ Γ) (i : Nat) (x : D) (h : Γ[i]? = some (.d x)) : ∃ v, σ[i]? = some (some v) ∧ Dq K S.hp v x := by
  obtain ⟨ov, h1, _, v, rfl, h2⟩ := E.slot i _ h
  exact ⟨v, h1, h2⟩
theorem EnvOk.ownF {K : Kx} {S : Sx} {H : Hp} {σ : L2.St} {Γ : Ge} (E : EnvOk K S H σ Γ) (i : Nat) (xs : List D) (h : Γ[i]? = some (.l xs) ∨ Γ[i]? = some (.b xs)) : ∃ a vs, σ[i]? = some (some (.ref a)) ∧ S.hp a = none ∧ H a = some (.lst vs) ∧ DqAll K S.hp vs xs ∧ S.fp i = [a] := by
  rcases h with h | h
  · obtain ⟨ov, h1, a, vs, rfl, h2, h3, h4, h5⟩ := E.slot i _ h
    exact ⟨a, vs, h1, h3, h4, h5, h2⟩
  · obtain ⟨ov, h1, a, vs, rfl, h2, h3, h4, h5⟩ := E.slot i _ h
    exact ⟨a, vs, h1, h3, h4, h5, h2⟩
theorem EnvOk.own {K : Kx} {S : Sx} {H : Hp} {σ : L2.St} {Γ : Ge} (E : EnvOk K S H σ Γ) (i : Nat) (xs : List D) (h : Γ[i]? = some (.l xs) ∨ Γ[i]? = some (.b xs)) : ∃ a vs, σ[i]? = some (some (.ref a)) ∧ S.hp a = none ∧ H a = some (.lst vs) ∧ DqAll K S.hp vs xs := by
  obtain ⟨a, vs, h1, h2, h3, h4, _⟩ := E.ownF i xs h
  exact ⟨a, vs, h1, h2, h3, h4⟩
theorem EnvOk.tree {K : Kx} {S : Sx} {H : Hp} {σ : L2.St} {Γ : Ge} (E : EnvOk K S H σ Γ) (i : Nat) (t : T) (h : Γ[i]? = some (.o t) ∨ Γ[i]? = some (.p t)) : ∃ v, σ[i]? = some (some v) ∧ TOk K S.hp H t v (S.fp i) ∧ (S.fp i).Nodup := by
  rcases h with h | h
  · obtain ⟨ov, h1, v, rfl, h2, h3⟩ := E.slot i _ h
    exact ⟨v, h1, h2, h3⟩
  · obtain ⟨ov, h1, v, rfl, h2, h3⟩ := E.slot i _ h
    exact ⟨v, h1, h2, h3⟩
/-- what is owned is there, and nobody's data -/
theorem own_tracked {K : Kx} {S : Sx} {H : Hp} {σ : L2.St} {Γ : Ge} (E : EnvOk K S H σ Γ) {a : Addr} (h : Own S a) : S.hp a = none ∧ ∃ o, H a = some o := by
  obtain ⟨i, hi⟩ := h
  by_cases hl : i < Γ.length
  · obtain ⟨ov, _, q⟩ := E.slot i _ (List.getElem?_eq_getElem hl)
    exact q.there a hi
  · rw [E.out i (by omega)] at hi
    simp at hi

structure Frm (S : Sx) (H : Hp) (σ : L2.St) (Γ : Ge) (S' : Sx) (H' : Hp) (σ' : L2.St) (Γ' : Ge) : Prop where
  grow : Same S.hp S'.hp
  keep : ∀ b o, H b = some o → ¬ Own S b → H' b = some o
  fresh : ∀ b, S.hp b = none → H b ≠ none → ¬ Own S b → S'.hp b = none
  own : ∀ b, Own S' b → Own S b ∨ H b = none
  bor : ∀ (i : Nat) (xs : List D), Γ[i]? = some (.b xs) → σ'[i]? = σ[i]? ∧ ∃ ys, Γ'[i]? = some (.b ys)
  bop : ∀ (i : Nat) (t : T), Γ[i]? = some (.p t) → σ'[i]? = σ[i]? ∧ ∃ t', Γ'[i]? = some (.p t')
  len : Γ'.length = Γ.length

theorem Frm.refl {S : Sx} {H : Hp} {σ : L2.St} {Γ : Ge} : Frm S H σ Γ S H σ Γ :=
  ⟨fun _ _ h => h, fun _ _ h _ => h, fun _ h _ _ => h, fun _ h => .inl h, fun _ xs h => ⟨rfl, xs, h⟩, fun _ t h => ⟨rfl, t, h⟩, rfl⟩
theorem Frm.trans {S S1 S2 : Sx} {H H1 H2 : Hp} {σ σ1 σ2 : L2.St} {Γ Γ1 Γ2 : Ge} (a : Frm S H σ Γ S1 H1 σ1 Γ1) (b : Frm S1 H1 σ1 Γ1 S2 H2 σ2 Γ2) : Frm S H σ Γ S2 H2 σ2 Γ2 := by
  have nown : ∀ c o, H c = some o → ¬ Own S c → ¬ Own S1 c := fun c o e n h => by
    rcases a.own c h with q | q
    · exact n q
    · rw [e] at q; cases q
  refine ⟨a.grow.trans b.grow, fun c o e n => b.keep c o (a.keep c o e n) (nown c o e n), fun c s h n => ?_, fun c h => ?_, fun i xs h => ?_, fun i t h => ?_, b.len.trans a.len⟩
  · cases e : H c with
    | none => exact absurd e h
    | some o =>
      refine b.fresh c (a.fresh c s h n) ?_ (nown c o e n)
      rw [a.keep c o e n]
      intro q
      cases q
  · rcases b.own c h with q | q
    · exact a.own c q
    · cases e : H c with
      | none => exact .inr rfl
      | some o =>
        by_cases n : Own S c
        · exact .inl n
        · rw [a.keep c o e n] at q
          cases q
  · obtain ⟨e1, ys, h1⟩ := a.bor i xs h
    obtain ⟨e2, zs, h2⟩ := b.bor i ys h1
    exact ⟨e2.trans e1, zs, h2⟩
  · obtain ⟨e1, ys, h1⟩ := a.bop i t h
    obtain ⟨e2, zs, h2⟩ := b.bop i ys h1
    exact ⟨e2.trans e1, zs, h2⟩
/-- a part of a tree -/
def partT : T → List Pk → Option T
  | x, [] => some x
  | .i _ fs, .f n :: ps => match fs.lookup n with
    | some x => partT x ps
    | none => none
  | .k kvs, .k c :: ps => match (kvs.find? fun p => decide (nk p.1 = nk c)) with
    | some p => partT p.2 ps
    | none => none
  | _, _ => none
mutual
/-- a tree as data -/
def datT : T → Option D
  | .d x => some x
  | .l xs => some (.list xs)
  | .k kvs => (datsT kvs).map .dict
  | .t ts => (datlT ts).map .tuple
  | _ => none
def datsT : List (D × T) → Option (List (D × D))
  | [] => some []
  | (c, x) :: r => match datT x, datsT r with
    | some y, some z => some ((c, y) :: z)
    | _, _ => none
def datlT : List T → Option (List D)
  | [] => some []
  | x :: r => match datT x, datlT r with
    | some y, some z => some (y :: z)
    | _, _ => none
end
def slT (Γ : Ge) (i : Nat) : Option T := match Γ[i]? with
  | some (.o t) => some t
  | some (.p t) => some t
  | _ => none
/-- the objects of a new tree: nobody's, not there before, or one's own before -/
def New (S0 : Sx) (H0 : Hp) (S : Sx) (F : List Addr) : Prop := F.Nodup ∧ ∀ a ∈ F, ¬ Own S a ∧ (H0 a = none ∨ Own S0 a)
/-- a result's value: relative to the heap H0 and the environment Γ0 ahead of the evaluation -/
def ROk (K : Kx) (S0 : Sx) (H0 : Hp) (S : Sx) (H : Hp) (σ : L2.St) (v : V) : R → Prop
  | .d x => Dq K S.hp v x
  | .l xs => ∃ a vs, v = .ref a ∧ S.hp a = none ∧ H a = some (.lst vs) ∧ DqAll K S.hp vs xs ∧ ¬ Own S a ∧ (H0 a = none ∨ Own S0 a)
  | .s i => σ[i]? = some (some v)
  | .o t => ∃ F, TOk K S.hp H t v F ∧ New S0 H0 S F

/-- a dict of one's own whose values are data -/
def flatK : List (D × T) → Option (List (D × D))
  | [] => some []
  | (c, .d x) :: r => match flatK r with
    | some z => some ((c, x) :: z)
    | none => none
  | _ => none
def flatT : T → Option D
  | .d x => some x
  | .l xs => some (.list xs)
  | .k kvs => (flatK kvs).map .dict
  | _ => none
/-- what stands at a slot now, as data -/
def slotD (Γ : Ge) (i : Nat) : Option D := match Γ[i]? with
  | some (.d x) => some x
  | some (.l xs) => some (.list xs)
  | some (.b xs) => some (.list xs)
  | some (.o t) => flatT t
  | some (.p t) => flatT t
  | _ => none
def view (Γ : Ge) : R → Option D
  | .d x => some x
  | .l xs => some (.list xs)
  | .s i => slotD Γ i
  | .o t => flatT t
/-- a value that stands for data now: data, or a list or a dict of one's own -/
def Vw (K : Kx) (S H : Hp) (v : V) (d : D) : Prop :=
  Dq K S v d ∨ (∃ a vs xs, v = .ref a ∧ d = .list xs ∧ H a = some (.lst vs) ∧ DqAll K S vs xs) ∨ (∃ a ks kvs, v = .ref a ∧ d = .dict kvs ∧ H a = some (.dK ks) ∧ DqKv K S ks kvs) ∨ (∃ a xs kvs, v = .ref a ∧ d = .dict kvs ∧ H a = some (DRO K a xs) ∧ DqKx K S xs kvs)
theorem Vw.dq {K : Kx} {S H : Hp} {v : V} {d : D} (e : Same S H) (h : Vw K S H v d) : Dq K H v d := by
  rcases h with h | ⟨a, vs, xs, rfl, rfl, h, q⟩ | ⟨a, vs, xs, rfl, rfl, h, q⟩ | ⟨a, vs, xs, rfl, rfl, h, q⟩
  · exact Same.dp e h
  · exact .lst (.inl (.inl h)) (Same.dpAll e q)
  · exact .dic (.inl h) (Same.dpKv e q)
  · exact .dix h (Same.dpKx e q)
theorem Vw.list {K : Kx} {S H : Hp} {v : V} {xs : List D} (e : Same S H) (h : Vw K S H v (.list xs)) : ∃ a vs, v = .ref a ∧ Ls K H a vs ∧ DqAll K S vs xs := by
  rcases h with h | ⟨a, vs, ys, rfl, q, h, r⟩ | ⟨_, _, _, _, q, _⟩ | ⟨_, _, _, _, q, _⟩
  · cases h with
    | lst hs ha => exact ⟨_, _, rfl, Same.ls e hs, ha⟩
  · cases q
    exact ⟨a, vs, rfl, .inl (.inl h), r⟩
  · cases q
  · cases q
theorem Vw.tup {K : Kx} {S H : Hp} {v : V} {xs : List D} (e : Same S H) (h : Vw K S H v (.tuple xs)) : ∃ a vs, v = .ref a ∧ SqT K H a vs ∧ DqAll K S vs xs := by
  rcases h with h | ⟨a, vs, ys, rfl, q, h, r⟩ | ⟨_, _, _, _, q, _⟩ | ⟨_, _, _, _, q, _⟩
  · cases h with
    | tup hs ha => exact ⟨_, _, rfl, Same.seqT e hs, ha⟩
  all_goals cases q
theorem Vw.int {K : Kx} {S H : Hp} {v : V} {i : Int} (h : Vw K S H v (.int i)) : v = .int i := by
  rcases h with h | ⟨a, vs, ys, rfl, q, h, r⟩ | ⟨_, _, _, _, q, _⟩ | ⟨_, _, _, _, q, _⟩
  · cases h; rfl
  all_goals cases q
theorem Vw.bool {K : Kx} {S H : Hp} {v : V} {i : Bool} (h : Vw K S H v (.bool i)) : v = .bl i := by
  rcases h with h | ⟨a, vs, ys, rfl, q, h, r⟩ | ⟨_, _, _, _, q, _⟩ | ⟨_, _, _, _, q, _⟩
  · cases h; rfl
  all_goals cases q
theorem Vw.str {K : Kx} {S H : Hp} {v : V} {i : Str} (h : Vw K S H v (.str i)) : v = .str i := by
  rcases h with h | ⟨a, vs, ys, rfl, q, h, r⟩ | ⟨_, _, _, _, q, _⟩ | ⟨_, _, _, _, q, _⟩
  · cases h; rfl
  all_goals cases q
theorem Vw.none {K : Kx} {S H : Hp} {v : V} (h : Vw K S H v .none) : v = .non := by
  rcases h with h | ⟨a, vs, ys, rfl, q, h, r⟩ | ⟨_, _, _, _, q, _⟩ | ⟨_, _, _, _, q, _⟩
  · cases h; rfl
  all_goals cases q
/-- a dict that is looked at -/
theorem Vw.dict {K : Kx} {S H : Hp} {v : V} {kvs : List (D × D)} (e : Same S H) (h : Vw K S H v (.dict kvs)) : ∃ a, v = .ref a ∧ ((∃ ks, Rd H a (.dK ks) ∧ DqKv K S ks kvs) ∨ ∃ xs, H a = some (DRO K a xs) ∧ DqKx K S xs kvs) := by
  rcases h with h | ⟨_, _, _, _, q, _⟩ | ⟨a, ks, ys, rfl, q, h, r⟩ | ⟨a, xs, ys, rfl, q, h, r⟩
  · cases h with
    | dic hs ha => exact ⟨_, rfl, .inl ⟨_, Same.rd e hs, ha⟩⟩
    | dix hs ha => exact ⟨_, rfl, .inr ⟨_, e _ _ hs, ha⟩⟩
  · cases q
  · cases q
    exact ⟨a, rfl, .inl ⟨_, .inl h, r⟩⟩
  · cases q
    exact ⟨a, rfl, .inr ⟨_, h, r⟩⟩
theorem DqAll.length {K : Kx} {S : Hp} : ∀ {vs : List V} {ds : List D}, DqAll K S vs ds → vs.length = ds.length
  | _, _, .nil => rfl
  | _, _, .cons _ t => by rw [List.length_cons, List.length_cons, DqAll.length t]
theorem DqAll.get {K : Kx} {S : Hp} : ∀ {vs : List V} {ds : List D} {i : Nat} {d : D}, DqAll K S vs ds → ds[i]? = some d → ∃ v, vs[i]? = some v ∧ Dq K S v d
  | _, _, _, _, .nil, h => by simp at h
  | _, _, 0, _, .cons h _, e => by
    simp only [List.getElem?_cons_zero, Option.some.injEq] at e
    subst e
    exact ⟨_, rfl, h⟩
  | _, _, i + 1, d, .cons _ t, e => by
    simp only [List.getElem?_cons_succ] at e
    obtain ⟨v, h1, h2⟩ := DqAll.get t e
    exact ⟨v, by simpa using h1, h2⟩
theorem DqAll.append {K : Kx} {S : Hp} : ∀ {vs ws : List V} {ds es : List D}, DqAll K S vs ds → DqAll K S ws es → DqAll K S (vs ++ ws) (ds ++ es)
  | _, _, _, _, .nil, h => h
  | _, _, _, _, .cons h t, q => .cons h (DqAll.append t q)
theorem DqAll.take {K : Kx} {S : Hp} : ∀ {vs : List V} {ds : List D} (n : Nat), DqAll K S vs ds → DqAll K S (vs.take n) (ds.take n)
  | _, _, 0, _ => .nil
  | _, _, _ + 1, .nil => .nil
  | _, _, n + 1, .cons h t => .cons h (DqAll.take n t)
theorem DqAll.drop {K : Kx} {S : Hp} : ∀ {vs : List V} {ds : List D} (n : Nat), DqAll K S vs ds → DqAll K S (vs.drop n) (ds.drop n)
  | _, _, 0, h => h
  | _, _, _ + 1, .nil => .nil
  | _, _, n + 1, .cons _ t => DqAll.drop n t
theorem DqAll.set {K : Kx} {S : Hp} {v : V} {d : D} (r : Dq K S v d) : ∀ {vs : List V} {ds : List D} (n : Nat), DqAll K S vs ds → DqAll K S (vs.set n v) (ds.set n d)
  | _, _, _, .nil => .nil
  | _, _, 0, .cons _ t => .cons r t
  | _, _, n + 1, .cons h t => .cons h (DqAll.set r n t)
theorem DqAll.reverse {K : Kx} {S : Hp} : ∀ {vs : List V} {ds : List D}, DqAll K S vs ds → DqAll K S vs.reverse ds.reverse
  | _, _, .nil => .nil
  | _, _, .cons h t => by
    rw [List.reverse_cons, List.reverse_cons]
    exact DqAll.append (DqAll.reverse t) (.cons h .nil)
theorem DqAll.ints {K : Kx} {S : Hp} : ∀ {vs : List V} {ns : List Int}, DqAll K S vs (ns.map PyData.int) → vs = ns.map V.int
  | _, [], h => by cases h; rfl
  | _, n :: r, h => by
    cases h with
    | cons h t =>
      cases h
      rw [DqAll.ints t]
      rfl


theorem TKv.flat {K : Kx} {S H : Hp} : ∀ {ks : List (Key × V)} {kvs : List (D × T)} {F : List Addr} {ds : List (D × D)}, TKv K S H ks kvs F → flatK kvs = some ds → DqKv K S ks ds := by
  intro ks kvs
  induction kvs generalizing ks with
  | nil =>
    intro F ds h e
    cases h
    cases e
    exact .nil
  | cons p r ih =>
    intro F ds h e
    cases h with
    | cons h1 h2 =>
      rename_i k v vs t F G
      cases t <;> first
        | (simp [flatK] at e; done)
        | skip
      unfold flatK at e
      cases q : flatK r with
      | none => rw [q] at e; cases e
      | some z =>
        rw [q] at e
        cases e
        cases h1 with
        | d h1 => exact .cons h1 (ih h2 q)
theorem TKx.flat {K : Kx} {S H : Hp} : ∀ {xs : List (NestedKey × Addr × V)} {kvs : List (D × T)} {F : List Addr} {ds : List (D × D)}, TKx K S H xs kvs F → flatK kvs = some ds → DqKx K S xs ds := by
  intro xs kvs
  induction kvs generalizing xs with
  | nil =>
    intro F ds h e
    cases h
    cases e
    exact .nil
  | cons p r ih =>
    intro F ds h e
    cases h with
    | cons h0 n1 n2 h1 h2 =>
      rename_i k b v vs c t F G
      cases t <;> first
        | (simp [flatK] at e; done)
        | skip
      unfold flatK at e
      cases q : flatK r with
      | none => rw [q] at e; cases e
      | some z =>
        rw [q] at e
        cases e
        cases h1 with
        | d h1 => exact .cons h0 n1 n2 h1 (ih h2 q)
theorem TOk.vw {K : Kx} {S H : Hp} {t : T} {v : V} {F : List Addr} {d : D} (h : TOk K S H t v F) (e : flatT t = some d) : Vw K S H v d := by
  cases h with
  | d h => cases e; exact .inl h
  | l h1 h2 h3 => cases e; exact .inr (.inl ⟨_, _, _, rfl, rfl, h2, h3⟩)
  | kv h1 h2 h3 =>
    rename_i kvs a ks F
    have e : (flatK kvs).map PyData.dict = some d := e
    cases q : flatK kvs with
    | none => rw [q] at e; cases e
    | some z =>
      rw [q] at e
      cases e
      exact .inr (.inr (.inl ⟨_, _, _, rfl, rfl, h2, h3.flat q⟩))
  | kx hn h1 h2 h3 =>
    rename_i kvs a xs F
    have e : (flatK kvs).map PyData.dict = some d := e
    cases q : flatK kvs with
    | none => rw [q] at e; cases e
    | some z =>
      rw [q] at e
      cases e
      exact .inr (.inr (.inr ⟨_, _, _, rfl, rfl, h2, h3.flat q⟩))
  | i => cases e
  | t => cases e
section
variable {K : Kx} {S0 S S' : Sx} {H0 H H' : Hp} {σ : L2.St} {Γ Γ' : Ge} {v : V} {r : R} {d : D}
/-- what a result stands for now -/
theorem ROk.vw (E : EnvOk K S H σ Γ) (h : ROk K S0 H0 S H σ v r) (e : view Γ r = some d) : Vw K S.hp H v d := by
  cases r with
  | d x =>
    cases e
    exact .inl h
  | l xs =>
    cases e
    obtain ⟨a, vs, rfl, _, h1, h2, _⟩ := h
    exact .inr (.inl ⟨a, vs, xs, rfl, rfl, h1, h2⟩)
  | o t =>
    obtain ⟨F, h1, _⟩ := h
    exact h1.vw e
  | s i =>
    have h1 : σ[i]? = some (some v) := h
    have e : slotD Γ i = some d := e
    unfold slotD at e
    cases q : Γ[i]? with
    | none => rw [q] at e; cases e
    | some sl =>
      rw [q] at e
      cases sl with
      | un => cases e
      | d x =>
        cases e
        obtain ⟨w, h2, h3⟩ := E.dat i _ q
        rw [h1] at h2
        cases h2
        exact .inl h3
      | l xs =>
        cases e
        obtain ⟨c, vs, h2, _, h3, h4, _⟩ := E.ownF i xs (.inl q)
        rw [h1] at h2
        cases h2
        exact .inr (.inl ⟨_, vs, xs, rfl, rfl, h3, h4⟩)
      | b xs =>
        cases e
        obtain ⟨c, vs, h2, _, h3, h4, _⟩ := E.ownF i xs (.inr q)
        rw [h1] at h2
        cases h2
        exact .inr (.inl ⟨_, vs, xs, rfl, rfl, h3, h4⟩)
      | o t =>
        obtain ⟨w, h2, h3, _⟩ := E.tree i t (.inl q)
        rw [h1] at h2
        cases h2
        exact h3.vw e
      | p t =>
        obtain ⟨w, h2, h3, _⟩ := E.tree i t (.inr q)
        rw [h1] at h2
        cases h2
        exact h3.vw e
/-- a result behind a further evaluation -/
theorem ROk.on (h : ROk K S0 H0 S H σ v r) (F : Frm S H σ Γ S' H' σ Γ') : ROk K S0 H0 S' H' σ v r := by
  cases r with
  | d x => exact Same.dp F.grow h
  | l xs =>
    obtain ⟨a, vs, rfl, h1, h2, h3, h4, h5⟩ := h
    refine ⟨a, vs, rfl, F.fresh a h1 (by rw [h2]; intro q; cases q) h4, F.keep a _ h2 h4, Same.dpAll F.grow h3, fun q => ?_, h5⟩
    rcases F.own a q with q | q
    · exact h4 q
    · rw [h2] at q; cases q
  | s i => exact h
  | o t =>
    obtain ⟨G, h1, h2, h3⟩ := h
    have th := h1.there
    refine ⟨G, h1.stay F.grow (fun a ha hs => F.fresh a hs (by obtain ⟨o, q⟩ := (th a ha).2; rw [q]; intro z; cases z) (h3 a ha).1) (fun a ha o ho => F.keep a o ho (h3 a ha).1), h2, fun a ha => ⟨fun q => ?_, (h3 a ha).2⟩⟩
    rcases F.own a q with q | q
    · exact (h3 a ha).1 q
    · obtain ⟨o, w⟩ := (th a ha).2
      rw [w] at q
      cases q
end
end Ly
set_option maxRecDepth 100000
namespace Ly
open PySem L2

/-! ### the heap: new objects, what is given away, what is changed -/
section
variable {K : Kx} {S S' : Sx} {H H' : Hp} {σ : L2.St} {Γ : Ge} {p : Addr} {vs : List V} {xs : List D}
/-- the heaps change, the owned objects stay -/
theorem EnvOk.heap (E : EnvOk K S H σ Γ) (e1 : Same S.hp S'.hp) (e2 : S'.fp = S.fp) (e3 : Same S'.hp H') (f : ∀ a, Own S a → S.hp a = none → S'.hp a = none) (g : ∀ a, Own S a → ∀ o, H a = some o → H' a = some o) : EnvOk K S' H' σ Γ := by
  refine ⟨E.len, e3, fun i sl h => ?_, fun i h => by rw [e2]; exact E.out i h, fun i j a => by rw [e2]; exact E.ne i j a⟩
  obtain ⟨ov, h1, h2⟩ := E.slot i sl h
  rw [e2]
  exact ⟨ov, h1, h2.stay e1 (fun a ha => f a ⟨i, ha⟩) fun a ha => g a ⟨i, ha⟩⟩
/-- a new object that is nobody's yet -/
theorem EnvOk.push (E : EnvOk K S H σ Γ) (hp : H p = none) (o : HO) : EnvOk K S (upd H p o) σ Γ :=
  E.heap (Same.refl _) rfl (E.sub.trans (Same.upd hp)) (fun _ _ h => h) fun a _ u h => by rw [upd_ne (ne_of_none h hp)]; exact h
theorem Frm.push (E : EnvOk K S H σ Γ) (hp : H p = none) (o : HO) : Frm S H σ Γ S (upd H p o) σ Γ :=
  ⟨Same.refl _, fun b u h _ => by rw [upd_ne (ne_of_none h hp)]; exact h, fun _ h _ _ => h, fun _ h => .inl h, fun _ xs h => ⟨rfl, xs, h⟩, fun _ t h => ⟨rfl, t, h⟩, rfl⟩
theorem EnvOk.free (E : EnvOk K S H σ Γ) (hp : H p = none) : S.hp p = none := E.sub.free hp
theorem not_own_new (E : EnvOk K S H σ Γ) (hp : H p = none) : ¬ Own S p := fun q => by
  obtain ⟨_, o, w⟩ := own_tracked E q
  rw [hp] at w
  cases w
/-- .. that is data from now on -/
theorem EnvOk.pushD (E : EnvOk K S H σ Γ) (hp : H p = none) (o : HO) : EnvOk K (S.up p o) (upd H p o) σ Γ := by
  refine E.heap (S' := S.up p o) (Same.upd (E.free hp)) rfl (fun b u h => ?_) (fun a q h => ?_) fun a _ u h => by rw [upd_ne (ne_of_none h hp)]; exact h
  · by_cases e : b = p
    · subst e
      rw [Sx.up_hp, upd_same] at h
      rw [upd_same]
      exact h
    · rw [Sx.up_hp, upd_ne e] at h
      rw [upd_ne e]
      exact E.sub b u h
  · rw [Sx.up_hp, upd_ne (fun e : a = p => not_own_new E hp (e ▸ q))]
    exact h
theorem Frm.pushD (E : EnvOk K S H σ Γ) (hp : H p = none) (o : HO) : Frm S H σ Γ (S.up p o) (upd H p o) σ Γ :=
  ⟨Same.upd (E.free hp), fun b u h _ => by rw [upd_ne (ne_of_none h hp)]; exact h, fun b h n _ => by
    rw [Sx.up_hp, upd_ne (fun e => n (by rw [e]; exact hp))]
    exact h, fun _ h => .inl h, fun _ xs h => ⟨rfl, xs, h⟩, fun _ t h => ⟨rfl, t, h⟩, rfl⟩
/-- an object that is nobody's becomes data -/
theorem EnvOk.freeze {o : HO} (E : EnvOk K S H σ Γ) (hs : S.hp p = none) (hp : H p = some o) (hn : ¬ Own S p) : EnvOk K (S.up p o) H σ Γ := by
  refine E.heap (S' := S.up p o) (Same.upd hs) rfl (fun b u h => ?_) (fun a q h => ?_) fun _ _ _ h => h
  · by_cases e : b = p
    · subst e
      rw [Sx.up_hp, upd_same] at h
      cases h
      exact hp
    · rw [Sx.up_hp, upd_ne e] at h
      exact E.sub b u h
  · rw [Sx.up_hp, upd_ne (fun e : a = p => hn (e ▸ q))]
    exact h
theorem Frm.freeze {S0 : Sx} {H0 : Hp} {σ0 : L2.St} {Γ0 : Ge} {o : HO} (F : Frm S0 H0 σ0 Γ0 S H σ Γ) (hs : S.hp p = none) (hn : H0 p = none ∨ Own S0 p) : Frm S0 H0 σ0 Γ0 (S.up p o) H σ Γ :=
  ⟨F.grow.trans (Same.upd hs), F.keep, fun b h1 h2 h3 => by
    have ne : b ≠ p := fun e => by
      rcases hn with q | q
      · exact h2 (e ▸ q)
      · exact h3 (e ▸ q)
    rw [Sx.up_hp, upd_ne ne]
    exact F.fresh b h1 h2 h3, F.own, F.bor, F.bop, F.len⟩
theorem dp_lst {S : Hp} (hp : S p = some (.lst vs)) (h : DqAll K S vs xs) : Dq K S (.ref p) (.list xs) := .lst (.inl (.inl hp)) h
theorem dp_tup {S : Hp} (hp : S p = some (.tup vs)) (h : DqAll K S vs xs) : Dq K S (.ref p) (.tuple xs) := .tup (.inl (.inl hp)) h
end

/-! ### goals -/
/-- the class, the own dict of an exception -/
def XOk (K : Kx) (mg : Str → Option Value) (S : Sx) (H : Hp) (x : Xn) (c : Value) (d : Option Addr) : Prop :=
  ∃ C, mg x.cls = some (.ref C) ∧ c = .ref C ∧ match x.fld with
    | none => d = none
    | some f => ∃ dx v, d = some dx ∧ H dx = some (.xd [("place", v)]) ∧ Dq K S v f

section
variable (K : Kx) (mg : Str → Option Value) (W : WX) (S : Sx) (H : Hp) (σ : L2.St) (Γ : Ge)
/-- what an evaluation's end must bring: rel tells the values that stand for a result -/
def OG {α β : Type} (rel : Sx → Hp → Ge → β → α → Prop) (Q : β → Hp → Prop) : Out α → Prop
  | .ok r Γ' => ∀ S' H' v, Frm S H σ Γ S' H' σ Γ' → EnvOk K S' H' σ Γ' → rel S' H' Γ' v r → Q v H'
  | .ex x Γ' => ∀ S' H' c d, Frm S H σ Γ S' H' σ Γ' → EnvOk K S' H' σ Γ' → XOk K mg S' H' x c d → W c d σ H'
  | .no => False
abbrev EG (Q : VK) : Out R → Prop := OG K mg W S H σ Γ (fun S' H' Γ' v r => ROk K S H S' H' σ v r) Q
def ROkAll (S0 : Sx) (H0 : Hp) (S' : Sx) (H' : Hp) : List V → List R → Prop
  | [], [] => True
  | v :: vs, r :: rs => ROk K S0 H0 S' H' σ v r ∧ ROkAll S0 H0 S' H' vs rs
  | _, _ => False
abbrev AG (Q : List V → Hp → Prop) : Out (List R) → Prop := OG K mg W S H σ Γ (fun S' H' Γ' vs rs => ROkAll K σ S H S' H' vs rs) Q
abbrev TG' (Q : Bool → Hp → Prop) : Out Bool → Prop := OG K mg W S H σ Γ (fun _ _ _ b c => b = c) Q
end

section
variable {K : Kx} {mg : Str → Option Value} {W : WX} {S S1 S' : Sx} {H H1 H' : Hp} {σ : L2.St} {Γ Γ1 Γ' : Ge}
theorem OG.bind {α β γ δ : Type} {rel : Sx → Hp → Ge → β → α → Prop} {rel' : Sx → Hp → Ge → δ → γ → Prop} {Q : δ → Hp → Prop} {o : Out α} {k : α → Ge → Out γ}
    (h : OG K mg W S H σ Γ rel' Q (o.bind k)) :
    OG K mg W S H σ Γ rel (fun v H' => ∃ S' r Γ', o = .ok r Γ' ∧ Frm S H σ Γ S' H' σ Γ' ∧ EnvOk K S' H' σ Γ' ∧ rel S' H' Γ' v r ∧ OG K mg W S H σ Γ rel' Q (k r Γ')) o := by
  cases o with
  | ok r Γ' => exact fun S' H' v F E q => ⟨S', r, Γ', rfl, F, E, q, h⟩
  | ex x Γ' => exact h
  | no => exact h
theorem OG.shift {α β : Type} {rel rel' : Sx → Hp → Ge → β → α → Prop} {Q : β → Hp → Prop} {o : Out α} (F : Frm S H σ Γ S1 H1 σ Γ1)
    (hr : ∀ S' H' Γ' v r, Frm S1 H1 σ Γ1 S' H' σ Γ' → rel' S' H' Γ' v r → rel S' H' Γ' v r) (h : OG K mg W S H σ Γ rel Q o) : OG K mg W S1 H1 σ Γ1 rel' Q o := by
  cases o with
  | ok r Γ' => exact fun S' H' v F' E q => h S' H' v (F.trans F') E (hr _ _ _ _ _ F' q)
  | ex x Γ' => exact fun S' H' c d F' E q => h S' H' c d (F.trans F') E q
  | no => exact h
theorem back_own (F : Frm S H σ Γ S1 H1 σ Γ1) {a : Addr} (h : H1 a = none ∨ Own S1 a) : H a = none ∨ Own S a := by
  rcases h with h | h
  · cases e : H a with
    | none => exact .inl rfl
    | some o =>
      by_cases n : Own S a
      · exact .inr n
      · rw [F.keep a o e n] at h
        cases h
  · rcases F.own a h with q | q
    · exact .inr q
    · exact .inl q
theorem ROk.back {v : V} {r : R} (F : Frm S H σ Γ S1 H1 σ Γ1) (h : ROk K S1 H1 S' H' σ v r) : ROk K S H S' H' σ v r := by
  cases r with
  | d x => exact h
  | l xs =>
    obtain ⟨a, vs, e, h1, h2, h3, h4, h5⟩ := h
    exact ⟨a, vs, e, h1, h2, h3, h4, back_own F h5⟩
  | s i => exact h
  | o t =>
    obtain ⟨G, h1, h2, h3⟩ := h
    exact ⟨G, h1, h2, fun a ha => ⟨(h3 a ha).1, back_own F (h3 a ha).2⟩⟩
theorem ROkAll.back (F : Frm S H σ Γ S1 H1 σ Γ1) : ∀ {vs : List V} {rs : List R}, ROkAll K σ S1 H1 S' H' vs rs → ROkAll K σ S H S' H' vs rs
  | [], [], h => h
  | _ :: _, _ :: _, h => ⟨ROk.back F h.1, ROkAll.back F h.2⟩
  | [], _ :: _, h => h
  | _ :: _, [], h => h
theorem EG.shift {Q : VK} {o : Out R} (F : Frm S H σ Γ S1 H1 σ Γ1) (h : EG K mg W S H σ Γ Q o) : EG K mg W S1 H1 σ Γ1 Q o :=
  OG.shift F (fun _ _ _ _ _ _ q => ROk.back F q) h
theorem AG.shift {Q : List V → Hp → Prop} {o : Out (List R)} (F : Frm S H σ Γ S1 H1 σ Γ1) (h : AG K mg W S H σ Γ Q o) : AG K mg W S1 H1 σ Γ1 Q o :=
  OG.shift F (fun _ _ _ _ _ _ q => ROkAll.back F q) h
theorem TG'.shift {Q : Bool → Hp → Prop} {o : Out Bool} (F : Frm S H σ Γ S1 H1 σ Γ1) (h : TG' K mg W S H σ Γ Q o) : TG' K mg W S1 H1 σ Γ1 Q o :=
  OG.shift F (fun _ _ _ _ _ _ q => q) h
end

/-! ### the strongest readings -/
def tW (X : Cx) (e : Expr) : TE := fun σ H Q => ∀ pins s, Inv X pins σ H s → wpAny (model X.prog X.w) X.A (eval e X.env) (EP X pins σ Q) X.xe s
def tWT (X : Cx) (e : Expr) : TT := fun σ H Q => ∀ pins s, Inv X pins σ H s → wpAny (model X.prog X.w) X.A (isTrue e X.env (eval e X.env)) (TP X pins σ Q) X.xe s
def tWW (X : Cx) (e : Expr) : TT := fun σ H Q => ∀ (whole : Sem Value) pins s, Inv X pins σ H s → wpAny (model X.prog X.w) X.A (isTrue e X.env whole) (TP X pins σ Q) X.xe s
def tWA (X : Cx) (es : List Expr) : TA := fun σ H Q => ∀ (pos : Pos) pins s, Inv X pins σ H s → wpAny (model X.prog X.w) X.A (spliced (backTo pos (starEach es X.env))) (AP X pins σ Q) X.xe s
section
variable {X : Cx} {e : Expr} {es : List Expr}
theorem pe_w : PE X e (tW X e) := ⟨fun pins s _ _ _ I h => h pins s I⟩
theorem pt_w : PT X e (tWT X e) := ⟨fun pins s _ _ _ I h => h pins s I⟩
theorem pw_w : PW X e (tWW X e) := ⟨fun wh pins s _ _ _ I h => h wh pins s I⟩
theorem pa_w : PA X es (tWA X es) := ⟨fun pos pins s _ _ _ I h => h pos pins s I⟩
theorem tW_of {t : TE} (h : PE X e t) {σ : L2.St} {H : Hp} {Q : VK} (q : t σ H Q) : tW X e σ H Q := fun pins s I => h.run pins s σ H Q I q
theorem tWT_of {t : TT} (h : PT X e t) {σ : L2.St} {H : Hp} {Q : Bool → Hp → Prop} (q : t σ H Q) : tWT X e σ H Q := fun pins s I => h.run pins s σ H Q I q
theorem tWW_of {t : TT} (h : PW X e t) {σ : L2.St} {H : Hp} {Q : Bool → Hp → Prop} (q : t σ H Q) : tWW X e σ H Q := fun wh pins s I => h.run wh pins s σ H Q I q
theorem tWA_of {t : TA} (h : PA X es t) {σ : L2.St} {H : Hp} {Q : List V → Hp → Prop} (q : t σ H Q) : tWA X es σ H Q := fun pos pins s I => h.run pos pins s σ H Q I q
theorem tW_mono {σ : L2.St} {H : Hp} {Q Q' : VK} (h : tW X e σ H Q) (m : ∀ v H', Q v H' → Q' v H') : tW X e σ H Q' := fun pins s I =>
  thn (h pins s I) fun _ _ ⟨v, H', I', r, q⟩ => ⟨v, H', I', r, m v H' q⟩
theorem tWT_mono {σ : L2.St} {H : Hp} {Q Q' : Bool → Hp → Prop} (h : tWT X e σ H Q) (m : ∀ v H', Q v H' → Q' v H') : tWT X e σ H Q' := fun pins s I =>
  thn (h pins s I) fun _ _ ⟨H', I', q⟩ => ⟨H', I', m _ H' q⟩
theorem tWA_mono {σ : L2.St} {H : Hp} {Q Q' : List V → Hp → Prop} (h : tWA X es σ H Q) (m : ∀ v H', Q v H' → Q' v H') : tWA X es σ H Q' := fun pos pins s I =>
  thn (h pos pins s I) fun _ _ ⟨v, H', I', r, q⟩ => ⟨v, H', I', r, m v H' q⟩
end

/-! ### the judgements -/
structure PX (X : Cx) (e : Expr) (f : EF) : Prop where
  run : ∀ (W : WX), Takes X W → ∀ (S : Sx) (H : Hp) (σ : L2.St) (Γ : Ge) (Q : VK), EnvOk (kx X) S H σ Γ → EG (kx X) X.mg W S H σ Γ Q (f Γ) → tW X e σ H Q
structure PAx (X : Cx) (es : List Expr) (f : Ge → Out (List R)) : Prop where
  run : ∀ (W : WX), Takes X W → ∀ (S : Sx) (H : Hp) (σ : L2.St) (Γ : Ge) (Q : List V → Hp → Prop), EnvOk (kx X) S H σ Γ → AG (kx X) X.mg W S H σ Γ Q (f Γ) → tWA X es σ H Q
structure PTx (X : Cx) (e : Expr) (f : Ge → Out Bool) : Prop where
  run : ∀ (W : WX), Takes X W → ∀ (S : Sx) (H : Hp) (σ : L2.St) (Γ : Ge) (Q : Bool → Hp → Prop), EnvOk (kx X) S H σ Γ → TG' (kx X) X.mg W S H σ Γ Q (f Γ) → tWT X e σ H Q
structure PWx (X : Cx) (e : Expr) (f : Ge → Out Bool) : Prop where
  run : ∀ (W : WX), Takes X W → ∀ (S : Sx) (H : Hp) (σ : L2.St) (Γ : Ge) (Q : Bool → Hp → Prop), EnvOk (kx X) S H σ Γ → TG' (kx X) X.mg W S H σ Γ Q (f Γ) → tWW X e σ H Q

/-! ### what an operation on values gives -/
inductive O where
  | d (x : D) | l (xs : List D) | t (xs : List D)
def outO (Γ : Ge) : Option O → Out R
  | some (.d x) => .ok (.d x) Γ
  | some (.l xs) => .ok (.l xs) Γ
  | some (.t xs) => .ok (.d (.tuple xs)) Γ
  | none => .no
def FinO (K : Kx) (S H : Hp) (Q : VK) : O → Prop
  | .d x => ∀ v, Dq K S v x → Q v H
  | .l xs => ∀ p vs, H p = none → DqAll K S vs xs → Q (.ref p) (upd H p (.lst vs))
  | .t xs => ∀ p vs, H p = none → DqAll K S vs xs → Q (.ref p) (upd H p (.tup vs))
theorem fin_of {K : Kx} {mg : Str → Option Value} {W : WX} {S : Sx} {H : Hp} {σ : L2.St} {Γ : Ge} {Q : VK} {o : O} (E : EnvOk K S H σ Γ) (h : EG K mg W S H σ Γ Q (outO Γ (some o))) : FinO K S H Q o := by
  cases o with
  | d x => exact fun v hv => h S H v .refl E hv
  | l xs =>
    intro p vs hp hv
    refine h S _ _ (.push E hp _) (E.push hp _) ⟨p, vs, rfl, E.free hp, upd_same, hv, fun q => ?_, .inl hp⟩
    obtain ⟨ws, _, q⟩ := own_tracked E q
    rw [hp] at q; cases q
  | t xs =>
    intro p vs hp hv
    exact h _ _ _ (.pushD E hp _) (E.pushD hp _) (dp_tup upd_same (Same.dpAll (Same.upd (E.free hp)) hv))
def OpD (K : Kx) (rr : R2) (g : D → D → Option O) : Prop :=
  ∀ (S H : Hp) (x y : V) (d e : D) (o : O) (Q : VK), Same S H → Vw K S H x d → Vw K S H y e → g d e = some o → FinO K S H Q o → rr x y H Q
def UnD (K : Kx) (rr : V → Hp → VK → Prop) (g : D → Option O) : Prop :=
  ∀ (S H : Hp) (x : V) (d : D) (o : O) (Q : VK), Same S H → Vw K S H x d → g d = some o → FinO K S H Q o → rr x H Q
def VwAll (K : Kx) (S H : Hp) : List V → List D → Prop
  | [], [] => True
  | v :: vs, d :: ds => Vw K S H v d ∧ VwAll K S H vs ds
  | _, _ => False
def ClD (K : Kx) (rr : List V → Hp → VK → Prop) (g : List D → Option O) : Prop :=
  ∀ (S H : Hp) (vs : List V) (ds : List D) (o : O) (Q : VK), Same S H → VwAll K S H vs ds → g ds = some o → FinO K S H Q o → rr vs H Q
def views (Γ : Ge) : List R → Option (List D)
  | [] => some []
  | r :: rs => match view Γ r, views Γ rs with
    | some d, some ds => some (d :: ds)
    | _, _ => none
theorem ROkAll.vw {K : Kx} {S : Sx} {H0 H : Hp} {σ : L2.St} {Γ : Ge} (E : EnvOk K S H σ Γ) : ∀ {vs : List V} {rs : List R} {ds : List D}, ROkAll K σ S0 H0 S H vs rs → views Γ rs = some ds → VwAll K S H vs ds
  | [], [], ds, _, e => by cases e; trivial
  | v :: vs, r :: rs, ds, h, e => by
    unfold views at e
    cases q : view Γ r with
    | none => rw [q] at e; cases e
    | some d =>
      rw [q] at e
      cases q' : views Γ rs with
      | none => rw [q'] at e; cases e
      | some es =>
        rw [q'] at e
        cases e
        exact ⟨h.1.vw E q, ROkAll.vw E h.2 q'⟩
  | [], _ :: _, _, h, _ => h.elim
  | _ :: _, [], _, h, _ => h.elim
theorem ROkAll.on {K : Kx} {S S' : Sx} {H0 H H' : Hp} {σ : L2.St} {Γ Γ' : Ge} (F : Frm S H σ Γ S' H' σ Γ') : ∀ {vs : List V} {rs : List R}, ROkAll K σ S0 H0 S H vs rs → ROkAll K σ S0 H0 S' H' vs rs
  | [], [], h => h
  | _ :: _, _ :: _, h => ⟨h.1.on F, ROkAll.on F h.2⟩
  | [], _ :: _, h => h
  | _ :: _, [], h => h

def op2 (g : D → D → Option O) (r1 r2 : R) (Γ : Ge) : Out R := match view Γ r1, view Γ r2 with
  | some x, some y => outO Γ (g x y)
  | _, _ => .no
def op1 (g : D → Option O) (r : R) (Γ : Ge) : Out R := match view Γ r with
  | some x => outO Γ (g x)
  | _ => .no
def opN (g : List D → Option O) (rs : List R) (Γ : Ge) : Out R := match views Γ rs with
  | some x => outO Γ (g x)
  | _ => .no
section
variable {K : Kx} {mg : Str → Option Value} {W : WX} {S0 S : Sx} {H0 H : Hp} {σ : L2.St} {Γ0 Γ : Ge} {Q : VK}
theorem op2_ok {rr : R2} {g : D → D → Option O} {r1 r2 : R} {x y : V} (hg : OpD K rr g) (E : EnvOk K S H σ Γ) (F : Frm S0 H0 σ Γ0 S H σ Γ) (h1 : ROk K S0 H0 S H σ x r1) (h2 : ROk K S0 H0 S H σ y r2)
    (G : EG K mg W S0 H0 σ Γ0 Q (op2 g r1 r2 Γ)) : rr x y H Q := by
  unfold op2 at G
  cases e1 : view Γ r1 with
  | none => rw [e1] at G; exact G.elim
  | some d =>
    cases e2 : view Γ r2 with
    | none => rw [e1, e2] at G; exact G.elim
    | some e =>
      rw [e1, e2] at G
      dsimp only at G
      cases e3 : g d e with
      | none => rw [e3] at G; exact G.elim
      | some o =>
        rw [e3] at G
        exact hg S H x y d e o Q E.sub (h1.vw E e1) (h2.vw E e2) e3 (fin_of E (EG.shift F G))
theorem op1_ok {rr : V → Hp → VK → Prop} {g : D → Option O} {r1 : R} {x : V} (hg : UnD K rr g) (E : EnvOk K S H σ Γ) (F : Frm S0 H0 σ Γ0 S H σ Γ) (h1 : ROk K S0 H0 S H σ x r1)
    (G : EG K mg W S0 H0 σ Γ0 Q (op1 g r1 Γ)) : rr x H Q := by
  unfold op1 at G
  cases e1 : view Γ r1 with
  | none => rw [e1] at G; exact G.elim
  | some d =>
    rw [e1] at G
    dsimp only at G
    cases e3 : g d with
    | none => rw [e3] at G; exact G.elim
    | some o =>
      rw [e3] at G
      exact hg S H x d o Q E.sub (h1.vw E e1) e3 (fin_of E (EG.shift F G))
theorem opN_ok {rr : List V → Hp → VK → Prop} {g : List D → Option O} {rs : List R} {xs : List V} (hg : ClD K rr g) (E : EnvOk K S H σ Γ) (F : Frm S0 H0 σ Γ0 S H σ Γ) (h1 : ROkAll K σ S0 H0 S H xs rs)
    (G : EG K mg W S0 H0 σ Γ0 Q (opN g rs Γ)) : rr xs H Q := by
  unfold opN at G
  cases e1 : views Γ rs with
  | none => rw [e1] at G; exact G.elim
  | some d =>
    rw [e1] at G
    dsimp only at G
    cases e3 : g d with
    | none => rw [e3] at G; exact G.elim
    | some o =>
      rw [e3] at G
      exact hg S H xs d o Q E.sub (h1.vw E e1) e3 (fin_of E (EG.shift F G))
end
end Ly
set_option maxRecDepth 100000
namespace Ly
open PySem L2

/-! ### slots -/
theorem getset {α : Type} {l : List α} {i j : Nat} {x y : α} (h : (l.set i x)[j]? = some y) : (j = i ∧ y = x) ∨ (j ≠ i ∧ l[j]? = some y) := by
  by_cases e : i = j
  · subst e
    by_cases hl : i < l.length
    · rw [List.getElem?_set_self hl] at h
      exact .inl ⟨rfl, (Option.some.inj h).symm⟩
    · rw [List.getElem?_eq_none (by rw [List.length_set]; omega)] at h
      cases h
  · rw [List.getElem?_set_ne e] at h
    exact .inr ⟨fun q => e q.symm, h⟩
theorem getset_ne {α : Type} {l : List α} {i j : Nat} {x : α} (h : j ≠ i) : (l.set i x)[j]? = l[j]? := List.getElem?_set_ne (fun q => h q.symm)
theorem getset_eq {α : Type} {l : List α} {i : Nat} {x y : α} (h : l[i]? = some y) : (l.set i x)[i]? = some x := List.getElem?_set_self (List.getElem?_eq_some_iff.mp h).1

theorem fput_same {S : Sx} {i : Nat} {F : List Addr} (h : S.fp i = F) : S.fput i F = S := by
  cases S with
  | mk hp fp =>
    unfold Sx.fput
    congr 1
    funext j
    by_cases e : j = i
    · subst e
      rw [if_pos rfl]
      exact h.symm
    · rw [if_neg e]
/-- lent slots are never stored to -/
def notB' : Sl → Bool
  | .b _ => false
  | .p _ => false
  | _ => true
section
variable {K : Kx} {S S' S0 : Sx} {H H' H0 : Hp} {σ σ0 : L2.St} {Γ Γ0 : Ge} {i : Nat} {vs : List V} {xs : List D} {a : Addr}
theorem own_fput {F : List Addr} (h : Own (S.fput i F) a) : a ∈ F ∨ ∃ j, j ≠ i ∧ a ∈ S.fp j := by
  obtain ⟨j, hj⟩ := h
  by_cases e : j = i
  · subst e
    rw [Sx.fput_eq] at hj
    exact .inl hj
  · rw [Sx.fput_ne e] at hj
    exact .inr ⟨j, e, hj⟩
theorem own_fput' {F : List Addr} (hF : ∀ b ∈ F, b ∈ S.fp i) (h : Own (S.fput i F) a) : Own S a := by
  rcases own_fput h with h | ⟨j, _, h⟩
  · exact ⟨i, hF a h⟩
  · exact ⟨j, h⟩
/-- a slot is given other content -/
theorem EnvOk.setSl (E : EnvOk K S H σ Γ) (hi : i < Γ.length) {sl : Sl} {ov : Option V} {F : List Addr} (h : SlOk K S.hp H sl ov F) (ap : ∀ b ∈ F, ∀ j, j ≠ i → b ∉ S.fp j) : EnvOk K (S.fput i F) H (σ.set i ov) (Γ.set i sl) := by
  refine ⟨by rw [List.length_set, List.length_set]; exact E.len, E.sub, fun j s2 hj => ?_, fun j hj => ?_, fun j k b h1 h2 => ?_⟩
  · by_cases e : j = i
    · subst e
      rw [List.getElem?_set_self hi] at hj
      cases hj
      rw [Sx.fput_eq]
      exact ⟨ov, List.getElem?_set_self (by rw [E.len]; exact hi), h⟩
    · rw [getset_ne e] at hj
      rw [getset_ne e, Sx.fput_ne e]
      exact E.slot j s2 hj
  · rw [List.length_set] at hj
    rw [Sx.fput_ne (by omega)]
    exact E.out j hj
  · by_cases e1 : j = i
    · by_cases e2 : k = i
      · rw [e1, e2]
      · rw [e1, Sx.fput_eq] at h1
        rw [Sx.fput_ne e2] at h2
        exact absurd h2 (ap b h1 k e2)
    · rw [Sx.fput_ne e1] at h1
      by_cases e2 : k = i
      · rw [e2, Sx.fput_eq] at h2
        exact absurd h1 (ap b h2 j e1)
      · rw [Sx.fput_ne e2] at h2
        exact E.ne j k b h1 h2
theorem Frm.setSl (F : Frm S0 H0 σ0 Γ0 S H σ Γ) {sl s1 : Sl} {ov : Option V} {G : List Addr} (hi : Γ[i]? = some s1) (hb : notB' s1 = true) (ho : ∀ b ∈ G, Own S0 b ∨ H0 b = none) : Frm S0 H0 σ0 Γ0 (S.fput i G) H (σ.set i ov) (Γ.set i sl) := by
  refine ⟨F.grow, F.keep, F.fresh, fun b h => ?_, fun j xs hj => ?_, fun j t hj => ?_, by rw [List.length_set]; exact F.len⟩
  · rcases own_fput h with h | ⟨j, _, h⟩
    · exact ho b h
    · exact F.own b ⟨j, h⟩
  · obtain ⟨h1, ys, h2⟩ := F.bor j xs hj
    have e : j ≠ i := fun e => by
      subst e
      rw [hi] at h2
      cases h2
      cases hb
    rw [getset_ne e, getset_ne e]
    exact ⟨h1, ys, h2⟩
  · obtain ⟨h1, ys, h2⟩ := F.bop j t hj
    have e : j ≠ i := fun e => by
      subst e
      rw [hi] at h2
      cases h2
      cases hb
    rw [getset_ne e, getset_ne e]
    exact ⟨h1, ys, h2⟩
/-- the kind of a slot that may be lent stays -/
def kindOf : Sl → Sl → Prop
  | .b _, s => ∃ ys, s = .b ys
  | .p _, s => ∃ t, s = .p t
  | _, _ => True
/-- what a slot owns is changed -/
theorem mut_sl (E : EnvOk K S H σ Γ) {s1 sl : Sl} {ov : Option V} {F : List Addr} (hi : Γ[i]? = some s1) (hv : σ[i]? = some ov) (hk : kindOf s1 sl) (keep : ∀ b o, H b = some o → b ∉ S.fp i → H' b = some o) (sub : Same S.hp H') (h : SlOk K S.hp H' sl ov F) (hF : ∀ b ∈ F, b ∈ S.fp i ∨ H b = none) :
    Frm S H σ Γ (S.fput i F) H' σ (Γ.set i sl) ∧ EnvOk K (S.fput i F) H' σ (Γ.set i sl) := by
  have hl : i < Γ.length := (List.getElem?_eq_some_iff.mp hi).1
  have other : ∀ j, j ≠ i → ∀ b ∈ S.fp j, b ∉ S.fp i := fun j ne b hb hc => ne (E.ne j i b hb hc)
  refine ⟨⟨Same.refl _, fun b o hb n => keep b o hb fun q => n ⟨i, q⟩, fun _ h _ _ => h, fun b hb => ?_, fun j xs hj => ⟨rfl, ?_⟩, fun j t hj => ⟨rfl, ?_⟩, List.length_set⟩, ⟨?_, sub, fun j s2 hj => ?_, fun j hj => ?_, fun j k b h1 h2 => ?_⟩⟩
  · rcases own_fput hb with q | ⟨j, _, q⟩
    · rcases hF b q with w | w
      · exact .inl ⟨i, w⟩
      · exact .inr w
    · exact .inl ⟨j, q⟩
  · by_cases e : j = i
    · subst e
      rw [hi] at hj
      cases hj
      obtain ⟨ys, rfl⟩ := hk
      exact ⟨ys, getset_eq hi⟩
    · exact ⟨xs, by rw [getset_ne e]; exact hj⟩
  · by_cases e : j = i
    · subst e
      rw [hi] at hj
      cases hj
      obtain ⟨ys, rfl⟩ := hk
      exact ⟨ys, getset_eq hi⟩
    · exact ⟨t, by rw [getset_ne e]; exact hj⟩
  · rw [List.length_set]
    exact E.len
  · by_cases e : j = i
    · subst e
      rw [getset_eq hi] at hj
      cases hj
      rw [Sx.fput_eq]
      exact ⟨ov, hv, h⟩
    · rw [getset_ne e] at hj
      obtain ⟨ov2, q1, q2⟩ := E.slot j s2 hj
      rw [Sx.fput_ne e]
      exact ⟨ov2, q1, q2.stay (Same.refl _) (fun _ _ h => h) fun b hb o ho => keep b o ho (other j e b hb)⟩
  · rw [List.length_set] at hj
    rw [Sx.fput_ne (by omega)]
    exact E.out j hj
  · have away : ∀ j, j ≠ i → ∀ c ∈ F, c ∉ S.fp j := fun j ne c hc hj => by
      rcases hF c hc with w | w
      · exact other j ne c hj w
      · obtain ⟨_, o, z⟩ := own_tracked E ⟨j, hj⟩
        rw [w] at z
        cases z
    by_cases e1 : j = i
    · by_cases e2 : k = i
      · rw [e1, e2]
      · rw [e1, Sx.fput_eq] at h1
        rw [Sx.fput_ne e2] at h2
        exact absurd h2 (away k e2 b h1)
    · rw [Sx.fput_ne e1] at h1
      by_cases e2 : k = i
      · rw [e2, Sx.fput_eq] at h2
        exact absurd h1 (away j e1 b h2)
      · rw [Sx.fput_ne e2] at h2
        exact E.ne j k b h1 h2
/-- a slot lets go what it owns; it keeps its value -/
theorem letgo_sl (E : EnvOk K S H σ Γ) {s1 sl : Sl} {ov : Option V} (hi : Γ[i]? = some s1) (hv : σ[i]? = some ov) (hb : notB' s1 = true) (h : SlOk K S.hp H sl ov []) :
    Frm S H σ Γ (S.fput i []) H σ (Γ.set i sl) ∧ EnvOk K (S.fput i []) H σ (Γ.set i sl) ∧ ∀ b ∈ S.fp i, ¬ Own (S.fput i []) b := by
  have hk : kindOf s1 sl := by cases s1 <;> first | trivial | cases hb
  obtain ⟨F1, E1⟩ := mut_sl (H' := H) E hi hv hk (fun _ _ h _ => h) E.sub h (fun b q => by simp at q)
  refine ⟨F1, E1, fun b hb q => ?_⟩
  rcases own_fput q with w | ⟨j, ne, w⟩
  · simp at w
  · exact ne (E.ne j i b w hb)
theorem freeze_slot (E : EnvOk K S H σ Γ) (hi : Γ[i]? = some (.l xs)) (h1 : σ[i]? = some (some (.ref a))) (h2 : S.hp a = none) (h3 : H a = some (.lst vs)) (h4 : DqAll K S vs xs) :
    ∃ S', Frm S H σ Γ S' H σ (Γ.set i (.d (.list xs))) ∧ EnvOk K S' H σ (Γ.set i (.d (.list xs))) ∧ Dq K S' (.ref a) (.list xs) := by
  have ha : a ∈ S.fp i := by
    obtain ⟨c, _, q1, _, _, _, q2⟩ := E.ownF i xs (.inl hi)
    rw [h1] at q1
    cases q1
    rw [q2]
    simp
  obtain ⟨F1, E1, n1⟩ := letgo_sl (sl := .un) E hi h1 rfl rfl
  have na := n1 a ha
  have E2 := E1.freeze (p := a) h2 h3 na
  have F2 := F1.freeze (p := a) (o := .lst vs) h2 (.inr ⟨i, ha⟩)
  have dp : Dq K ((S.fput i []).up a (.lst vs)).hp (.ref a) (.list xs) := dp_lst upd_same (Same.dpAll (Same.upd h2) h4)
  have hg : (Γ.set i .un)[i]? = some .un := getset_eq hi
  have hl : i < Γ.length := (List.getElem?_eq_some_iff.mp hi).1
  obtain ⟨F3, E3⟩ := mut_sl (H' := H) (sl := .d (.list xs)) (F := []) E2 hg h1 trivial (fun _ _ h _ => h) E2.sub ⟨rfl, _, rfl, dp⟩ (fun b q => by simp at q)
  rw [List.set_set] at F3 E3
  exact ⟨_, F2.trans F3, E3, dp⟩
end

/-! ### names, constants -/
section
variable {X : Cx} {a b c e : Expr} {f g h : EF} {pos : Pos}
def cst (d : D) : EF := fun Γ => .ok (.d d) Γ
theorem px_c {v : V} {d : D} (he : PE X e (tC v)) (hd : ∀ S, Dq (kx X) S v d) : PX X e (cst d) := ⟨fun W tk S H σ Γ Q E G => tW_of he (G S H v .refl E (hd S))⟩
theorem px_int {i : Int} {j : Nat} : PX X (.Constant (.int i) j pos) (cst (.int i)) := px_c pe_int fun _ => .int i
theorem px_bl {i : Bool} {j : Nat} : PX X (.Constant (.bool i) j pos) (cst (.bool i)) := px_c pe_bl fun _ => .bl i
theorem px_non {j : Nat} : PX X (.Constant .none j pos) (cst .none) := px_c pe_non fun _ => .non
theorem px_str {i : Str} {j : Nat} : PX X (.Constant (.str i) j pos) (cst (.str i)) := px_c pe_str fun _ => .str i
/-- a name, as data -/
def dvar (i : Nat) : EF := fun Γ => match Γ[i]? with
  | some (.d x) => .ok (.d x) Γ
  | some (.l xs) => .ok (.d (.list xs)) (Γ.set i (.d (.list xs)))
  | _ => .no
theorem px_d {i : Nat} (he : PE X e (tVar i)) : PX X e (dvar i) := by
  refine ⟨fun W tk S H σ Γ Q E G => tW_of he ?_⟩
  unfold dvar at G
  cases q : Γ[i]? with
  | none => rw [q] at G; exact G.elim
  | some sl =>
    rw [q] at G
    cases sl with
    | un => exact G.elim
    | b _ => exact G.elim
    | d x =>
      obtain ⟨v, h1, h2⟩ := E.dat i x q
      exact ⟨v, h1, G S H v .refl E h2⟩
    | l xs =>
      obtain ⟨a, vs, h1, h2, h3, h4, _⟩ := E.ownF i xs (.inl q)
      obtain ⟨S', F', E', dp⟩ := freeze_slot E q h1 h2 h3 h4
      exact ⟨.ref a, h1, G _ _ _ F' E' dp⟩
    | o t => exact G.elim
    | p t => exact G.elim
/-- a name, looked at -/
def svar (i : Nat) : EF := fun Γ => match Γ[i]? with
  | some (.d x) => .ok (.d x) Γ
  | some (.l _) => .ok (.s i) Γ
  | some (.b _) => .ok (.s i) Γ
  | some (.o _) => .ok (.s i) Γ
  | some (.p _) => .ok (.s i) Γ
  | _ => .no
theorem px_s {i : Nat} (he : PE X e (tVar i)) : PX X e (svar i) := by
  refine ⟨fun W tk S H σ Γ Q E G => tW_of he ?_⟩
  unfold svar at G
  cases q : Γ[i]? with
  | none => rw [q] at G; exact G.elim
  | some sl =>
    rw [q] at G
    cases sl with
    | un => exact G.elim
    | b xs =>
      obtain ⟨a, vs, h1, h2, h3, h4, _⟩ := E.ownF i xs (.inr q)
      exact ⟨.ref a, h1, G S H _ .refl E h1⟩
    | o t =>
      obtain ⟨v, h1, _⟩ := E.tree i t (.inl q)
      exact ⟨v, h1, G S H _ .refl E h1⟩
    | p t =>
      obtain ⟨v, h1, _⟩ := E.tree i t (.inr q)
      exact ⟨v, h1, G S H _ .refl E h1⟩
    | d x =>
      obtain ⟨v, h1, h2⟩ := E.dat i x q
      exact ⟨v, h1, G S H v .refl E h2⟩
    | l xs =>
      obtain ⟨a, vs, h1, h2, h3, h4, _⟩ := E.ownF i xs (.inl q)
      exact ⟨.ref a, h1, G S H _ .refl E h1⟩

/-! ### two in a row -/
theorem seq2 {W : WX} (tk : Takes X W) (pa : PX X a f) (pb : PX X b g) {S : Sx} {H : Hp} {σ : L2.St} {Γ : Ge} {γ δ : Type} {rel : Sx → Hp → Ge → δ → γ → Prop} {Q : δ → Hp → Prop} {k : R → R → Ge → Out γ} {R2' : V → V → Hp → Prop}
    (E : EnvOk (kx X) S H σ Γ) (G : OG (kx X) X.mg W S H σ Γ rel Q ((f Γ).bind fun r1 Γ1 => (g Γ1).bind fun r2 Γ2 => k r1 r2 Γ2))
    (q : ∀ S2 H2 Γ2 x y r1 r2, Frm S H σ Γ S2 H2 σ Γ2 → EnvOk (kx X) S2 H2 σ Γ2 → ROk (kx X) S H S2 H2 σ x r1 → ROk (kx X) S H S2 H2 σ y r2 → OG (kx X) X.mg W S H σ Γ rel Q (k r1 r2 Γ2) → R2' x y H2) :
    tW X a σ H fun x H1 => tW X b σ H1 fun y H2 => R2' x y H2 := by
  refine tW_mono (pa.run W tk S H σ Γ _ E (OG.bind G)) fun x H1 ⟨S1, r1, Γ1, e1, F1, E1, R1, G1⟩ => ?_
  refine tW_mono (pb.run W tk S1 H1 σ Γ1 _ E1 (OG.bind (OG.shift F1 (fun _ _ _ _ _ _ z => z) G1))) fun y H2 ⟨S2, r2, Γ2, e2, F2, E2, R2, _⟩ => ?_
  refine q S2 H2 Γ2 x y r1 r2 (F1.trans F2) E2 (R1.on F2) (R2.back F1) ?_
  rw [e2] at G1
  exact G1
theorem seq1 {W : WX} (tk : Takes X W) (pa : PX X a f) {S : Sx} {H : Hp} {σ : L2.St} {Γ : Ge} {γ δ : Type} {rel : Sx → Hp → Ge → δ → γ → Prop} {Q : δ → Hp → Prop} {k : R → Ge → Out γ} {R1' : V → Hp → Prop}
    (E : EnvOk (kx X) S H σ Γ) (G : OG (kx X) X.mg W S H σ Γ rel Q ((f Γ).bind fun r1 Γ1 => k r1 Γ1))
    (q : ∀ S2 H2 Γ2 x r1, Frm S H σ Γ S2 H2 σ Γ2 → EnvOk (kx X) S2 H2 σ Γ2 → ROk (kx X) S H S2 H2 σ x r1 → OG (kx X) X.mg W S H σ Γ rel Q (k r1 Γ2) → R1' x H2) :
    tW X a σ H fun x H1 => R1' x H1 :=
  tW_mono (pa.run W tk S H σ Γ _ E (OG.bind G)) fun x H1 ⟨S1, r1, Γ1, _, F1, E1, R1, G1⟩ => q S1 H1 Γ1 x r1 F1 E1 R1 G1

/-! ### operations -/
def binF (o : D → D → Option O) (f g : EF) : EF := fun Γ => (f Γ).bind fun r1 Γ1 => (g Γ1).bind fun r2 Γ2 => op2 o r1 r2 Γ2
def unF (o : D → Option O) (f : EF) : EF := fun Γ => (f Γ).bind fun r1 Γ1 => op1 o r1 Γ1
theorem px_bin {op : Operator} {rr : R2} {o : D → D → Option O} (ho : OpR X (binaryOp op) rr) (hg : OpD (kx X) rr o) (pa : PX X a f) (pb : PX X b g) : PX X (.BinOp a op b pos) (binF o f g) :=
  ⟨fun W tk S H σ Γ Q E G => tW_of (pe_op ho pe_w pe_w) (seq2 tk pa pb E G fun S2 H2 Γ2 x y r1 r2 F E R1 R2 G => op2_ok hg E F R1 R2 G)⟩
theorem px_un {op : UnaryOp} {rr : V → Hp → VK → Prop} {o : D → Option O} (ho : UnR X (unaryOp op) rr) (hg : UnD (kx X) rr o) (pa : PX X a f) : PX X (.UnaryOp op a pos) (unF o f) :=
  ⟨fun W tk S H σ Γ Q E G => tW_of (pe_un ho pe_w) (seq1 tk pa E G fun S2 H2 Γ2 x r1 F E R1 G => op1_ok hg E F R1 G)⟩
theorem px_cmp {op : CmpOp} {rr : R2} {o : D → D → Option O} (ho : OpR X (compareOp op) rr) (hg : OpD (kx X) rr o) (pa : PX X a f) (pb : PX X b g) (hm : behindInMarks op b = false) : PX X (.Compare a [op] [b] pos) (binF o f g) :=
  ⟨fun W tk S H σ Γ Q E G => tW_of (pe_cmpR ho pe_w pe_w hm) (seq2 tk pa pb E G fun S2 H2 Γ2 x y r1 r2 F E R1 R2 G => op2_ok hg E F R1 R2 G)⟩
theorem px_ix {rr : R2} {o : D → D → Option O} (hr : IxR X rr) (hg : OpD (kx X) rr o) (pa : PX X a f) (pb : PX X b g) (hs : PlainIx b) : PX X (.Subscript a b pos) (binF o f g) :=
  ⟨fun W tk S H σ Γ Q E G => tW_of (pe_ix hr pe_w pe_w hs) (seq2 tk pa pb E G fun S2 H2 Γ2 x y r1 r2 F E R1 R2 G => op2_ok hg E F R1 R2 G)⟩
/-- a op b op' c -/
def chainF (o o' : D → D → Option O) (f g h : EF) : EF := fun Γ => (f Γ).bind fun r1 Γ1 => (g Γ1).bind fun r2 Γ2 => match op2 o r1 r2 Γ2 with
  | .ok (.d (.bool true)) Γ3 => (h Γ3).bind fun r3 Γ4 => op2 o' r2 r3 Γ4
  | .ok (.d (.bool false)) Γ3 => .ok (.d (.bool false)) Γ3
  | _ => .no
theorem px_chain {op op' : CmpOp} {rr rr' : R2} {o o' : D → D → Option O} (ho : OpR X (compareOp op) rr) (ho' : OpR X (compareOp op') rr') (hg : OpD (kx X) rr o) (hg' : OpD (kx X) rr' o') (pa : PX X a f) (pb : PX X b g) (pc : PX X c h)
    (hm : lastMarks [op, op'] [b, c] = false := by with_unfolding_all rfl) : PX X (.Compare a [op, op'] [b, c] pos) (chainF o o' f g h) := by
  refine ⟨fun W tk S H σ Γ Q E G => tW_of (pe_chain ho ho' pe_w pe_w pe_w hm) (seq2 tk pa pb E G fun S2 H2 Γ2 x y r1 r2 F E R1 R2 G => ?_)⟩
  -- the first comparison's truth
  cases e1 : view Γ2 r1 with
  | none => rw [show op2 o r1 r2 Γ2 = .no by unfold op2; rw [e1]] at G; exact G.elim
  | some d1 =>
    cases e2 : view Γ2 r2 with
    | none => rw [show op2 o r1 r2 Γ2 = .no by unfold op2; rw [e1, e2]] at G; exact G.elim
    | some d2 =>
      rw [show op2 o r1 r2 Γ2 = outO Γ2 (o d1 d2) by unfold op2; rw [e1, e2]] at G
      cases e3 : o d1 d2 with
      | none => rw [e3] at G; exact G.elim
      | some w =>
        rw [e3] at G
        cases w with
        | l _ => exact G.elim
        | t _ => exact G.elim
        | d z =>
          cases z <;> first
            | exact G.elim
            | skip
          rename_i k
          refine hg S2 H2 x y d1 d2 _ _ E.sub (R1.vw E e1) (R2.vw E e2) e3 fun v hv => ?_
          cases hv
          refine ⟨k, rfl, ?_⟩
          cases k with
          | false => exact iteF (G S2 H2 _ F E (.bl false))
          | true =>
            refine iteT (tW_mono (pc.run W tk S2 H2 σ Γ2 _ E (OG.bind (OG.shift F (fun _ _ _ _ _ _ z => z) G))) fun z H4 ⟨S4, r3, Γ4, e4, F4, E4, R4, _⟩ => ?_)
            have G : EG (kx X) X.mg W S H σ Γ Q ((h Γ2).bind fun r3 Γ4 => op2 o' r2 r3 Γ4) := G
            rw [e4] at G
            exact op2_ok hg' E4 (F.trans F4) (R2.on F4) (R4.back F) G

/-! ### lists of arguments -/
def argN : Ge → Out (List R) := fun Γ => .ok [] Γ
def argC (f : EF) (t : Ge → Out (List R)) : Ge → Out (List R) := fun Γ => (f Γ).bind fun r Γ1 => (t Γ1).bind fun rs Γ2 => .ok (r :: rs) Γ2
variable {es : List Expr} {t : Ge → Out (List R)}
theorem pax_nil : PAx X [] argN := ⟨fun W tk S H σ Γ Q E G => tWA_of pa_nil (G S H [] .refl E trivial)⟩
theorem pax_cons (pa : PX X e f) (pt : PAx X es t) (hs : starEach (e :: es) X.env = (false, eval e X.env) :: starEach es X.env := by rfl) : PAx X (e :: es) (argC f t) := by
  refine ⟨fun W tk S H σ Γ Q E G => tWA_of (pa_cons pe_w pa_w hs) ?_⟩
  refine tW_mono (pa.run W tk S H σ Γ _ E (OG.bind G)) fun x H1 ⟨S1, r1, Γ1, e1, F1, E1, R1, G1⟩ => ?_
  refine tWA_mono (pt.run W tk S1 H1 σ Γ1 _ E1 (OG.bind (OG.shift F1 (fun _ _ _ _ _ _ z => z) G1))) fun y H2 ⟨S2, r2, Γ2, e2, F2, E2, R2, _⟩ => ?_
  rw [e2] at G1
  exact G1 S2 H2 (x :: y) (F1.trans F2) E2 ⟨R1.on F2, R2.back F1⟩
theorem seqA {W : WX} (tk : Takes X W) (pa : PAx X es t) {S : Sx} {H : Hp} {σ : L2.St} {Γ : Ge} {γ δ : Type} {rel : Sx → Hp → Ge → δ → γ → Prop} {Q : δ → Hp → Prop} {k : List R → Ge → Out γ} {R1' : List V → Hp → Prop}
    (E : EnvOk (kx X) S H σ Γ) (G : OG (kx X) X.mg W S H σ Γ rel Q ((t Γ).bind fun r1 Γ1 => k r1 Γ1))
    (q : ∀ S2 H2 Γ2 xs rs, Frm S H σ Γ S2 H2 σ Γ2 → EnvOk (kx X) S2 H2 σ Γ2 → ROkAll (kx X) σ S H S2 H2 xs rs → OG (kx X) X.mg W S H σ Γ rel Q (k rs Γ2) → R1' xs H2) :
    tWA X es σ H fun x H1 => R1' x H1 :=
  tWA_mono (pa.run W tk S H σ Γ _ E (OG.bind G)) fun x H1 ⟨S1, r1, Γ1, _, F1, E1, R1, G1⟩ => q S1 H1 Γ1 x r1 F1 E1 R1 G1
def callN (o : List D → Option O) (t : Ge → Out (List R)) : EF := fun Γ => (t Γ).bind fun rs Γ1 => opN o rs Γ1
/-- a built-in called -/
theorem px_cb {id : String} {x : Str} {p : Pos} {rr : List V → Hp → VK → Prop} {o : List D → Option O} (hc : CallR X (.builtin id) rr) (hd : ClD (kx X) rr o) (hg : Gl X x) (hm : X.mg x = none) (hv : bootBuiltins x = some (.builtin id)) (pa : PAx X (e :: es) t)
    (hn : x ≠ "__name__" := by decide) (hdb : (x == ("__debug__" : Str)) = false := by decide) (he : starEach (e :: es) X.env = (false, eval e X.env) :: starEach es X.env := by rfl) (hpl : (backTo pos (starEach es X.env)).any (·.1) = false := by rfl) :
    PX X (.Call (.Name x p) (e :: es) [] pos) (callN o t) :=
  ⟨fun W tk S H σ Γ Q E G => tW_of (pe_callB hc hg hm hv pa_w hn hdb he hpl) (seqA tk pa E G fun S2 H2 Γ2 xs rs F E R G => opN_ok hd E F R G)⟩
end
end Ly
set_option maxRecDepth 100000
namespace Ly
open PySem L2
section
variable {X : Cx} {a b c e : Expr} {f g h : EF} {pos : Pos} {es : List Expr} {t : Ge → Out (List R)}
/-- a built-in type called -/
theorem px_cty {T : String} {x : Str} {p : Pos} {rr : List V → Hp → VK → Prop} {o : List D → Option O} (hc : CallR X (.type T) rr) (hd : ClD (kx X) rr o) (hg : Gl X x) (hm : X.mg x = none) (hv : bootBuiltins x = some (.type T)) (pa : PAx X (e :: es) t)
    (hn : x ≠ "__name__" := by decide) (hdb : (x == ("__debug__" : Str)) = false := by decide) (he : starEach (e :: es) X.env = (false, eval e X.env) :: starEach es X.env := by rfl) (hpl : (backTo pos (starEach es X.env)).any (·.1) = false := by rfl) :
    PX X (.Call (.Name x p) (e :: es) [] pos) (callN o t) :=
  ⟨fun W tk S H σ Γ Q E G => tW_of (pe_callTy hc hg hm hv pa_w hn hdb he hpl) (seqA tk pa E G fun S2 H2 Γ2 xs rs F E R G => opN_ok hd E F R G)⟩

/-! ### given away -/
section
variable {K : Kx} {S0 : Sx} {H0 H : Hp} {σ0 σ : L2.St} {Γ0 Γ : Ge}
/-- from S1 on the objects G may become data -/
structure FzIn (K : Kx) (S0 : Sx) (H0 H : Hp) (σ0 σ : L2.St) (Γ0 Γ : Ge) (S : Hp) (G : List Addr) (S1 : Sx) : Prop where
  e : Same S S1.hp
  n : ∀ a ∈ G, S1.hp a = none
  nd : G.Nodup
  ow : ∀ a ∈ G, ¬ Own S1 a ∧ (H0 a = none ∨ Own S0 a)
  E : EnvOk K S1 H σ Γ
  F : Frm S0 H0 σ0 Γ0 S1 H σ Γ
structure FzOut (K : Kx) (S0 : Sx) (H0 H : Hp) (σ0 σ : L2.St) (Γ0 Γ : Ge) (G : List Addr) (S1 S' : Sx) : Prop where
  f : S'.fp = S1.fp
  e : Same S1.hp S'.hp
  n : ∀ a, a ∉ G → S1.hp a = none → S'.hp a = none
  E : EnvOk K S' H σ Γ
  F : Frm S0 H0 σ0 Γ0 S' H σ Γ
theorem own_fp {S S' : Sx} (h : S'.fp = S.fp) {a : Addr} : Own S' a ↔ Own S a := by
  unfold Own
  rw [h]
theorem FzOut.refl {S : Hp} {G : List Addr} {S1 : Sx} (i : FzIn K S0 H0 H σ0 σ Γ0 Γ S G S1) : FzOut K S0 H0 H σ0 σ Γ0 Γ G S1 S1 := ⟨rfl, Same.refl _, fun _ _ h => h, i.E, i.F⟩
theorem FzIn.left {S : Hp} {F G : List Addr} {S1 : Sx} (i : FzIn K S0 H0 H σ0 σ Γ0 Γ S (F ++ G) S1) : FzIn K S0 H0 H σ0 σ Γ0 Γ S F S1 :=
  ⟨i.e, fun a h => i.n a (by simp [h]), (List.nodup_append.mp i.nd).1, fun a h => i.ow a (by simp [h]), i.E, i.F⟩
theorem FzIn.right {S : Hp} {F G : List Addr} {S1 S2 : Sx} (i : FzIn K S0 H0 H σ0 σ Γ0 Γ S (F ++ G) S1) (o : FzOut K S0 H0 H σ0 σ Γ0 Γ F S1 S2) : FzIn K S0 H0 H σ0 σ Γ0 Γ S G S2 :=
  ⟨i.e.trans o.e, fun a h => o.n a (fun q => (List.nodup_append.mp i.nd).2.2 a q a h rfl) (i.n a (by simp [h])), (List.nodup_append.mp i.nd).2.1, fun a h => ⟨fun q => (i.ow a (by simp [h])).1 ((own_fp o.f).mp q), (i.ow a (by simp [h])).2⟩, o.E, o.F⟩
theorem FzOut.both {F G : List Addr} {S1 S2 S3 : Sx} (o : FzOut K S0 H0 H σ0 σ Γ0 Γ F S1 S2) (p : FzOut K S0 H0 H σ0 σ Γ0 Γ G S2 S3) : FzOut K S0 H0 H σ0 σ Γ0 Γ (F ++ G) S1 S3 :=
  ⟨p.f.trans o.f, o.e.trans p.e, fun a h q => p.n a (fun z => h (by simp [z])) (o.n a (fun z => h (by simp [z])) q), p.E, p.F⟩
theorem FzIn.tail {S : Hp} {a : Addr} {G : List Addr} {S1 : Sx} (i : FzIn K S0 H0 H σ0 σ Γ0 Γ S (a :: G) S1) : FzIn K S0 H0 H σ0 σ Γ0 Γ S G S1 :=
  ⟨i.e, fun b h => i.n b (by simp [h]), (List.nodup_cons.mp i.nd).2, fun b h => i.ow b (by simp [h]), i.E, i.F⟩
/-- the node itself, behind its parts -/
theorem FzIn.node {S : Hp} {a : Addr} {G : List Addr} {S1 S2 : Sx} {o : HO} (i : FzIn K S0 H0 H σ0 σ Γ0 Γ S (a :: G) S1) (q : FzOut K S0 H0 H σ0 σ Γ0 Γ G S1 S2) (ha : H a = some o) :
    FzOut K S0 H0 H σ0 σ Γ0 Γ (a :: G) S1 (S2.up a o) ∧ S2.hp a = none := by
  have n2 : S2.hp a = none := q.n a (List.nodup_cons.mp i.nd).1 (i.n a (by simp))
  have ow := i.ow a (by simp)
  refine ⟨⟨q.f, q.e.trans (Same.upd n2), fun b h z => ?_, q.E.freeze n2 ha fun w => ow.1 ((own_fp q.f).mp w), q.F.freeze n2 ow.2⟩, n2⟩
  rw [Sx.up_hp, upd_ne (fun e : b = a => h (by simp [e]))]
  exact q.n b (fun w => h (by simp [w])) z
theorem dats_cons {c : D} {t : T} {r : List (D × T)} {ds : List (D × D)} (h : datsT ((c, t) :: r) = some ds) : ∃ y z, ds = (c, y) :: z ∧ datT t = some y ∧ datsT r = some z := by
  unfold datsT at h
  cases e1 : datT t with
  | none => rw [e1] at h; cases h
  | some y =>
    cases e2 : datsT r with
    | none => rw [e1, e2] at h; cases h
    | some z =>
      rw [e1, e2] at h
      cases h
      exact ⟨y, z, rfl, rfl, rfl⟩
theorem datl_cons {t : T} {r : List T} {ds : List D} (h : datlT (t :: r) = some ds) : ∃ y z, ds = y :: z ∧ datT t = some y ∧ datlT r = some z := by
  unfold datlT at h
  cases e1 : datT t with
  | none => rw [e1] at h; cases h
  | some y =>
    cases e2 : datlT r with
    | none => rw [e1, e2] at h; cases h
    | some z =>
      rw [e1, e2] at h
      cases h
      exact ⟨y, z, rfl, rfl, rfl⟩
theorem TOk.frz {S : Hp} {t : T} {v : V} {G : List Addr} (h : TOk K S H t v G) : ∀ (d : D) (S1 : Sx), FzIn K S0 H0 H σ0 σ Γ0 Γ S G S1 → datT t = some d → ∃ S', FzOut K S0 H0 H σ0 σ Γ0 Γ G S1 S' ∧ Dq K S'.hp v d := by
  refine TOk.rec (motive_1 := fun t v G _ => ∀ (d : D) (S1 : Sx), FzIn K S0 H0 H σ0 σ Γ0 Γ S G S1 → datT t = some d → ∃ S', FzOut K S0 H0 H σ0 σ Γ0 Γ G S1 S' ∧ Dq K S'.hp v d)
    (motive_2 := fun vs ts G _ => ∀ (ds : List D) (S1 : Sx), FzIn K S0 H0 H σ0 σ Γ0 Γ S G S1 → datlT ts = some ds → ∃ S', FzOut K S0 H0 H σ0 σ Γ0 Γ G S1 S' ∧ DqAll K S'.hp vs ds)
    (motive_3 := fun vs ts G _ => ∀ (ds : List (D × D)) (S1 : Sx), FzIn K S0 H0 H σ0 σ Γ0 Γ S G S1 → datsT ts = some ds → ∃ S', FzOut K S0 H0 H σ0 σ Γ0 Γ G S1 S' ∧ DqKv K S'.hp vs ds)
    (motive_4 := fun vs ts G _ => ∀ (ds : List (D × D)) (S1 : Sx), FzIn K S0 H0 H σ0 σ Γ0 Γ S G S1 → datsT ts = some ds → ∃ S', FzOut K S0 H0 H σ0 σ Γ0 Γ G S1 S' ∧ DqKx K S'.hp vs ds)
    (motive_5 := fun vs ts G _ => True) ?_ ?_ ?_ ?_ ?_ ?_ ?_ ?_ ?_ ?_ ?_ ?_ ?_ ?_ h
  · intro x v hx d S1 i e
    cases e
    exact ⟨S1, .refl i, Same.dp i.e hx⟩
  · intro xs a vs h1 h2 h3 d S1 i e
    cases e
    obtain ⟨q, n⟩ := i.node (.refl i.tail) h2
    exact ⟨_, q, dp_lst upd_same (Same.dpAll (i.e.trans (Same.upd n)) h3)⟩
  · intro kvs a ks F h1 h2 h3 ih d S1 i e
    have e : (datsT kvs).map PyData.dict = some d := e
    obtain ⟨ds, e1, rfl⟩ := Option.map_eq_some_iff.mp e
    obtain ⟨S2, o, hd⟩ := ih ds S1 i.tail e1
    obtain ⟨q, n⟩ := i.node o h2
    exact ⟨_, q, .dic (.inl upd_same) (Same.dpKv (Same.upd n) hd)⟩
  · intro kvs a xs F hn h1 h2 h3 ih d S1 i e
    have e : (datsT kvs).map PyData.dict = some d := e
    obtain ⟨ds, e1, rfl⟩ := Option.map_eq_some_iff.mp e
    obtain ⟨S2, o, hd⟩ := ih ds S1 i.tail e1
    obtain ⟨q, n⟩ := i.node o h2
    exact ⟨_, q, .dix upd_same (Same.dpKx (Same.upd n) hd)⟩
  · intro C fs a c dx vs F _ _ _ _ _ _ _ d S1 _ e
    cases e
  · intro ts a vs F h1 h2 h3 ih d S1 i e
    have e : (datlT ts).map PyData.tuple = some d := e
    obtain ⟨ds, e1, rfl⟩ := Option.map_eq_some_iff.mp e
    obtain ⟨S2, o, hd⟩ := ih ds S1 i.tail e1
    obtain ⟨q, n⟩ := i.node o h2
    exact ⟨_, q, dp_tup upd_same (Same.dpAll (Same.upd n) hd)⟩
  · intro ds S1 i e
    cases e
    exact ⟨S1, .refl i, .nil⟩
  · intro v vs t ts F G h1 h2 i1 i2 ds S1 i e
    obtain ⟨y, z, rfl, e1, e2⟩ := datl_cons e
    obtain ⟨S2, o1, d1⟩ := i1 y S1 i.left e1
    obtain ⟨S3, o2, d2⟩ := i2 z S2 (i.right o1) e2
    exact ⟨S3, o1.both o2, .cons (Same.dp o2.e d1) d2⟩
  · intro ds S1 i e
    cases e
    exact ⟨S1, .refl i, .nil⟩
  · intro k v vs t ts F G h1 h2 i1 i2 ds S1 i e
    obtain ⟨y, z, rfl, e1, e2⟩ := dats_cons e
    obtain ⟨S2, o1, d1⟩ := i1 y S1 i.left e1
    obtain ⟨S3, o2, d2⟩ := i2 z S2 (i.right o1) e2
    exact ⟨S3, o1.both o2, .cons (Same.dp o2.e d1) d2⟩
  · intro ds S1 i e
    cases e
    exact ⟨S1, .refl i, .nil⟩
  · intro k b v vs c t ts F G q0 q1 q2 h1 h2 i1 i2 ds S1 i e
    obtain ⟨y, z, rfl, e1, e2⟩ := dats_cons e
    obtain ⟨S2, o1, d1⟩ := i1 y S1 i.left e1
    obtain ⟨S3, o2, d2⟩ := i2 z S2 (i.right o1) e2
    exact ⟨S3, o1.both o2, .cons (Same.dp ((i.e.trans o1.e).trans o2.e) q0) q1 q2 (Same.dp o2.e d1) d2⟩
  · trivial
  · intros
    trivial
end
def frz (r : R) (Γ : Ge) : Out R := match r with
  | .d x => .ok (.d x) Γ
  | .l xs => .ok (.d (.list xs)) Γ
  | .s _ => .no
  | .o t => match datT t with
    | some d => .ok (.d d) Γ
    | none => .no
def frzF (f : EF) : EF := fun Γ => (f Γ).bind frz
theorem frz_ok {K : Kx} {mg : Str → Option Value} {W : WX} {S0 S : Sx} {H0 H : Hp} {σ : L2.St} {Γ0 Γ : Ge} {Q : VK} {r : R} {v : V} (E : EnvOk K S H σ Γ) (F : Frm S0 H0 σ Γ0 S H σ Γ) (h : ROk K S0 H0 S H σ v r) (G : EG K mg W S0 H0 σ Γ0 Q (frz r Γ)) : Q v H := by
  cases r with
  | d x => exact G S H v F E h
  | l xs =>
    obtain ⟨a, vs, rfl, h1, h2, h3, h4, h5⟩ := h
    exact G _ H _ (F.freeze (o := .lst vs) h1 h5) (E.freeze h1 h2 h4) (dp_lst upd_same (Same.dpAll (Same.upd h1) h3))
  | s i => exact G.elim
  | o t =>
    obtain ⟨Fp, h1, h2, h3⟩ := h
    have G : EG K mg W S0 H0 σ Γ0 Q (match datT t with | some d => Out.ok (R.d d) Γ | none => Out.no) := G
    cases e : datT t with
    | none => rw [e] at G; exact G.elim
    | some d =>
      rw [e] at G
      obtain ⟨S', q, hd⟩ := h1.frz d S ⟨Same.refl _, fun a ha => (h1.there a ha).1, h2, h3, E, F⟩ e
      exact G S' H _ q.F q.E hd
theorem px_frz (pa : PX X a f) : PX X a (frzF f) :=
  ⟨fun W tk S H σ Γ Q E G => seq1 tk pa E G fun S2 H2 Γ2 x r1 F E R G => frz_ok E F R G⟩
def allD : List R → Option (List D)
  | [] => some []
  | .d x :: rs => (allD rs).map (x :: ·)
  | _ :: _ => none
theorem allD_ok {K : Kx} {S : Sx} {H0 H : Hp} {σ : L2.St}  : ∀ {vs : List V} {rs : List R} {ds : List D}, ROkAll K σ S0 H0 S H vs rs → allD rs = some ds → DqAll K S vs ds
  | [], [], _, _, e => by cases e; exact .nil
  | v :: vs, r :: rs, ds, h, e => by
    cases r with
    | d x =>
      unfold allD at e
      cases q : allD rs with
      | none => rw [q] at e; cases e
      | some es =>
        rw [q] at e
        cases e
        exact .cons h.1 (allD_ok h.2 q)
    | l _ => cases e
    | s _ => cases e
    | o _ => cases e
  | [], _ :: _, _, h, _ => h.elim
  | _ :: _, [], _, h, _ => h.elim
/-- a tuple, a list of written items -/
def mkF (o : List D → O) (t : Ge → Out (List R)) : EF := fun Γ => (t Γ).bind fun rs Γ1 => match allD rs with
  | some ds => if ds.length ≤ 1000 then outO Γ1 (some (o ds)) else .no
  | none => .no
theorem mk_len {n : Nat} (h : n ≤ 1000) : n ≤ sizeLine := Nat.le_of_lt (small1000 h)
theorem px_tup {x1} (pa : PAx X es t) : PX X (.Tuple es x1 pos) (mkF .t t) := by
  refine ⟨fun W tk S H σ Γ Q E G => tW_of (pe_tup pa_w) (seqA tk pa E G fun S2 H2 Γ2 xs rs F E R G => ?_)⟩
  cases e1 : allD rs with
  | none => rw [e1] at G; exact G.elim
  | some ds =>
    rw [e1] at G
    dsimp only at G
    by_cases hl : ds.length ≤ 1000
    · rw [if_pos hl] at G
      have q := allD_ok R e1
      exact ⟨by rw [DqAll.length q]; exact mk_len hl, fun p hp => fin_of E (EG.shift F G) p xs hp q⟩
    · rw [if_neg hl] at G
      exact G.elim
theorem px_lst (pa : PAx X es t) : PX X (.List es pos) (mkF .l t) := by
  refine ⟨fun W tk S H σ Γ Q E G => tW_of (pe_lst pa_w) (seqA tk pa E G fun S2 H2 Γ2 xs rs F E R G => ?_)⟩
  cases e1 : allD rs with
  | none => rw [e1] at G; exact G.elim
  | some ds =>
    rw [e1] at G
    dsimp only at G
    by_cases hl : ds.length ≤ 1000
    · rw [if_pos hl] at G
      have q := allD_ok R e1
      exact ⟨by rw [DqAll.length q]; exact mk_len hl, fun p hp => fin_of E (EG.shift F G) p xs hp q⟩
    · rw [if_neg hl] at G
      exact G.elim

/-! ### slices -/
abbrev IF := Ge → Out (Option Int)
def tWO (X : Cx) (e : Option Expr) : TO := fun σ H Q => ∀ pins s, Inv X pins σ H s → wpAny (model X.prog X.w) X.A (evalPart e X.env) (fun u s' => ∃ o H', Inv X pins σ H' s' ∧ IsPart u o ∧ Q o H') X.xe s
theorem po_w {e : Option Expr} : PO X e (tWO X e) := ⟨fun pins s _ _ _ I h => h pins s I⟩
theorem tWO_of {e : Option Expr} {t : TO} (h : PO X e t) {σ : L2.St} {H : Hp} {Q : Option Int → Hp → Prop} (q : t σ H Q) : tWO X e σ H Q := fun pins s I => h.run pins s σ H Q I q
theorem tWO_mono {e : Option Expr} {σ : L2.St} {H : Hp} {Q Q' : Option Int → Hp → Prop} (h : tWO X e σ H Q) (m : ∀ v H', Q v H' → Q' v H') : tWO X e σ H Q' := fun pins s I =>
  thn (h pins s I) fun _ _ ⟨v, H', I', r, q⟩ => ⟨v, H', I', r, m v H' q⟩
structure POx (X : Cx) (e : Option Expr) (f : IF) : Prop where
  run : ∀ (W : WX), Takes X W → ∀ (S : Sx) (H : Hp) (σ : L2.St) (Γ : Ge) (Q : Option Int → Hp → Prop), EnvOk (kx X) S H σ Γ → OG (kx X) X.mg W S H σ Γ (fun _ _ _ b c => b = c) Q (f Γ) → tWO X e σ H Q
def partN : IF := fun Γ => .ok none Γ
def partF (f : EF) : IF := fun Γ => (f Γ).bind fun r Γ1 => match view Γ1 r with
  | some (.int i) => .ok (some i) Γ1
  | _ => .no
theorem pox_none : POx X none partN := ⟨fun W tk S H σ Γ Q E G => tWO_of po_none (G S H none .refl E rfl)⟩
theorem pox_some (pa : PX X a f) : POx X (some a) (partF f) := by
  refine ⟨fun W tk S H σ Γ Q E G => tWO_of (po_some pe_w) (seq1 tk pa E G fun S2 H2 Γ2 x r1 F E R G => ?_)⟩
  cases e1 : view Γ2 r1 with
  | none => rw [e1] at G; exact G.elim
  | some d =>
    rw [e1] at G
    cases d <;> first
      | exact G.elim
      | skip
    rename_i i
    exact ⟨i, (R.vw E e1).int, G S2 H2 _ F E rfl⟩
def SlD (K : Kx) (rr : V → Option Int → Option Int → Hp → VK → Prop) (o : D → Option Int → Option Int → Option O) : Prop :=
  ∀ (S H : Hp) (x : V) (d : D) (lo hi : Option Int) (w : O) (Q : VK), Same S H → Vw K S H x d → o d lo hi = some w → FinO K S H Q w → rr x lo hi H Q
def slF (o : D → Option Int → Option Int → Option O) (f : EF) (lo hi : IF) : EF := fun Γ => (f Γ).bind fun r Γ1 => (lo Γ1).bind fun i Γ2 => (hi Γ2).bind fun j Γ3 => match view Γ3 r with
  | some d => outO Γ3 (o d i j)
  | none => .no
theorem px_sl {rr : V → Option Int → Option Int → Hp → VK → Prop} {o : D → Option Int → Option Int → Option O} {lo hi : Option Expr} {fl fh : IF} {p2 : Pos} (hr : SlR X rr) (hd : SlD (kx X) rr o) (pa : PX X a f) (pl : POx X lo fl) (ph : POx X hi fh) :
    PX X (.Subscript a (.Slice lo hi none p2) pos) (slF o f fl fh) := by
  refine ⟨fun W tk S H σ Γ Q E G => tW_of (pe_slice hr pe_w po_w po_w) ?_⟩
  refine tW_mono (pa.run W tk S H σ Γ _ E (OG.bind G)) fun x H1 ⟨S1, r1, Γ1, e1, F1, E1, R1, G1⟩ => ?_
  refine tWO_mono (pl.run W tk S1 H1 σ Γ1 _ E1 (OG.bind (OG.shift F1 (fun _ _ _ _ _ _ z => z) G1))) fun i H2 ⟨S2, i', Γ2, e2, F2, E2, q2, _⟩ => ?_
  subst q2
  have F2' := F1.trans F2
  rw [e2] at G1
  have G2 : EG (kx X) X.mg W S H σ Γ Q ((fh Γ2).bind fun j Γ3 => match view Γ3 r1 with | some d => outO Γ3 (o d i j) | none => .no) := G1
  refine tWO_mono (ph.run W tk S2 H2 σ Γ2 _ E2 (OG.bind (OG.shift F2' (fun _ _ _ _ _ _ z => z) G2))) fun j H3 ⟨S3, j', Γ3, e3, F3, E3, q3, _⟩ => ?_
  subst q3
  rw [e3] at G2
  have G3 : EG (kx X) X.mg W S H σ Γ Q (match view Γ3 r1 with | some d => outO Γ3 (o d i j) | none => .no) := G2
  have R3 := (R1.on F2).on F3
  cases e4 : view Γ3 r1 with
  | none => rw [e4] at G3; exact G3.elim
  | some d =>
    rw [e4] at G3
    dsimp only at G3
    cases e5 : o d i j with
    | none => rw [e5] at G3; exact G3.elim
    | some w =>
      rw [e5] at G3
      exact hd S3 H3 x d i j w Q E3.sub (R3.vw E3 e4) e5 (fin_of E3 (EG.shift (F2'.trans F3) G3))

/-! ### tests -/
abbrev BF := Ge → Out Bool
def asB (r : R) (Γ : Ge) : Out Bool := match r with
  | .d (.bool b) => .ok b Γ
  | _ => .no
theorem asB_of {K : Kx} {mg : Str → Option Value} {W : WX} {S : Sx} {H : Hp} {σ : L2.St} {Γ : Ge} {Q : Bool → Hp → Prop} {o : Out R} (h : TG' K mg W S H σ Γ Q (o.bind asB)) : EG K mg W S H σ Γ (fun x H' => ∃ k, x = .bl k ∧ Q k H') o := by
  cases o with
  | no => exact h
  | ex x Γ' => exact h
  | ok r Γ' =>
    cases r with
    | l _ => exact h.elim
    | s _ => exact h.elim
    | o _ => exact h.elim
    | d z =>
      cases z <;> first
        | exact h.elim
        | skip
      rename_i k
      intro S' H' v F E q
      cases q
      exact ⟨k, rfl, h S' H' k F E rfl⟩
def tstB (f : EF) : BF := fun Γ => (f Γ).bind asB
theorem out_assoc {α β γ : Type} (o : Out α) (k : α → Ge → Out β) (l : β → Ge → Out γ) : (o.bind k).bind l = o.bind fun a Γ => (k a Γ).bind l := by cases o <;> rfl
theorem ptx_cmp {op : CmpOp} {rr : R2} {o : D → D → Option O} (ho : OpR X (compareOp op) rr) (hg : OpD (kx X) rr o) (pa : PX X a f) (pb : PX X b g) (hm : behindInMarks op b = false) : PTx X (.Compare a [op] [b] pos) (tstB (binF o f g)) :=
  ⟨fun W tk S H σ Γ Q E G => tWT_of (pt_cmpR ho pe_w pe_w hm) (by
    have G := asB_of G
    exact seq2 tk pa pb E G fun S2 H2 Γ2 x y r1 r2 F E R1 R2 G => op2_ok hg E F R1 R2 G)⟩
/-- any bool-valued expression whose test is its value's truth -/
def truD : D → Option Bool
  | .none => some false
  | .bool b => some b
  | .int i => some (i != 0)
  | .str x => if x.length ≤ sizeLine then some ((x.length : Int) != 0) else none
  | .list xs => some (!xs.isEmpty)
  | .tuple xs => some (!xs.isEmpty)
  | _ => none
def tstF (f : EF) : BF := fun Γ => (f Γ).bind fun r Γ1 => match view Γ1 r with
  | some d => match truD d with
    | some b => .ok b Γ1
    | none => .no
  | none => .no
theorem isEmpty_dp {K : Kx} {S : Hp} {vs : List V} {ds : List D} (h : DqAll K S vs ds) : (!ds.isEmpty) = !vs.isEmpty := by
  cases h <;> rfl
theorem tru_of {K : Kx} {S H : Hp} {v : V} {d : D} {k : Bool} (e : Same S H) (h : Vw K S H v d) (q : truD d = some k) : TruV K v H k := by
  cases d with
  | none => rw [h.none]; cases q; rfl
  | bool b => rw [h.bool]; cases q; rfl
  | int i => rw [h.int]; cases q; rfl
  | str x =>
    rw [h.str]
    simp only [truD] at q
    by_cases hl : x.length ≤ sizeLine
    · rw [if_pos hl] at q
      cases q
      exact ⟨hl, rfl⟩
    · rw [if_neg hl] at q
      cases q
  | list xs =>
    obtain ⟨a, vs, rfl, h1, h2⟩ := h.list e
    cases q
    exact .inl ⟨vs, h1.seq, isEmpty_dp h2⟩
  | tuple xs =>
    obtain ⟨a, vs, rfl, h1, h2⟩ := h.tup e
    cases q
    exact .inr (.inl ⟨vs, h1, isEmpty_dp h2⟩)
  | dict _ => cases q
theorem ptx_truth (pa : PX X a f) (he : ∀ whole, isTrue a X.env whole = (do let v ← whole; standAt a.pos; holding [v] (truthy v)) := by intro _; rfl) : PTx X a (tstF f) := by
  refine ⟨fun W tk S H σ Γ Q E G => tWT_of (pt_truth pe_w he) (seq1 tk pa E G fun S2 H2 Γ2 x r1 F E R G => ?_)⟩
  cases e1 : view Γ2 r1 with
  | none => rw [e1] at G; exact G.elim
  | some d =>
    rw [e1] at G
    dsimp only at G
    cases e2 : truD d with
    | none => rw [e2] at G; exact G.elim
    | some k =>
      rw [e2] at G
      exact ⟨k, tru_of E.sub (R.vw E e1) e2, G S2 H2 k F E rfl⟩
/-- a op b op' c as a test -/
theorem ptx_chain {op op' : CmpOp} {rr rr' : R2} {o o' : D → D → Option O} (ho : OpR X (compareOp op) rr) (ho' : OpR X (compareOp op') rr') (hg : OpD (kx X) rr o) (hg' : OpD (kx X) rr' o') (pa : PX X a f) (pb : PX X b g) (pc : PX X c h)
    (hm : lastMarks [op, op'] [b, c] = false := by with_unfolding_all rfl) : PTx X (.Compare a [op, op'] [b, c] pos) (tstB (chainF o o' f g h)) := by
  refine ⟨fun W tk S H σ Γ Q E G => tWT_of (pt_chain ho ho' pe_w pe_w pe_w hm) (seq2 tk pa pb E (asB_of G) fun S2 H2 Γ2 x y r1 r2 F E R1 R2 G => ?_)⟩
  cases e1 : view Γ2 r1 with
  | none => rw [show op2 o r1 r2 Γ2 = .no by unfold op2; rw [e1]] at G; exact G.elim
  | some d1 =>
    cases e2 : view Γ2 r2 with
    | none => rw [show op2 o r1 r2 Γ2 = .no by unfold op2; rw [e1, e2]] at G; exact G.elim
    | some d2 =>
      rw [show op2 o r1 r2 Γ2 = outO Γ2 (o d1 d2) by unfold op2; rw [e1, e2]] at G
      cases e3 : o d1 d2 with
      | none => rw [e3] at G; exact G.elim
      | some w =>
        rw [e3] at G
        cases w with
        | l _ => exact G.elim
        | t _ => exact G.elim
        | d z =>
          cases z <;> first
            | exact G.elim
            | skip
          rename_i k
          refine hg S2 H2 x y d1 d2 _ _ E.sub (R1.vw E e1) (R2.vw E e2) e3 fun v hv => ?_
          cases hv
          refine ⟨k, rfl, ?_⟩
          cases k with
          | false => exact iteF (G S2 H2 _ F E (.bl false))
          | true =>
            refine iteT (tW_mono (pc.run W tk S2 H2 σ Γ2 _ E (OG.bind (OG.shift F (fun _ _ _ _ _ _ z => z) G))) fun z H4 ⟨S4, r3, Γ4, e4, F4, E4, R4, _⟩ => ?_)
            have G : EG (kx X) X.mg W S H σ Γ _ ((h Γ2).bind fun r3 Γ4 => op2 o' r2 r3 Γ4) := G
            rw [e4] at G
            exact op2_ok hg' E4 (F.trans F4) (R2.on F4) (R4.back F) G
/-! ### and, or, not: as tests -/
variable {u v : BF} {rest : List Expr}
def andB (u v : BF) : BF := fun Γ => (u Γ).bind fun b Γ1 => if b = true then v Γ1 else .ok false Γ1
def orB (u v : BF) : BF := fun Γ => (u Γ).bind fun b Γ1 => if b = true then .ok true Γ1 else v Γ1
def notB (u : BF) : BF := fun Γ => (u Γ).bind fun b Γ1 => .ok (!b) Γ1
theorem seqT {W : WX} (tk : Takes X W) (pa : PTx X a u) {S : Sx} {H : Hp} {σ : L2.St} {Γ : Ge} {γ δ : Type} {rel : Sx → Hp → Ge → δ → γ → Prop} {Q : δ → Hp → Prop} {k : Bool → Ge → Out γ} {R1' : Bool → Hp → Prop}
    (E : EnvOk (kx X) S H σ Γ) (G : OG (kx X) X.mg W S H σ Γ rel Q ((u Γ).bind fun r1 Γ1 => k r1 Γ1))
    (q : ∀ S2 H2 Γ2 b, Frm S H σ Γ S2 H2 σ Γ2 → EnvOk (kx X) S2 H2 σ Γ2 → OG (kx X) X.mg W S H σ Γ rel Q (k b Γ2) → R1' b H2) :
    tWT X a σ H R1' :=
  tWT_mono (pa.run W tk S H σ Γ _ E (OG.bind G)) fun x H1 ⟨S1, r1, Γ1, _, F1, E1, e, G1⟩ => by
    subst e
    exact q S1 H1 Γ1 x F1 E1 G1
theorem pwx_pt (h : PWx X a u) : PTx X a u := ⟨fun W tk S H σ Γ Q E G pins s I => h.run W tk S H σ Γ Q E G _ pins s I⟩
theorem pwx_and1 (pa : PTx X a u) : PWx X (.BoolOp .And [a] pos) u := ⟨fun W tk S H σ Γ Q E G => tWW_of (pw_and1 pt_w) (pa.run W tk S H σ Γ Q E G)⟩
theorem pwx_or1 (pa : PTx X a u) : PWx X (.BoolOp .Or [a] pos) u := ⟨fun W tk S H σ Γ Q E G => tWW_of (pw_or1 pt_w) (pa.run W tk S H σ Γ Q E G)⟩
theorem pwx_and (pa : PTx X a u) (pb : PWx X (.BoolOp .And (b :: rest) pos) v) : PWx X (.BoolOp .And (a :: b :: rest) pos) (andB u v) := by
  refine ⟨fun W tk S H σ Γ Q E G => tWW_of (pw_and pt_w pw_w) (seqT tk pa E G fun S2 H2 Γ2 k F E G => ?_)⟩
  cases k with
  | true => exact iteT (pb.run W tk S2 H2 σ Γ2 Q E (TG'.shift F G))
  | false => exact iteF (G S2 H2 false F E rfl)
theorem pwx_or (pa : PTx X a u) (pb : PWx X (.BoolOp .Or (b :: rest) pos) v) : PWx X (.BoolOp .Or (a :: b :: rest) pos) (orB u v) := by
  refine ⟨fun W tk S H σ Γ Q E G => tWW_of (pw_or pt_w pw_w) (seqT tk pa E G fun S2 H2 Γ2 k F E G => ?_)⟩
  cases k with
  | true => exact iteT (G S2 H2 true F E rfl)
  | false => exact iteF (pb.run W tk S2 H2 σ Γ2 Q E (TG'.shift F G))
theorem ptx_not (pa : PTx X a u) : PTx X (.UnaryOp .Not a pos) (notB u) :=
  ⟨fun W tk S H σ Γ Q E G => tWT_of (pt_not pt_w) (seqT tk pa E G fun S2 H2 Γ2 k F E G => G S2 H2 _ F E rfl)⟩
/-! ### .. as values -/
def andV (f g : EF) : EF := fun Γ => (f Γ).bind fun r Γ1 => match r with
  | .d (.bool true) => g Γ1
  | .d (.bool false) => .ok (.d (.bool false)) Γ1
  | _ => .no
def orV (f g : EF) : EF := fun Γ => (f Γ).bind fun r Γ1 => match r with
  | .d (.bool true) => .ok (.d (.bool true)) Γ1
  | .d (.bool false) => g Γ1
  | _ => .no
def notV (f : EF) : EF := fun Γ => (f Γ).bind fun r Γ1 => match r with
  | .d (.bool b) => .ok (.d (.bool !b)) Γ1
  | _ => .no
theorem px_one {op} (pa : PX X a f) : PX X (.BoolOp op [a] pos) f := ⟨fun W tk S H σ Γ Q E G => tW_of (pe_one pe_w) (pa.run W tk S H σ Γ Q E G)⟩
theorem px_and (pa : PX X a f) (pb : PX X (.BoolOp .And (b :: rest) pos) g) : PX X (.BoolOp .And (a :: b :: rest) pos) (andV f g) := by
  refine ⟨fun W tk S H σ Γ Q E G => tW_of (pe_and pe_w pe_w) (seq1 tk pa E G fun S2 H2 Γ2 x r1 F E R G => ?_)⟩
  cases r1 with
  | l _ => exact G.elim
  | s _ => exact G.elim
  | o _ => exact G.elim
  | d z =>
    cases z <;> first
      | exact G.elim
      | skip
    rename_i k
    cases R
    refine ⟨k, rfl, ?_⟩
    cases k with
    | true => exact iteT (pb.run W tk S2 H2 σ Γ2 Q E (EG.shift F G))
    | false => exact iteF (G S2 H2 _ F E (.bl false))
theorem px_or (pa : PX X a f) (pb : PX X (.BoolOp .Or (b :: rest) pos) g) : PX X (.BoolOp .Or (a :: b :: rest) pos) (orV f g) := by
  refine ⟨fun W tk S H σ Γ Q E G => tW_of (pe_or pe_w pe_w) (seq1 tk pa E G fun S2 H2 Γ2 x r1 F E R G => ?_)⟩
  cases r1 with
  | l _ => exact G.elim
  | s _ => exact G.elim
  | o _ => exact G.elim
  | d z =>
    cases z <;> first
      | exact G.elim
      | skip
    rename_i k
    cases R
    refine ⟨k, rfl, ?_⟩
    cases k with
    | false => exact iteF (pb.run W tk S2 H2 σ Γ2 Q E (EG.shift F G))
    | true => exact iteT (G S2 H2 _ F E (.bl true))
theorem px_not (pa : PX X a f) : PX X (.UnaryOp .Not a pos) (notV f) := by
  refine ⟨fun W tk S H σ Γ Q E G => tW_of (pe_not pe_w) (seq1 tk pa E G fun S2 H2 Γ2 x r1 F E R G => ?_)⟩
  cases r1 with
  | l _ => exact G.elim
  | s _ => exact G.elim
  | o _ => exact G.elim
  | d z =>
    cases z <;> first
      | exact G.elim
      | skip
    rename_i k
    cases R
    exact ⟨k, rfl, G S2 H2 _ F E (.bl _)⟩
def ifE (u : BF) (f g : EF) : EF := fun Γ => (u Γ).bind fun b Γ1 => if b = true then f Γ1 else g Γ1
theorem px_if (pc : PTx X c u) (pa : PX X a f) (pb : PX X b g) : PX X (.IfExp c a b pos) (ifE u f g) := by
  refine ⟨fun W tk S H σ Γ Q E G => tW_of (pe_ifExp pt_w pe_w pe_w) (seqT tk pc E G fun S2 H2 Γ2 k F E G => ?_)⟩
  cases k with
  | true => exact iteT (pa.run W tk S2 H2 σ Γ2 Q E (EG.shift F G))
  | false => exact iteF (pb.run W tk S2 H2 σ Γ2 Q E (EG.shift F G))
end
end Ly
set_option maxRecDepth 100000
namespace Ly
open PySem L2

/-! ### a slot is stored -/
section
variable {K : Kx} {S0 S : Sx} {H0 H : Hp} {σ0 σ : L2.St} {Γ0 Γ : Ge} {i : Nat} {v : V}
theorem EnvOk.setD (E : EnvOk K S H σ Γ) {x : D} (hl : i < Γ.length) (hv : Dq K S.hp v x) : EnvOk K (S.fput i []) H (σ.set i (some v)) (Γ.set i (.d x)) :=
  E.setSl hl ⟨rfl, v, rfl, hv⟩ fun b h => by simp at h
theorem EnvOk.setL (E : EnvOk K S H σ Γ) {xs : List D} {a : Addr} {vs : List V} (hl : i < Γ.length) (h1 : S.hp a = none) (h2 : H a = some (.lst vs)) (h3 : DqAll K S.hp vs xs) (h4 : ¬ Own S a) :
    EnvOk K (S.fput i [a]) H (σ.set i (some (.ref a))) (Γ.set i (.l xs)) :=
  E.setSl hl ⟨a, vs, rfl, rfl, h1, h2, h3⟩ fun b h j _ q => by
    rw [List.mem_singleton.mp h] at q
    exact h4 ⟨j, q⟩
theorem EnvOk.setO (E : EnvOk K S H σ Γ) {t : T} {G : List Addr} (hl : i < Γ.length) (h1 : TOk K S.hp H t v G) (h2 : G.Nodup) (h4 : ∀ a ∈ G, ¬ Own S a) : EnvOk K (S.fput i G) H (σ.set i (some v)) (Γ.set i (.o t)) :=
  E.setSl hl ⟨v, rfl, h1, h2⟩ fun b h j _ q => h4 b h ⟨j, q⟩
/-- a list of one's own is changed -/
def putL (Γ : Ge) (i : Nat) (ys : List D) : Ge := match Γ[i]? with
  | some (.b _) => Γ.set i (.b ys)
  | _ => Γ.set i (.l ys)
theorem putL_own {ys : List D} (h : IsOwn Γ i) : ∃ sl, putL Γ i ys = Γ.set i sl ∧ (sl = .l ys ∨ sl = .b ys) ∧ ((∃ xs, Γ[i]? = some (.b xs)) → sl = .b ys) := by
  obtain ⟨xs, h | h⟩ := h
  · exact ⟨.l ys, by unfold putL; rw [h], .inl rfl, fun ⟨zs, q⟩ => by rw [h] at q; cases q⟩
  · exact ⟨.b ys, by unfold putL; rw [h], .inr rfl, fun _ => rfl⟩
theorem mut_slot (E : EnvOk K S H σ Γ) {ys : List D} {a : Addr} {vs ws : List V} (ho : IsOwn Γ i) (hi : σ[i]? = some (some (.ref a))) (hS : S.hp a = none) (hH : H a = some (.lst vs)) (hw : DqAll K S.hp ws ys) :
    Frm S H σ Γ S (upd H a (.lst ws)) σ (putL Γ i ys) ∧ EnvOk K S (upd H a (.lst ws)) σ (putL Γ i ys) := by
  obtain ⟨sl, e, hsl, hb⟩ := putL_own (ys := ys) ho
  rw [e]
  obtain ⟨xs, hx⟩ := id ho
  obtain ⟨c, _, q1, _, _, _, q2⟩ := E.ownF i xs hx
  rw [hi] at q1
  cases q1
  have hgi : ∃ s0, Γ[i]? = some s0 ∧ kindOf s0 sl := by
    rcases hx with h | h
    · exact ⟨_, h, trivial⟩
    · exact ⟨_, h, ys, hb ⟨xs, h⟩⟩
  obtain ⟨s0, hgi, hk⟩ := hgi
  have key := mut_sl (H' := upd H a (.lst ws)) (sl := sl) (F := [a]) E hgi hi hk (fun b o h n => by rw [upd_ne (fun z => n (by rw [q2, z]; simp))]; exact h)
    (fun b o h => by rw [upd_ne (fun z : b = a => by rw [z, hS] at h; cases h)]; exact E.sub b o h)
    (by rcases hsl with rfl | rfl <;> exact ⟨a, ws, rfl, rfl, hS, upd_same, hw⟩) (fun b h => by rw [q2]; exact .inl h)
  rw [fput_same q2] at key
  exact key
end

/-! ### statements -/
def SG (K : Kx) (mg : Str → Option Value) (W : WX) (S : Sx) (H : Hp) (σ : L2.St) (Γ : Ge) (Z : Ends) : Out Fl → Prop
  | .ok .nx Γ' => ∀ S' H' σ', Frm S H σ Γ S' H' σ' Γ' → EnvOk K S' H' σ' Γ' → Z.nx σ' H'
  | .ok .bk Γ' => ∀ S' H' σ', Frm S H σ Γ S' H' σ' Γ' → EnvOk K S' H' σ' Γ' → Z.bk σ' H'
  | .ok .ct Γ' => ∀ S' H' σ', Frm S H σ Γ S' H' σ' Γ' → EnvOk K S' H' σ' Γ' → Z.ct σ' H'
  | .ok (.rt r) Γ' => ∀ S' H' σ' v, Frm S H σ Γ S' H' σ' Γ' → EnvOk K S' H' σ' Γ' → ROk K S H S' H' σ' v r → Z.rt v H'
  | .ex x Γ' => ∀ S' H' σ' c d, Frm S H σ Γ S' H' σ' Γ' → EnvOk K S' H' σ' Γ' → XOk K mg S' H' x c d → W c d σ' H'
  | .no => False
section
variable {K : Kx} {mg : Str → Option Value} {W : WX} {S S1 S' : Sx} {H H1 H' : Hp} {σ σ1 σ' : L2.St} {Γ Γ1 Γ' : Ge}
theorem back_own' (F : Frm S H σ Γ S1 H1 σ1 Γ1) {a : Addr} (h : H1 a = none ∨ Own S1 a) : H a = none ∨ Own S a := by
  rcases h with h | h
  · cases e : H a with
    | none => exact .inl rfl
    | some o =>
      by_cases n : Own S a
      · exact .inr n
      · rw [F.keep a o e n] at h
        cases h
  · rcases F.own a h with q | q
    · exact .inr q
    · exact .inl q
theorem ROk.back' {v : V} {r : R} (F : Frm S H σ Γ S1 H1 σ1 Γ1) (h : ROk K S1 H1 S' H' σ' v r) : ROk K S H S' H' σ' v r := by
  cases r with
  | d x => exact h
  | l xs =>
    obtain ⟨a, vs, e, h1, h2, h3, h4, h5⟩ := h
    exact ⟨a, vs, e, h1, h2, h3, h4, back_own' F h5⟩
  | s i => exact h
  | o t =>
    obtain ⟨G, h1, h2, h3⟩ := h
    exact ⟨G, h1, h2, fun a ha => ⟨(h3 a ha).1, back_own' F (h3 a ha).2⟩⟩
theorem SG.shift {Z : Ends} {o : Out Fl} (F : Frm S H σ Γ S1 H1 σ1 Γ1) (h : SG K mg W S H σ Γ Z o) : SG K mg W S1 H1 σ1 Γ1 Z o := by
  cases o with
  | no => exact h
  | ex x Γ' => exact fun S' H' σ' c d F' E q => h S' H' σ' c d (F.trans F') E q
  | ok f Γ' =>
    cases f with
    | nx => exact fun S' H' σ' F' E => h S' H' σ' (F.trans F') E
    | bk => exact fun S' H' σ' F' E => h S' H' σ' (F.trans F') E
    | ct => exact fun S' H' σ' F' E => h S' H' σ' (F.trans F') E
    | rt r => exact fun S' H' σ' v F' E q => h S' H' σ' v (F.trans F') E (q.back' F)
/-- an expression's goal out of a statement's -/
theorem SG.bind {Z : Ends} {α β : Type} {rel : Sx → Hp → Ge → β → α → Prop} {o : Out α} {k : α → Ge → Out Fl} (h : SG K mg W S H σ Γ Z (o.bind k)) :
    OG K mg W S H σ Γ rel (fun v H' => ∃ S' r Γ', o = .ok r Γ' ∧ Frm S H σ Γ S' H' σ Γ' ∧ EnvOk K S' H' σ Γ' ∧ rel S' H' Γ' v r ∧ SG K mg W S H σ Γ Z (k r Γ')) o := by
  cases o with
  | ok r Γ' => exact fun S' H' v F E q => ⟨S', r, Γ', rfl, F, E, q, h⟩
  | ex x Γ' => exact fun S' H' c d F E q => h S' H' σ c d F E q
  | no => exact h
end
def tWS (X : Cx) (st : Stmt) : TS := fun Z σ H => ∀ pins s, Inv X pins σ H s → wpAny (model X.prog X.w) X.A (exec st X.env) (SP X pins Z) X.xe s
def tWSs (X : Cx) (st : List Stmt) : TS := fun Z σ H => ∀ pins s, Inv X pins σ H s → wpAny (model X.prog X.w) X.A (execs st X.env) (SP X pins Z) X.xe s
def tWG (X : Cx) (tg : Expr) : TG := fun v σ H Q => ∀ pins s u, Inv X pins σ H s → RelV v u → wpAny (model X.prog X.w) X.A (assign tg X.env u) (fun _ s' => ∃ σ' H', Inv X pins σ' H' s' ∧ Q σ' H') X.xe s
def tWGs (X : Cx) (ts : List Expr) : TGs := fun vs σ H Q => ∀ pins s us, Inv X pins σ H s → Vals vs us → wpAny (model X.prog X.w) X.A (assignInOrder ((assignEach ts X.env).map (·.2)) us) (fun _ s' => ∃ σ' H', Inv X pins σ' H' s' ∧ Q σ' H') X.xe s
section
variable {X : Cx} {st : Stmt} {sts : List Stmt} {tg : Expr} {tgs : List Expr}
theorem ps_w : PS X st (tWS X st) := ⟨fun pins s _ _ _ I h => h pins s I⟩
theorem pss_w : PSs X sts (tWSs X sts) := ⟨fun pins s _ _ _ I h => h pins s I⟩
theorem pg_w : PG X tg (tWG X tg) := ⟨fun pins s _ _ _ u _ I r h => h pins s u I r⟩
theorem pgs_w : PGs X tgs (tWGs X tgs) := ⟨fun pins s _ _ _ us _ I r h => h pins s us I r⟩
theorem tWS_of {t : TS} (h : PS X st t) {σ : L2.St} {H : Hp} {Z : Ends} (q : t Z σ H) : tWS X st Z σ H := fun pins s I => h.run pins s σ H Z I q
theorem tWSs_of {t : TS} (h : PSs X sts t) {σ : L2.St} {H : Hp} {Z : Ends} (q : t Z σ H) : tWSs X sts Z σ H := fun pins s I => h.run pins s σ H Z I q
theorem tWG_of {t : TG} (h : PG X tg t) {v : V} {σ : L2.St} {H : Hp} {Q : L2.St → Hp → Prop} (q : t v σ H Q) : tWG X tg v σ H Q := fun pins s u I r => h.run pins s σ H v u Q I r q
theorem tWGs_of {t : TGs} (h : PGs X tgs t) {v : List V} {σ : L2.St} {H : Hp} {Q : L2.St → Hp → Prop} (q : t v σ H Q) : tWGs X tgs v σ H Q := fun pins s u I r => h.run pins s σ H v u Q I r q
theorem tWG_mono {v : V} {σ : L2.St} {H : Hp} {Q Q' : L2.St → Hp → Prop} (h : tWG X tg v σ H Q) (m : ∀ σ' H', Q σ' H' → Q' σ' H') : tWG X tg v σ H Q' := fun pins s u I r =>
  thn (h pins s u I r) fun _ _ ⟨σ', H', I', q⟩ => ⟨σ', H', I', m σ' H' q⟩
theorem sp_mono {X : Cx} {pins : List (Addr × Obj)} {Z Z' : Ends} {f : Flow} {s : Shared} (h : SP X pins Z f s) (hn : ∀ σ H, Z.nx σ H → Z'.nx σ H) (hr : ∀ v H, Z.rt v H → Z'.rt v H) (hb : ∀ σ H, Z.bk σ H → Z'.bk σ H) (hc : ∀ σ H, Z.ct σ H → Z'.ct σ H) : SP X pins Z' f s := by
  cases f with
  | next => obtain ⟨σ', H', I', q⟩ := h; exact ⟨σ', H', I', hn _ _ q⟩
  | brk => obtain ⟨σ', H', I', q⟩ := h; exact ⟨σ', H', I', hb _ _ q⟩
  | cont => obtain ⟨σ', H', I', q⟩ := h; exact ⟨σ', H', I', hc _ _ q⟩
  | ret u => obtain ⟨v, σ', H', I', r, q⟩ := h; exact ⟨v, σ', H', I', r, hr _ _ q⟩
end
structure PSx (X : Cx) (st : Stmt) (f : SF) : Prop where
  run : ∀ (W : WX), Takes X W → ∀ (S : Sx) (H : Hp) (σ : L2.St) (Γ : Ge) (Z : Ends), EnvOk (kx X) S H σ Γ → SG (kx X) X.mg W S H σ Γ Z (f Γ) → tWS X st Z σ H
structure PSsx (X : Cx) (st : List Stmt) (f : SF) : Prop where
  run : ∀ (W : WX), Takes X W → ∀ (S : Sx) (H : Hp) (σ : L2.St) (Γ : Ge) (Z : Ends), EnvOk (kx X) S H σ Γ → SG (kx X) X.mg W S H σ Γ Z (f Γ) → tWSs X st Z σ H
/-- targets -/
abbrev GF := R → Ge → Out Unit
def UG (K : Kx) (S : Sx) (H : Hp) (σ : L2.St) (Γ : Ge) (Q : L2.St → Hp → Prop) : Out Unit → Prop
  | .ok _ Γ' => ∀ S' H' σ', Frm S H σ Γ S' H' σ' Γ' → EnvOk K S' H' σ' Γ' → Q σ' H'
  | .ex _ _ => False
  | .no => False
structure PGx (X : Cx) (tg : Expr) (g : GF) : Prop where
  run : ∀ (W : WX), Takes X W → ∀ (S0 : Sx) (H0 : Hp) (σ0 : L2.St) (Γ0 : Ge) (S : Sx) (H : Hp) (σ : L2.St) (Γ : Ge) (v : V) (r : R) (Q : L2.St → Hp → Prop), Frm S0 H0 σ0 Γ0 S H σ Γ → EnvOk (kx X) S H σ Γ → ROk (kx X) S0 H0 S H σ v r →
    UG (kx X) S0 H0 σ0 Γ0 Q (g r Γ) → tWG X tg v σ H Q
/-- several: each is given data -/
structure PGsx (X : Cx) (ts : List Expr) (g : List D → Ge → Out Unit) : Prop where
  run : ∀ (W : WX), Takes X W → ∀ (S0 : Sx) (H0 : Hp) (σ0 : L2.St) (Γ0 : Ge) (S : Sx) (H : Hp) (σ : L2.St) (Γ : Ge) (vs : List V) (ds : List D) (Q : L2.St → Hp → Prop), Frm S0 H0 σ0 Γ0 S H σ Γ → EnvOk (kx X) S H σ Γ → DqAll (kx X) S vs ds →
    UG (kx X) S0 H0 σ0 Γ0 Q (g ds Γ) → tWGs X ts vs σ H Q
end Ly
set_option maxRecDepth 100000
namespace Ly
open PySem L2
section
variable {X : Cx} {a b c e tg : Expr} {f g h : EF} {pos : Pos} {es tgs : List Expr} {t : Ge → Out (List R)}

/-! ### targets -/
def putR (i : Nat) (r : R) (Γ : Ge) : Out Unit := match r with
  | .d x => .ok () (Γ.set i (.d x))
  | .l xs => .ok () (Γ.set i (.l xs))
  | .s _ => .no
  | .o t => .ok () (Γ.set i (.o t))
def gN (i : Nat) : GF := fun r Γ => match Γ[i]? with
  | none => .no
  | some sl => if notB' sl = true then putR i r Γ else .no
theorem setN_ok {S0 S : Sx} {H0 H : Hp} {σ0 σ : L2.St} {Γ0 Γ : Ge} {K : Kx} {i : Nat} {v : V} {r : R} {Q : L2.St → Hp → Prop} (F : Frm S0 H0 σ0 Γ0 S H σ Γ) (E : EnvOk K S H σ Γ) (R : ROk K S0 H0 S H σ v r)
    (G : UG K S0 H0 σ0 Γ0 Q (gN i r Γ)) : Q (σ.set i (some v)) H := by
  unfold gN at G
  cases e : Γ[i]? with
  | none => rw [e] at G; exact G.elim
  | some sl =>
    rw [e] at G
    dsimp only at G
    have hl : i < Γ.length := (List.getElem?_eq_some_iff.mp e).1
    by_cases hb : notB' sl = true
    · rw [if_pos hb] at G
      cases r with
      | s _ => exact G.elim
      | d x => exact G _ H _ (F.setSl e hb fun b q => by simp at q) (E.setD hl R)
      | l xs =>
        obtain ⟨a, vs, rfl, h1, h2, h3, h4, h5⟩ := R
        exact G _ H _ (F.setSl e hb fun c ec => by rw [List.mem_singleton.mp ec]; exact h5.symm) (E.setL hl h1 h2 h3 h4)
      | o t =>
        obtain ⟨Fp, h1, h2, h3⟩ := R
        exact G _ H _ (F.setSl e hb fun c ec => (h3 c ec).2.symm) (E.setO hl h1 h2 fun a ha => (h3 a ha).1)
    · rw [if_neg hb] at G
      exact G.elim
theorem pgx_name {i : Nat} {x : Str} (hg : PG X (.Name x pos) (gName i)) : PGx X (.Name x pos) (gN i) :=
  ⟨fun W tk S0 H0 σ0 Γ0 S H σ Γ v r Q F E R G => tWG_of hg (setN_ok F E R G)⟩
def gsN : List D → Ge → Out Unit := fun ds Γ => match ds with
  | [] => .ok () Γ
  | _ :: _ => .no
def gsC (g : GF) (t : List D → Ge → Out Unit) : List D → Ge → Out Unit := fun ds Γ => match ds with
  | [] => .no
  | d :: ds => (g (.d d) Γ).bind fun _ Γ1 => t ds Γ1
theorem pgsx_nil : PGsx X [] gsN := by
  refine ⟨fun W tk S0 H0 σ0 Γ0 S H σ Γ vs ds Q F E R G => tWGs_of pgs_nil ?_⟩
  cases R with
  | nil => exact ⟨rfl, G S H σ F E⟩
  | cons _ _ => exact G.elim
theorem UG.bind {K : Kx} {S : Sx} {H : Hp} {σ : L2.St} {Γ : Ge} {Q : L2.St → Hp → Prop} {o : Out Unit} {k : Unit → Ge → Out Unit} (h : UG K S H σ Γ Q (o.bind k)) :
    UG K S H σ Γ (fun σ' H' => ∃ S' Γ', o = .ok () Γ' ∧ Frm S H σ Γ S' H' σ' Γ' ∧ EnvOk K S' H' σ' Γ' ∧ UG K S H σ Γ Q (k () Γ')) o := by
  cases o with
  | no => exact h
  | ex _ _ => exact h
  | ok u Γ' => exact fun S' H' σ' F E => ⟨S', Γ', rfl, F, E, h⟩
/-- what is data stays data -/
theorem DqAll.mono {K : Kx} {S S' : Hp} (e : Same S S') {vs : List V} {ds : List D} (h : DqAll K S vs ds) : DqAll K S' vs ds := Same.dpAll e h
structure PGxM (X : Cx) (tg : Expr) (g : GF) : Prop extends PGx X tg g where
  grows : ∀ (r : R) (Γ Γ' : Ge), g r Γ = .ok () Γ' → Γ'.length = Γ.length
theorem pgsx_cons {gf : GF} {tf : List D → Ge → Out Unit} (h1 : PGx X tg gf) (h2 : PGsx X tgs tf)
    (hs : (assignEach (tg :: tgs) X.env).map (·.2) = assign tg X.env :: (assignEach tgs X.env).map (·.2) := by rfl) : PGsx X (tg :: tgs) (gsC gf tf) := by
  refine ⟨fun W tk S0 H0 σ0 Γ0 S H σ Γ vs ds Q F E R G => tWGs_of (pgs_cons pg_w pgs_w hs) ?_⟩
  cases R with
  | nil => exact G.elim
  | cons r1 r2 =>
    rename_i v vs d ds
    refine ⟨v, vs, rfl, ?_⟩
    -- the first target from the state as it is; then the rest, with the data carried over
    have G : UG (kx X) S0 H0 σ0 Γ0 Q ((gf (.d d) Γ).bind fun _ Γ1 => tf ds Γ1) := G
    cases eo : gf (.d d) Γ with
    | no => rw [eo] at G; exact G.elim
    | ex _ _ => rw [eo] at G; exact G.elim
    | ok u Γ1 =>
      rw [eo] at G
      refine h1.run W tk S H σ Γ S H σ Γ v (.d d) _ .refl E r1 ?_
      rw [eo]
      exact fun S' H' σ' F' E' => h2.run W tk S0 H0 σ0 Γ0 S' H' σ' Γ1 vs ds Q (F.trans F') E' (Same.dpAll F'.grow r2) G
/-- a tuple's items -/
def gTp (n : Nat) (t : List D → Ge → Out Unit) : GF := fun r Γ => match r with
  | .d (.tuple xs) => if xs.length = n then t xs Γ else .no
  | _ => .no
theorem pgx_tup {k n : Nat} {tf : List D → Ge → Out Unit} (hc : X.calm = true) (h : PGsx X tgs tf) (hn : (assignEach tgs X.env).length = n := by rfl) (hst : (assignEach tgs X.env).findIdx? (·.1) = none := by rfl) : PGx X (.Tuple tgs k pos) (gTp n tf) := by
  refine ⟨fun W tk S0 H0 σ0 Γ0 S H σ Γ v r Q F E R G => tWG_of (pg_tup hc pgs_w hn hst) ?_⟩
  cases r with
  | l _ => exact G.elim
  | s _ => exact G.elim
  | o _ => exact G.elim
  | d z =>
    cases z <;> first
      | exact G.elim
      | skip
    rename_i xs
    have G : UG (kx X) S0 H0 σ0 Γ0 Q (if xs.length = n then tf xs Γ else .no) := G
    by_cases hl : xs.length = n
    · rw [if_pos hl] at G
      cases R with
      | tup hs ha => exact ⟨_, _, rfl, Same.seqT E.sub hs, (DqAll.length ha).trans hl, h.run W tk S0 H0 σ0 Γ0 S H σ Γ _ xs Q F E ha G⟩
    · rw [if_neg hl] at G
      exact G.elim
/-- xs[i] = v, xs a list of one's own at slot j -/
def gIx (j : Nat) (g : EF) : GF := fun r Γ => match r with
  | .d x => (g Γ).bind fun k Γ1 => match view Γ1 k, slotD Γ1 j with
    | some (.int i), some (.list xs) => match Γ1[j]?, ixN xs.length i with
      | some (.l _), some n => .ok () (putL Γ1 j (xs.set n x))
      | some (.b _), some n => .ok () (putL Γ1 j (xs.set n x))
      | _, _ => .no
    | _, _ => .no
  | _ => .no

/-! ### small statements -/
def setF (gf : GF) (f : EF) : SF := fun Γ => (f Γ).bind fun r Γ1 => (gf r Γ1).bind fun _ Γ2 => .ok .nx Γ2
theorem UG_of_SG {K : Kx} {mg : Str → Option Value} {W : WX} {S : Sx} {H : Hp} {σ : L2.St} {Γ : Ge} {Z : Ends} {o : Out Unit} (h : SG K mg W S H σ Γ Z (o.bind fun _ Γ2 => .ok .nx Γ2)) (hx : ∀ x Γ', o ≠ .ex x Γ') : UG K S H σ Γ Z.nx o := by
  cases o with
  | no => exact h
  | ex x Γ' => exact absurd rfl (hx x Γ')
  | ok u Γ' => exact h
/-- a target never raises -/
def NoEx (g : GF) : Prop := ∀ r Γ x Γ', g r Γ ≠ .ex x Γ'
def NoExs (g : List D → Ge → Out Unit) : Prop := ∀ r Γ x Γ', g r Γ ≠ .ex x Γ'
theorem noex_name {i : Nat} : NoEx (gN i) := fun r Γ x Γ' h => by
  unfold gN at h
  cases e : Γ[i]? with
  | none => rw [e] at h; cases h
  | some sl =>
    rw [e] at h
    dsimp only at h
    split at h
    · cases r <;> cases h
    · cases h
theorem noexs_nil : NoExs gsN := fun r Γ x Γ' h => by cases r <;> cases h
theorem noexs_cons {gf : GF} {tf : List D → Ge → Out Unit} (h1 : NoEx gf) (h2 : NoExs tf) : NoExs (gsC gf tf) := fun r Γ x Γ' h => by
  cases r with
  | nil => cases h
  | cons d ds =>
    have h : (gf (.d d) Γ).bind (fun _ Γ1 => tf ds Γ1) = .ex x Γ' := h
    cases e : gf (.d d) Γ with
    | no => rw [e] at h; cases h
    | ex y Γ1 => exact h1 _ _ _ _ e
    | ok u Γ1 => rw [e] at h; exact h2 _ _ _ _ h
theorem noex_tup {n : Nat} {tf : List D → Ge → Out Unit} (h : NoExs tf) : NoEx (gTp n tf) := fun r Γ x Γ' q => by
  cases r with
  | l _ => cases q
  | s _ => cases q
  | o _ => cases q
  | d z =>
    cases z <;> first
      | (cases q; done)
      | skip
    rename_i xs
    have q : (if xs.length = n then tf xs Γ else .no) = Out.ex x Γ' := q
    by_cases hl : xs.length = n
    · rw [if_pos hl] at q
      exact h _ _ _ _ q
    · rw [if_neg hl] at q
      cases q
theorem psx_asg {gf : GF} {t : Stmt} (hp : PS X t (tAsg (tW X e) (tWG X tg))) (pe : PX X e f) (hg : PGx X tg gf) (hx : NoEx gf) : PSx X t (setF gf f) := by
  refine ⟨fun W tk S H σ Γ Z E G => tWS_of hp ?_⟩
  refine tW_mono (pe.run W tk S H σ Γ _ E (SG.bind G)) fun v H1 ⟨S1, r, Γ1, _, F1, E1, R1, G1⟩ => ?_
  exact hg.run W tk S H σ Γ S1 H1 σ Γ1 v r _ F1 E1 R1 (UG_of_SG G1 fun x Γ' => hx _ _ _ _)
theorem psx_set {gf : GF} (pe : PX X e f) (hg : PGx X tg gf) (hx : NoEx gf) (hs : swapsWithSole [tg] e pos.line X.env = pure false := by rfl) (hw : swappedStores [tg] e X.env = pure none := by rfl)
    (h1 : (assignEach [tg] X.env).map (·.2) = [assign tg X.env] := by rfl) : PSx X (.Assign [tg] e pos) (setF gf f) :=
  psx_asg (ps_asg pe_w pg_w hs hw (h1 := h1)) pe hg hx
def expF (f : EF) : SF := fun Γ => (f Γ).bind fun _ Γ1 => .ok .nx Γ1
theorem psx_expr (pe : PX X e f) (hs : swapsWith e none pos.line X.env = pure false := by rfl) : PSx X (.Expr e pos) (expF f) :=
  ⟨fun W tk S H σ Γ Z E G => tWS_of (ps_expr pe_w hs) (tW_mono (pe.run W tk S H σ Γ _ E (SG.bind G)) fun v H1 ⟨S1, r, Γ1, _, F1, E1, R1, G1⟩ => G1 S1 H1 σ F1 E1)⟩
def retF (f : EF) : SF := fun Γ => (f Γ).bind fun r Γ1 => match r with
  | .s _ => .no
  | r => .ok (.rt r) Γ1
theorem psx_ret (pe : PX X e f) : PSx X (.Return (some e) pos) (retF f) := by
  refine ⟨fun W tk S H σ Γ Z E G => tWS_of (ps_ret pe_w) (tW_mono (pe.run W tk S H σ Γ _ E (SG.bind G)) fun v H1 ⟨S1, r, Γ1, _, F1, E1, R1, G1⟩ => ?_)⟩
  cases r with
  | s _ => exact G1.elim
  | d x => exact G1 S1 H1 σ v F1 E1 R1
  | l x => exact G1 S1 H1 σ v F1 E1 R1
  | o x => exact G1 S1 H1 σ v F1 E1 R1
def retN : SF := fun Γ => .ok (.rt (.d .none)) Γ
theorem psx_retN : PSx X (.Return none pos) retN := ⟨fun W tk S H σ Γ Z E G => tWS_of ps_retN (G S H σ .non .refl E .non)⟩
/-- return name: what is one's own at a slot is handed on -/
def retV (i : Nat) : SF := fun Γ => match Γ[i]? with
  | some (.d x) => .ok (.rt (.d x)) Γ
  | some (.l xs) => .ok (.rt (.l xs)) (Γ.set i .un)
  | some (.o t) => .ok (.rt (.o t)) (Γ.set i .un)
  | _ => .no
theorem psx_retV {i : Nat} (he : PE X e (tVar i)) : PSx X (.Return (some e) pos) (retV i) := by
  refine ⟨fun W tk S H σ Γ Z E G => tWS_of (ps_ret he) ?_⟩
  unfold retV at G
  cases q : Γ[i]? with
  | none => rw [q] at G; exact G.elim
  | some sl =>
    rw [q] at G
    cases sl with
    | un => exact G.elim
    | b _ => exact G.elim
    | p _ => exact G.elim
    | d x =>
      obtain ⟨v, h1, h2⟩ := E.dat i x q
      exact ⟨v, h1, G S H σ v .refl E h2⟩
    | l xs =>
      obtain ⟨a, vs, h1, h2, h3, h4, h5⟩ := E.ownF i xs (.inl q)
      obtain ⟨F', E', n⟩ := letgo_sl (sl := .un) E q h1 rfl rfl
      have ha : a ∈ S.fp i := by rw [h5]; simp
      exact ⟨.ref a, h1, G _ H σ _ F' E' ⟨a, vs, rfl, h2, h3, h4, n a ha, .inr ⟨i, ha⟩⟩⟩
    | o t =>
      obtain ⟨v, h1, h2, h3⟩ := E.tree i t (.inl q)
      obtain ⟨F', E', n⟩ := letgo_sl (sl := .un) E q h1 rfl rfl
      exact ⟨v, h1, G _ H σ _ F' E' ⟨S.fp i, h2, h3, fun a ha => ⟨n a ha, .inr ⟨i, ha⟩⟩⟩⟩
def skipF : SF := fun Γ => .ok .nx Γ
def brkF : SF := fun Γ => .ok .bk Γ
def ctnF : SF := fun Γ => .ok .ct Γ
theorem psx_pass : PSx X (.Pass pos) skipF := ⟨fun W tk S H σ Γ Z E G => tWS_of ps_pass (G S H σ .refl E)⟩
theorem psx_break : PSx X (.Break pos) brkF := ⟨fun W tk S H σ Γ Z E G => tWS_of ps_break (G S H σ .refl E)⟩
theorem psx_continue : PSx X (.Continue pos) ctnF := ⟨fun W tk S H σ Γ Z E G => tWS_of ps_continue (G S H σ .refl E)⟩
theorem psx_doc {x : Str} {j : Nat} {p : Pos} : PSx X (.Expr (.Constant (.str x) j p) pos) skipF := ⟨fun W tk S H σ Γ Z E G => tWS_of ps_doc (G S H σ .refl E)⟩

/-! ### blocks, if -/
variable {st : Stmt} {sts sts' : List Stmt} {p q : SF} {u : BF}
def seqF (p q : SF) : SF := fun Γ => (p Γ).bind fun fl Γ1 => match fl with
  | .nx => q Γ1
  | fl => .ok fl Γ1
theorem pssx_nil : PSsx X [] skipF := ⟨fun W tk S H σ Γ Z E G => tWSs_of pss_nil (G S H σ .refl E)⟩
theorem pssx_one (h : PSx X st p) : PSsx X [st] p := ⟨fun W tk S H σ Γ Z E G => tWSs_of (pss_one ps_w) (h.run W tk S H σ Γ Z E G)⟩
theorem SG.seq {K : Kx} {mg : Str → Option Value} {W : WX} {S : Sx} {H : Hp} {σ : L2.St} {Γ : Ge} {Z : Ends} (h : SG K mg W S H σ Γ Z (seqF p q Γ)) :
    SG K mg W S H σ Γ { Z with nx := fun σ' H' => ∃ S' Γ', p Γ = .ok .nx Γ' ∧ Frm S H σ Γ S' H' σ' Γ' ∧ EnvOk K S' H' σ' Γ' ∧ SG K mg W S H σ Γ Z (q Γ') } (p Γ) := by
  unfold seqF at h
  cases e : p Γ with
  | no => rw [e] at h; exact h
  | ex x Γ' => rw [e] at h; exact h
  | ok fl Γ' =>
    rw [e] at h
    cases fl with
    | nx => exact fun S' H' σ' F E => ⟨S', Γ', rfl, F, E, h⟩
    | bk => exact h
    | ct => exact h
    | rt r => exact h
theorem pssx_cons (h1 : PSx X st p) (h2 : PSsx X sts q) : PSsx X (st :: sts) (seqF p q) := by
  refine ⟨fun W tk S H σ Γ Z E G => tWSs_of (pss_cons ps_w pss_w) ?_⟩
  have := h1.run W tk S H σ Γ _ E (SG.seq G)
  refine fun pins s I => thn (this pins s I) fun fl s' hq => ?_
  refine sp_mono hq (fun σ1 H1 ⟨S1, Γ1, _, F1, E1, G1⟩ => ?_) (fun _ _ z => z) (fun _ _ z => z) (fun _ _ z => z)
  exact h2.run W tk S1 H1 σ1 Γ1 Z E1 (SG.shift F1 G1)
def ifF (u : BF) (p q : SF) : SF := fun Γ => (u Γ).bind fun b Γ1 => if b = true then p Γ1 else q Γ1
theorem psx_if (hc : PTx X c u) (ha : PSsx X sts p) (hb : PSsx X sts' q) : PSx X (.If c sts sts' pos) (ifF u p q) := by
  refine ⟨fun W tk S H σ Γ Z E G => tWS_of (ps_if pt_w pss_w pss_w) (tWT_mono (hc.run W tk S H σ Γ _ E (SG.bind G)) fun d H1 ⟨S1, r, Γ1, _, F1, E1, e, G1⟩ => ?_)⟩
  subst e
  cases d with
  | true => exact iteT (ha.run W tk S1 H1 σ Γ1 Z E1 (SG.shift F1 G1))
  | false => exact iteF (hb.run W tk S1 H1 σ Γ1 Z E1 (SG.shift F1 G1))
end
end Ly
set_option maxRecDepth 100000
namespace Ly
open PySem L2

theorem grow_ok {K : Kx} {S : Sx} {Sh H H' : Hp} {σ : L2.St} {Γ : Ge} (E : EnvOk K S H σ Γ) (h1 : Same S.hp Sh) (h2 : Same H H') (h3 : Same Sh H') (h4 : ∀ b, S.hp b = none → H b ≠ none → Sh b = none) :
    ∃ S' : Sx, S'.hp = Sh ∧ Frm S H σ Γ S' H' σ Γ ∧ EnvOk K S' H' σ Γ :=
  ⟨⟨Sh, S.fp⟩, rfl, ⟨h1, fun b o h _ => h2 b o h, fun b q1 q2 _ => h4 b q1 q2, fun _ h => .inl h, fun _ xs h => ⟨rfl, xs, h⟩, fun _ t h => ⟨rfl, t, h⟩, rfl⟩,
    E.heap (S' := ⟨Sh, S.fp⟩) h1 rfl h3 (fun a q h => h4 a h (by obtain ⟨_, o, w⟩ := own_tracked E q; rw [w]; intro z; cases z)) fun a _ o h => h2 a o h⟩

/-! ### what a for walks -/
def ItD (K : Kx) (S0 : Hp) (J : It) (ds : List D) : Prop := ∀ (i : Nat) (S H : Hp), Same S0 S → Same S H →
  (∀ d, ds[i]? = some d → J.go i H ∧ ∀ x H', J.yld i H x H' → ∃ S', Same S S' ∧ Same H H' ∧ Same S' H' ∧ (∀ b, S b = none → H b ≠ none → S' b = none) ∧ Dq K S' x d) ∧ (ds.length ≤ i → J.stop i H)
theorem ItD.mono {K : Kx} {S0 S1 : Hp} {J : It} {ds : List D} (e : Same S0 S1) (h : ItD K S0 J ds) : ItD K S1 J ds := fun i S H a b => h i S H (e.trans a) b
def tWI (X : Cx) (tg iter : Expr) : TI := fun σ H R => ∀ pins s, Inv X pins σ H s → wpAny (model X.prog X.w) X.A (eval iter X.env) (fun v s1 => wpAny (model X.prog X.w) X.A (pyIter v) (PIE X pins σ tg R) X.xe s1) X.xe s
abbrev LF := Ge → Out (List D)
structure PIx (X : Cx) (tg iter : Expr) (f : LF) : Prop where
  run : ∀ (W : WX), Takes X W → ∀ (S : Sx) (H : Hp) (σ : L2.St) (Γ : Ge) (R : It → Hp → Prop), EnvOk (kx X) S H σ Γ → OG (kx X) X.mg W S H σ Γ (fun S' H' Γ' J ds => ItD (kx X) S' J ds) R (f Γ) → tWI X tg iter σ H R
section
variable {X : Cx} {tg iter a b c e : Expr} {f g h : EF} {pos : Pos}
theorem pi_w : PI X tg iter (tWI X tg iter) := ⟨fun pins s _ _ _ I h => h pins s I⟩
theorem tWI_of {wi : TI} (h : PI X tg iter wi) {σ : L2.St} {H : Hp} {R : It → Hp → Prop} (q : wi σ H R) : tWI X tg iter σ H R := fun pins s I => h.run pins s σ H R I q
theorem pie_mono {pins : List (Addr × Obj)} {σ : L2.St} {R R' : It → Hp → Prop} {v : Value} {s : Shared} (h : PIE X pins σ tg R v s) (m : ∀ J H, R J H → R' J H) : PIE X pins σ tg R' v s := by
  obtain ⟨it, fp, tn, J, H', e, I, T, t0, f, q⟩ := h
  exact ⟨it, fp, tn, J, H', e, I, T, t0, f, m J H' q⟩
theorem tWI_mono {σ : L2.St} {H : Hp} {R R' : It → Hp → Prop} (h : tWI X tg iter σ H R) (m : ∀ J H', R J H' → R' J H') : tWI X tg iter σ H R' := fun pins s I =>
  thn (h pins s I) fun _ _ q => thn q fun _ _ z => pie_mono z m
/-- a list or a tuple that is data -/
def itF (f : EF) : LF := fun Γ => (f Γ).bind fun r Γ1 => match r with
  | .d (.list xs) => .ok xs Γ1
  | .d (.tuple xs) => .ok xs Γ1
  | _ => .no
theorem itd_list {K : Kx} {S : Hp} {a : Addr} {vs : List V} {ds : List D} (hs : SqL K S a vs) (ha : DqAll K S vs ds) (inj : True) : ItD K S (Itl K a) ds := by
  intro i S1 H e1 e2
  refine ⟨fun d hd => ?_, fun hl => ⟨vs, (e1.trans e2).seq hs, by rw [DqAll.length ha]; exact hl⟩⟩
  obtain ⟨v, hv, dv⟩ := DqAll.get ha hd
  refine ⟨⟨vs, v, (e1.trans e2).seq hs, hv⟩, fun x H' ⟨e, q⟩ => ?_⟩
  subst e
  have := q vs ((e1.trans e2).seq hs)
  rw [hv] at this
  cases this
  exact ⟨S1, Same.refl _, Same.refl _, e2, fun _ h _ => h, Same.dp e1 dv⟩
theorem itd_tup {K : Kx} {S : Hp} {a : Addr} {vs : List V} {ds : List D} (hs : SqT K S a vs) (ha : DqAll K S vs ds) : ItD K S (Itt K a) ds := by
  intro i S1 H e1 e2
  refine ⟨fun d hd => ?_, fun hl => ⟨vs, Same.seqT (e1.trans e2) hs, by rw [DqAll.length ha]; exact hl⟩⟩
  obtain ⟨v, hv, dv⟩ := DqAll.get ha hd
  refine ⟨⟨vs, v, Same.seqT (e1.trans e2) hs, hv⟩, fun x H' ⟨e, q⟩ => ?_⟩
  subst e
  have := q vs (Same.seqT (e1.trans e2) hs)
  rw [hv] at this
  cases this
  exact ⟨S1, Same.refl _, Same.refl _, e2, fun _ h _ => h, Same.dp e1 dv⟩
theorem pix_seq (pa : PX X a f) : PIx X tg a (itF f) := by
  refine ⟨fun W tk S H σ Γ J' E G => ?_⟩
  -- what is walked is known ahead: a list, a tuple, or nothing that counts
  have G0 := G
  unfold itF at G0
  cases e : f Γ with
  | no => rw [e] at G0; exact G0.elim
  | ex y Γ1 =>
    refine tWI_of (pi_list pe_w) (tW_mono (pa.run W tk S H σ Γ (fun _ _ => False) E ?_) fun _ _ z => z.elim)
    rw [e] at G0 ⊢
    exact G0
  | ok r Γ1 =>
    rw [e] at G0
    cases r with
    | l _ => exact G0.elim
    | s _ => exact G0.elim
    | o _ => exact G0.elim
    | d z =>
      cases z <;> first
        | exact G0.elim
        | skip
      · rename_i xs
        refine tWI_of (pi_list pe_w) (pa.run W tk S H σ Γ _ E ?_)
        rw [e]
        intro S2 H2 v F E2 R2
        cases R2 with
        | lst hs ha => exact ⟨_, rfl, ⟨_, (Same.ls E2.sub hs).seq⟩, G0 S2 H2 _ F E2 (itd_list hs.seq ha trivial)⟩
      · rename_i xs
        refine tWI_of (pi_tup pe_w) (pa.run W tk S H σ Γ _ E ?_)
        rw [e]
        intro S2 H2 v F E2 R2
        cases R2 with
        | tup hs ha => exact ⟨_, rfl, ⟨_, Same.seqT E2.sub hs⟩, G0 S2 H2 _ F E2 (itd_tup hs ha)⟩
/-! ranges -/
def rngD (lo : Int) (n : Nat) : List D := (List.range n).map fun (i : Nat) => .int (lo + (i : Int))
theorem rngD_get {lo : Int} {n i : Nat} {d : D} (h : (rngD lo n)[i]? = some d) : i < n ∧ d = .int (lo + (i : Int)) := by
  unfold rngD at h
  rw [List.getElem?_map] at h
  by_cases hl : i < n
  · rw [List.getElem?_range hl] at h
    cases h
    exact ⟨hl, rfl⟩
  · rw [List.getElem?_eq_none (by rw [List.length_range]; omega)] at h
    cases h
theorem itd_rng {K : Kx} {S : Hp} {lo : Int} {n : Nat} : ItD K S (Itr lo n) (rngD lo n) := by
  intro i S1 H e1 e2
  refine ⟨fun d hd => ?_, fun hl => ?_⟩
  · obtain ⟨hl, rfl⟩ := rngD_get hd
    exact ⟨hl, fun x H' ⟨e, q⟩ => by subst e; subst q; exact ⟨S1, Same.refl _, Same.refl _, e2, fun _ h _ => h, .int _⟩⟩
  · unfold rngD at hl
    rw [List.length_map, List.length_range] at hl
    exact hl
variable {es : List Expr} {t : Ge → Out (List R)}
def rng1F (t : Ge → Out (List R)) : LF := fun Γ => (t Γ).bind fun rs Γ1 => match views Γ1 rs with
  | some [.int j] => if -(2 ^ 62) ≤ j ∧ j < 2 ^ 62 then .ok (rngD 0 j.toNat) Γ1 else .no
  | _ => .no
def rng2F (t : Ge → Out (List R)) : LF := fun Γ => (t Γ).bind fun rs Γ1 => match views Γ1 rs with
  | some [.int i, .int j] => if -(2 ^ 62) ≤ i ∧ i < 2 ^ 62 ∧ -(2 ^ 62) ≤ j ∧ j < 2 ^ 62 then .ok (rngD i (j - i).toNat) Γ1 else .no
  | _ => .no
theorem vwAll1 {K : Kx} {S H : Hp} {vs : List V} {d : D} (h : VwAll K S H vs [d]) : ∃ v, vs = [v] ∧ Vw K S H v d := by
  cases vs with
  | nil => exact h.elim
  | cons v r =>
    cases r with
    | nil => exact ⟨v, rfl, h.1⟩
    | cons _ _ => exact h.2.elim
theorem vwAll2 {K : Kx} {S H : Hp} {vs : List V} {d e : D} (h : VwAll K S H vs [d, e]) : ∃ v w, vs = [v, w] ∧ Vw K S H v d ∧ Vw K S H w e := by
  cases vs with
  | nil => exact h.elim
  | cons v r =>
    obtain ⟨w, rfl, q⟩ := vwAll1 h.2
    exact ⟨v, w, rfl, h.1, q⟩
theorem pix_rng1 {p : Pos} (hg : Gl X "range") (hm : X.mg "range" = none) (pa : PAx X [a] t) (hs : starEach [a] X.env = [(false, eval a X.env)] := by rfl) : PIx X tg (.Call (.Name "range" p) [a] [] pos) (rng1F t) := by
  refine ⟨fun W tk S H σ Γ R' E G => tWI_of (pi_range1 hg hm pa_w hs) ?_⟩
  refine tWA_mono (pa.run W tk S H σ Γ _ E (OG.bind G)) fun vs H2 ⟨S2, rs, Γ2, _, F, E2, R2, G2⟩ => ?_
  cases e1 : views Γ2 rs with
  | none => rw [e1] at G2; exact G2.elim
  | some ds =>
    rw [e1] at G2
    have hv := R2.vw E2 e1
    split at G2
    · rename_i j q
      cases q
      obtain ⟨v, rfl, hw⟩ := vwAll1 hv
      have := hw.int
      subst this
      by_cases hb : -(2 ^ 62) ≤ j ∧ j < 2 ^ 62
      · rw [if_pos hb] at G2
        exact ⟨j, rfl, hb.1, hb.2, G2 S2 H2 _ F E2 itd_rng⟩
      · rw [if_neg hb] at G2
        exact G2.elim
    · exact G2.elim
theorem pix_rng2 {p : Pos} (hg : Gl X "range") (hm : X.mg "range" = none) (pa : PAx X [a, b] t) (hs : starEach [a, b] X.env = [(false, eval a X.env), (false, eval b X.env)] := by rfl) (hs2 : starEach [b] X.env = [(false, eval b X.env)] := by rfl) :
    PIx X tg (.Call (.Name "range" p) [a, b] [] pos) (rng2F t) := by
  refine ⟨fun W tk S H σ Γ R' E G => tWI_of (pi_range2 hg hm pa_w hs hs2) ?_⟩
  refine tWA_mono (pa.run W tk S H σ Γ _ E (OG.bind G)) fun vs H2 ⟨S2, rs, Γ2, _, F, E2, R2, G2⟩ => ?_
  cases e1 : views Γ2 rs with
  | none => rw [e1] at G2; exact G2.elim
  | some ds =>
    rw [e1] at G2
    have hv := R2.vw E2 e1
    split at G2
    · rename_i i j q
      cases q
      obtain ⟨v, w, rfl, hv, hw⟩ := vwAll2 hv
      have := hv.int
      subst this
      have := hw.int
      subst this
      by_cases hb : -(2 ^ 62) ≤ i ∧ i < 2 ^ 62 ∧ -(2 ^ 62) ≤ j ∧ j < 2 ^ 62
      · rw [if_pos hb] at G2
        exact ⟨i, j, rfl, hb, G2 S2 H2 _ F E2 itd_rng⟩
      · rw [if_neg hb] at G2
        exact G2.elim
    · exact G2.elim

/-! ### for -/
def turnF (g : GF) (body : SF) (d : D) (k : Ge → Out Fl) : SF := fun Γ => (g (.d d) Γ).bind fun _ Γ1 => (body Γ1).bind fun fl Γ2 => match fl with
  | .nx => k Γ2
  | .ct => k Γ2
  | .bk => .ok .nx Γ2
  | .rt r => .ok (.rt r) Γ2
def loopF (g : GF) (body : SF) : List D → SF
  | [], Γ => .ok .nx Γ
  | d :: ds, Γ => turnF g body d (loopF g body ds) Γ
def forF (it : LF) (g : GF) (body : SF) : SF := fun Γ => (it Γ).bind fun ds Γ1 => loopF g body ds Γ1
/-- a turn's goal -/
theorem turn_goal {K : Kx} {mg : Str → Option Value} {W : WX} {S S1 : Sx} {H H1 : Hp} {σ σ1 : L2.St} {Γ Γ1 : Ge} {Z : Ends} {body : SF} {k : Ge → Out Fl} (F : Frm S H σ Γ S1 H1 σ1 Γ1)
    (G : SG K mg W S H σ Γ Z ((body Γ1).bind fun fl Γ2 => match fl with | .nx => k Γ2 | .ct => k Γ2 | .bk => .ok .nx Γ2 | .rt r => .ok (.rt r) Γ2)) {N : L2.St → Hp → Prop}
    (hN : ∀ S' H' σ' Γ2, Frm S1 H1 σ1 Γ1 S' H' σ' Γ2 → EnvOk K S' H' σ' Γ2 → SG K mg W S H σ Γ Z (k Γ2) → N σ' H') : SG K mg W S1 H1 σ1 Γ1 { Z with nx := N, ct := N, bk := Z.nx } (body Γ1) := by
  cases e : body Γ1 with
  | no => rw [e] at G; exact G
  | ex x Γ' => rw [e] at G; exact fun S' H' σ' c d F' E q => G S' H' σ' c d (F.trans F') E q
  | ok fl Γ2 =>
    rw [e] at G
    cases fl with
    | nx => exact fun S' H' σ' F E => hN S' H' σ' Γ2 F E G
    | ct => exact fun S' H' σ' F E => hN S' H' σ' Γ2 F E G
    | bk => exact fun S' H' σ' F' E => G S' H' σ' (F.trans F') E
    | rt r => exact fun S' H' σ' v F' E q => G S' H' σ' v (F.trans F') E (q.back' F)
theorem psx_for {it : LF} {g : GF} {body : List Stmt} {p : SF} (hp : PassesOwn (model X.prog X.w) X.A X.env X.xe) (hc : X.calm = true) (hi : PIx X tg iter it) (hg : PGx X tg g) (hx : NoEx g) (hb : PSsx X body p)
    (hs : ∀ x, foldedSetIterable iter X.env x = pure x := by intro _; rfl) : PSx X (.For tg iter body [] pos) (forF it g p) := by
  refine ⟨fun W tk S0 H0 σ0 Γ0 Z E0 G0 => tWS_of (ps_for hp hc pi_w pg_w pss_w hs) ?_⟩
  refine tWI_mono (hi.run W tk S0 H0 σ0 Γ0 _ E0 (SG.bind G0)) fun J H1 ⟨S1, ds, Γ1, _, F1, E1, hJ, G1⟩ => ?_
  refine ⟨fun i m σ H => m = ds.length - i ∧ i ≤ ds.length ∧ ∃ S Γ, Frm S0 H0 σ0 Γ0 S H σ Γ ∧ Same S1 S ∧ EnvOk (kx X) S H σ Γ ∧ SG (kx X) X.mg W S0 H0 σ0 Γ0 Z (loopF g p (ds.drop i) Γ),
    ⟨ds.length, by simp, Nat.zero_le _, S1, Γ1, F1, Same.refl _, E1, G1⟩, ?_⟩
  rintro i m σ H ⟨rfl, hi, S, Γ, F, e1, E, G⟩
  obtain ⟨jg, js⟩ := hJ i S H e1 E.sub
  by_cases hl : i < ds.length
  · have hd : ds[i]? = some ds[i] := List.getElem?_eq_getElem hl
    obtain ⟨go, yl⟩ := jg _ hd
    refine .inr ⟨go, fun σ' H' => ∃ S' Γ', Frm S0 H0 σ0 Γ0 S' H' σ' Γ' ∧ Same S1 S' ∧ EnvOk (kx X) S' H' σ' Γ' ∧ SG (kx X) X.mg W S0 H0 σ0 Γ0 Z (loopF g p (ds.drop (i + 1)) Γ'), fun σ' H' q => ⟨ds.length - (i + 1), by omega, rfl, hl, q⟩, fun x H' hy => ?_⟩
    obtain ⟨Sh, s1, s2, s3, s4, dx⟩ := yl x H' hy
    obtain ⟨S', rfl, F', E'⟩ := grow_ok E s1 s2 s3 s4
    rw [List.drop_eq_getElem_cons hl] at G
    have G : SG (kx X) X.mg W S0 H0 σ0 Γ0 Z ((g (.d ds[i]) Γ).bind fun _ Γ1 => (p Γ1).bind fun fl Γ2 => match fl with | .nx => loopF g p (ds.drop (i + 1)) Γ2 | .ct => loopF g p (ds.drop (i + 1)) Γ2 | .bk => .ok .nx Γ2 | .rt r => .ok (.rt r) Γ2) := G
    cases eo : g (.d ds[i]) Γ with
    | no => rw [eo] at G; exact G.elim
    | ex y Γ' => exact absurd eo (hx _ _ _ _)
    | ok u Γ2 =>
      rw [eo] at G
      refine hg.run W tk S' H' σ Γ S' H' σ Γ x (.d ds[i]) _ .refl E' dx ?_
      rw [eo]
      intro S2 H2 σ2 F2 E2
      have F02 := (F.trans F').trans F2
      exact hb.run W tk S2 H2 σ2 Γ2 _ E2 (turn_goal F02 G fun S3 H3 σ3 Γ3 F3 E3 G3 => ⟨S3, Γ3, F02.trans F3, ((e1.trans s1).trans F2.grow).trans F3.grow, E3, G3⟩)
  · have e : i = ds.length := by omega
    subst e
    rw [List.drop_length] at G
    exact .inl ⟨js (Nat.le_refl _), G S H σ F E⟩

/-! ### while -/
variable {u : BF} {p : SF}
def whileN (u : BF) (p : SF) : Nat → SF
  | 0, _ => .no
  | n + 1, Γ => (u Γ).bind fun b Γ1 => if b = true then (p Γ1).bind fun fl Γ2 => match fl with
      | .nx => whileN u p n Γ2
      | .ct => whileN u p n Γ2
      | .bk => .ok .nx Γ2
      | .rt r => .ok (.rt r) Γ2
    else .ok .nx Γ1
open Classical in
noncomputable def whileF (u : BF) (p : SF) : SF := fun Γ => if h : ∃ n, whileN u p n Γ ≠ .no then whileN u p (Classical.choose h) Γ else .no
theorem whileN_more (u : BF) (p : SF) : ∀ (n : Nat) (Γ : Ge), whileN u p n Γ ≠ .no → whileN u p (n + 1) Γ = whileN u p n Γ
  | 0, _, h => absurd rfl h
  | n + 1, Γ, h => by
    unfold whileN at h ⊢
    cases e : u Γ with
    | no => rfl
    | ex x Γ1 => rfl
    | ok b Γ1 =>
      rw [e] at h
      cases b with
      | false => rfl
      | true =>
        have h : ((p Γ1).bind fun fl Γ2 => match fl with | .nx => whileN u p n Γ2 | .ct => whileN u p n Γ2 | .bk => .ok .nx Γ2 | .rt r => .ok (.rt r) Γ2) ≠ .no := h
        show ((p Γ1).bind fun fl Γ2 => match fl with | .nx => whileN u p (n + 1) Γ2 | .ct => whileN u p (n + 1) Γ2 | .bk => .ok .nx Γ2 | .rt r => .ok (.rt r) Γ2) = ((p Γ1).bind fun fl Γ2 => match fl with | .nx => whileN u p n Γ2 | .ct => whileN u p n Γ2 | .bk => .ok .nx Γ2 | .rt r => .ok (.rt r) Γ2)
        cases e2 : p Γ1 with
        | no => rfl
        | ex x Γ2 => rfl
        | ok fl Γ2 =>
          rw [e2] at h
          cases fl with
          | nx => exact whileN_more u p n Γ2 h
          | ct => exact whileN_more u p n Γ2 h
          | bk => rfl
          | rt r => rfl
theorem whileN_le (u : BF) (p : SF) {n m : Nat} {Γ : Ge} (h : whileN u p n Γ ≠ .no) (hm : n ≤ m) : whileN u p m Γ = whileN u p n Γ := by
  obtain ⟨k, rfl⟩ := Nat.exists_eq_add_of_le hm
  induction k with
  | zero => rfl
  | succ k ih =>
    have ih := ih (Nat.le_add_right n k)
    rw [← Nat.add_assoc, whileN_more u p (n + k) Γ (by rw [ih]; exact h), ih]
theorem whileF_eq {u : BF} {p : SF} {n : Nat} {Γ : Ge} {o : Out Fl} (e : whileN u p n Γ = o) (h : o ≠ .no) : whileF u p Γ = o := by
  have hx : ∃ n, whileN u p n Γ ≠ .no := ⟨n, by rw [e]; exact h⟩
  have hc := Classical.choose_spec hx
  unfold whileF
  rw [dif_pos hx]
  rcases Nat.le_total n (Classical.choose hx) with l | l
  · rw [whileN_le u p (by rw [e]; exact h) l, e]
  · rw [← whileN_le u p hc l, e]
theorem psx_while {body : List Stmt} (hp : PassesOwn (model X.prog X.w) X.A X.env X.xe) (hc : PTx X c u) (hb : PSsx X body p) : PSx X (.While c body [] pos) (whileF u p) := by
  refine ⟨fun W tk S0 H0 σ0 Γ0 Z E0 G0 => tWS_of (ps_while hp pt_w pss_w) ?_⟩
  unfold whileF at G0
  by_cases h : ∃ n, whileN u p n Γ0 ≠ .no
  · rw [dif_pos h] at G0
    refine ⟨fun m σ H => ∃ S Γ, Frm S0 H0 σ0 Γ0 S H σ Γ ∧ EnvOk (kx X) S H σ Γ ∧ SG (kx X) X.mg W S0 H0 σ0 Γ0 Z (whileN u p m Γ), ⟨_, S0, Γ0, .refl, E0, G0⟩, ?_⟩
    rintro m σ H ⟨S, Γ, F, E, G⟩
    cases m with
    | zero => exact G.elim
    | succ m =>
      unfold whileN at G
      refine tWT_mono (hc.run W tk S H σ Γ _ E (SG.bind (SG.shift F G))) fun b H1 ⟨S1, b', Γ1, eo, F1, E1, e, _⟩ => ?_
      subst e
      rw [eo] at G
      have F01 := F.trans F1
      cases b with
      | false => exact iteF (G S1 H1 σ F01 E1)
      | true =>
        refine iteT ⟨fun σ' H' => ∃ S' Γ', Frm S0 H0 σ0 Γ0 S' H' σ' Γ' ∧ EnvOk (kx X) S' H' σ' Γ' ∧ SG (kx X) X.mg W S0 H0 σ0 Γ0 Z (whileN u p m Γ'), fun σ' H' q => ⟨m, Nat.lt_succ_self m, q⟩, ?_⟩
        exact hb.run W tk S1 H1 σ Γ1 _ E1 (turn_goal F01 G fun S3 H3 σ3 Γ3 F3 E3 G3 => ⟨S3, Γ3, F01.trans F3, E3, G3⟩)
  · rw [dif_neg h] at G0
    exact G0.elim
end
end Ly
set_option maxRecDepth 100000
namespace Ly
open PySem L2

/-! ### a def's meaning: from its parameters to its result and what became of the lists that were lent -/
abbrev FM := Ge → Out R
def outPs : Ge → Ge → Ge
  | .b _ :: ps, g :: gs => g :: outPs ps gs
  | .p _ :: ps, g :: gs => g :: outPs ps gs
  | p :: ps, _ :: gs => p :: outPs ps gs
  | ps, [] => ps
  | [], _ => []
def bodyM (N : Nat) (p : SF) : FM := fun ps => match p (ps ++ List.replicate (N - ps.length) .un) with
  | .ok .nx Γ => .ok (.d .none) (outPs ps Γ)
  | .ok (.rt (.d x)) Γ => .ok (.d x) (outPs ps Γ)
  | .ok (.rt (.l x)) Γ => .ok (.l x) (outPs ps Γ)
  | .ok (.rt (.o x)) Γ => .ok (.o x) (outPs ps Γ)
  | .ex x Γ => .ex x (outPs ps Γ)
  | _ => .no
/-- a parameter: data, or lent -/
def isPar : Sl → Prop
  | .l _ => False
  | .o _ => False
  | _ => True
def Lent (ps : Ge) : Prop := ∀ (i : Nat) (sl : Sl), ps[i]? = some sl → isPar sl
def spM (K : Kx) (mg : Str → Option Value) (n : Nat) (M : FM) : Sp := fun vs H Q E => ∃ (S : Sx) (ps : Ge), ps.length = n ∧ EnvOk K S H (vs.map some) ps ∧ Lent ps ∧
  EG K mg (fun c d _ H' => E c d H') S H (vs.map some) ps Q (M ps)
theorem spM_len {K : Kx} {mg : Str → Option Value} {n : Nat} {M : FM} {vs : List V} {H : Hp} {Q : VK} {E : XK} (h : spM K mg n M vs H Q E) : vs.length = n := by
  obtain ⟨S, ps, hl, e, _⟩ := h
  have := e.len
  rw [List.length_map] at this
  rw [this, hl]

theorem outPs_get : ∀ {ps gs : Ge} {i : Nat} {p : Sl}, ps[i]? = some p → ps.length ≤ gs.length → (outPs ps gs)[i]? = match p with
    | .b _ => gs[i]?
    | .p _ => gs[i]?
    | p => some p
  | [], _, _, _, h, _ => by simp at h
  | p :: ps, [], _, _, _, hl => by simp at hl
  | p :: ps, g :: gs, 0, q, h, _ => by
    simp only [List.getElem?_cons_zero, Option.some.injEq] at h
    subst h
    cases p <;> rfl
  | p :: ps, g :: gs, i + 1, q, h, hl => by
    simp only [List.getElem?_cons_succ] at h
    have ih := outPs_get (gs := gs) h (by simpa using hl)
    cases p <;> simpa [outPs] using ih
theorem outPs_length : ∀ {ps gs : Ge}, ps.length ≤ gs.length → (outPs ps gs).length = ps.length
  | [], gs, _ => by cases gs <;> rfl
  | p :: ps, [], h => by simp at h
  | p :: ps, g :: gs, h => by
    have ih := outPs_length (ps := ps) (gs := gs) (by simpa using h)
    cases p <;> simp [outPs, ih]

section
variable {K : Kx} {mg : Str → Option Value} {S S' : Sx} {H H' : Hp} {vs : List V} {ps : Ge} {m : Nat} {σ' : L2.St} {Γ' : Ge}
/-- the entry of a body -/
theorem entry_ok (E : EnvOk K S H (vs.map some) ps) : EnvOk K S H (vs.map some ++ List.replicate m none) (ps ++ List.replicate m .un) := by
  have hl : (vs.map some).length = ps.length := E.len
  refine ⟨by simp only [List.length_append, List.length_replicate, hl], E.sub, fun i sl h => ?_, fun i h => ?_, E.ne⟩
  · by_cases hi : i < ps.length
    · rw [List.getElem?_append_left hi] at h
      rw [List.getElem?_append_left (by rw [hl]; exact hi)]
      exact E.slot i sl h
    · rw [List.getElem?_append_right (by omega), List.getElem?_replicate] at h
      split at h
      · cases h
        refine ⟨none, ?_, E.out i (by omega)⟩
        rw [List.getElem?_append_right (by omega), List.getElem?_replicate, if_pos (by omega)]
      · cases h
  · rw [List.length_append] at h
    exact E.out i (by omega)
/-- the end of a body, seen from the caller -/
theorem exit_ok (E : EnvOk K S H (vs.map some) ps) (nl : Lent ps) (F : Frm S H (vs.map some ++ List.replicate m none) (ps ++ List.replicate m .un) S' H' σ' Γ') (E' : EnvOk K S' H' σ' Γ') :
    ∃ S2 : Sx, S2.hp = S'.hp ∧ Frm S H (vs.map some) ps S2 H' (vs.map some) (outPs ps Γ') ∧ EnvOk K S2 H' (vs.map some) (outPs ps Γ') ∧ (∀ a, Own S2 a → Own S' a) := by
  have hl : vs.length = ps.length := by have := E.len; rwa [List.length_map] at this
  have hg : ps.length ≤ Γ'.length := by rw [F.len, List.length_append]; omega
  have hol := outPs_length hg
  have low : ∀ {i : Nat} {sl : Sl}, ps[i]? = some sl → (ps ++ List.replicate m Sl.un)[i]? = some sl ∧ (vs.map some ++ List.replicate m none)[i]? = (vs.map some)[i]? := fun {i sl} h => by
    have hi := (List.getElem?_eq_some_iff.mp h).1
    exact ⟨by rw [List.getElem?_append_left hi]; exact h, List.getElem?_append_left (by rw [List.length_map, hl]; exact hi)⟩
  have mem : ∀ {i : Nat} {a : Addr}, a ∈ (match ps[i]? with | some (.b _) => S'.fp i | some (.p _) => S'.fp i | _ => []) → a ∈ S'.fp i := fun {i a} h => by
    split at h
    · exact h
    · exact h
    · simp at h
  have tr : ∀ a, Own ⟨S'.hp, fun i => match ps[i]? with | some (.b _) => S'.fp i | some (.p _) => S'.fp i | _ => []⟩ a → Own S' a := fun a ⟨i, hi⟩ => ⟨i, mem hi⟩
  refine ⟨⟨S'.hp, fun i => match ps[i]? with | some (.b _) => S'.fp i | some (.p _) => S'.fp i | _ => []⟩, rfl,
    ⟨F.grow, F.keep, F.fresh, fun b hb => F.own b (tr b hb), fun i xs h => ⟨rfl, ?_⟩, fun i t h => ⟨rfl, ?_⟩, hol⟩,
    ⟨by rw [List.length_map, hl, hol], E'.sub, fun i sl h => ?_, fun i h => ?_, fun i j a h1 h2 => E'.ne i j a (mem h1) (mem h2)⟩, tr⟩
  · obtain ⟨_, ys, e2⟩ := F.bor i xs (low h).1
    exact ⟨ys, by rw [outPs_get h hg]; exact e2⟩
  · obtain ⟨_, ys, e2⟩ := F.bop i t (low h).1
    exact ⟨ys, by rw [outPs_get h hg]; exact e2⟩
  · have hi : i < ps.length := by
      have := (List.getElem?_eq_some_iff.mp h).1
      omega
    have hp : ps[i]? = some ps[i] := List.getElem?_eq_getElem hi
    have g := outPs_get hp hg
    rw [h] at g
    show ∃ ov, (vs.map some)[i]? = some ov ∧ SlOk K S'.hp H' sl ov (match ps[i]? with | some (.b _) => S'.fp i | some (.p _) => S'.fp i | _ => [])
    obtain ⟨ov, q1, q2⟩ := E.slot i _ hp
    cases e : ps[i] with
    | l x => exact absurd (nl i (.l x) (hp.trans (by rw [e]))) id
    | o x => exact absurd (nl i (.o x) (hp.trans (by rw [e]))) id
    | un =>
      rw [e] at g
      cases g
      rw [hp, e]
      exact ⟨ov, q1, rfl⟩
    | d x =>
      rw [e] at g q2
      cases g
      obtain ⟨_, v, e1, e2⟩ := q2
      rw [hp, e]
      exact ⟨ov, q1, rfl, v, e1, Same.dp F.grow e2⟩
    | b x =>
      rw [e] at g hp
      have g : some sl = Γ'[i]? := g
      obtain ⟨e1, _⟩ := F.bor i x (low hp).1
      rw [(low hp).2] at e1
      obtain ⟨ov', w1, w2⟩ := E'.slot i sl g.symm
      rw [e1, q1] at w1
      cases w1
      rw [hp]
      exact ⟨_, q1, w2⟩
    | p x =>
      rw [e] at g hp
      have g : some sl = Γ'[i]? := g
      obtain ⟨e1, _⟩ := F.bop i x (low hp).1
      rw [(low hp).2] at e1
      obtain ⟨ov', w1, w2⟩ := E'.slot i sl g.symm
      rw [e1, q1] at w1
      cases w1
      rw [hp]
      exact ⟨_, q1, w2⟩
  · rw [hol] at h
    show (match ps[i]? with | some (.b _) => S'.fp i | some (.p _) => S'.fp i | _ => []) = []
    rw [List.getElem?_eq_none h]
end

section
variable {P : Program} {w : World} {K : PySem.W.Frag} {mg : Str → Option Value} {base : Heap}
/-- a body keeps the def's promise -/
theorem body_run {X : Cx} {N : List Str} {n : Nat} {p : SF} {sts : List Stmt} (b : PSsx X sts p) {vs : List V} {H : Hp} {Q : VK} {E : XK} (tk : Takes X (fun c d _ H' => E c d H')) (h : spM (kx X) X.mg n (bodyM N.length p) vs H Q E) :
    tWSs X sts { nx := fun _ H' => Q .non H', rt := Q } (L2.start N vs) H := by
  obtain ⟨S0, qs, hl, E0, nl, G⟩ := h
  have hv : vs.length = qs.length := by have := E0.len; rwa [List.length_map] at this
  refine b.run (fun c d _ H' => E c d H') tk S0 H (L2.start N vs) (qs ++ List.replicate (N.length - qs.length) .un) _ ?_ ?_
  · unfold L2.start
    rw [hv]
    exact entry_ok E0
  · unfold L2.start
    rw [hv]
    unfold bodyM at G
    cases e : p (qs ++ List.replicate (N.length - qs.length) .un) with
    | no => rw [e] at G; exact G
    | ex y Γ' =>
      rw [e] at G
      intro S' H' σ' c d F' E' q
      obtain ⟨S2, es, f1, e1, _⟩ := exit_ok E0 nl F' E'
      refine G S2 H' c d f1 e1 ?_
      obtain ⟨C, z1, z2, z3⟩ := q
      refine ⟨C, z1, z2, ?_⟩
      rw [es]
      exact z3
    | ok fl Γ' =>
      rw [e] at G
      cases fl with
      | nx =>
        intro S' H' σ' F' E'
        obtain ⟨S2, es, f1, e1, _⟩ := exit_ok E0 nl F' E'
        exact G S2 H' .non f1 e1 .non
      | bk => exact G.elim
      | ct => exact G.elim
      | rt r =>
        intro S' H' σ' v F' E' R
        obtain ⟨S2, es, f1, e1, t1⟩ := exit_ok E0 nl F' E'
        cases r with
        | s _ => exact G.elim
        | d x =>
          refine G S2 H' v f1 e1 ?_
          show Dq (kx X) S2.hp v x
          rw [es]
          exact R
        | l xs =>
          obtain ⟨a, ws, rfl, h1, h2, h3, h4, h5⟩ := R
          refine G S2 H' _ f1 e1 ⟨a, ws, rfl, by rw [es]; exact h1, h2, by rw [es]; exact h3, fun q => h4 (t1 a q), h5⟩
        | o t =>
          obtain ⟨Fp, h1, h2, h3⟩ := R
          refine G S2 H' v f1 e1 ⟨Fp, by rw [es]; exact h1, h2, fun a ha => ⟨fun q => (h3 a ha).1 (t1 a q), (h3 a ha).2⟩⟩
/-- THE RULE for a def -/
theorem fn_ok {x qual : Str} {st : Stmt} {f : Addr} {fd : FuncData} {N ps : List Str} {k n : Nat} {p : SF} {M : FM} (F : Fun K x qual st f fd) (S : FnScope N ps (defScope st)) (hn : ps.length = n) (hN : n ≤ N.length) (hM : M = bodyM N.length p)
    (body : ∀ (cdv : Value) (A : Around) (outer : List Env) (s : Shared) (H : Hp) (E : XK), Room k (A.deeper (PyProof.Rows.envOfC qual (defScope st) s.heap.objs.size f cdv)) → PSsx (cxOf (L2.CX P w) P w K mg base N qual (defScope st) f cdv A outer s H E) (defBody st) p) :
    FnOk P w K mg base (L2.CX P w) (k + 1) f fd ps (spM ⟨K, P, w, clOf mg⟩ mg n M) := by
  subst hM
  refine F.okX S (fun vs H Q E h => by rw [spM_len h, hn]) (fun cdv A outer s H vs Q E hr h => ?_)
  exact ⟨tWSs _ (defBody st), pss_w, body_run (N := N) (body cdv A outer s H E hr) (takes_of rfl rfl rfl rfl) h⟩
end
end Ly
set_option maxRecDepth 100000
namespace Ly
open PySem L2

/-! ### a call of a def: data is handed over, lists at slots are lent -/
def bparams (Γ : Ge) : List R → Option Ge
  | [] => some []
  | .d x :: rs => (bparams Γ rs).map (.d x :: ·)
  | .s i :: rs => match Γ[i]? with
    | some (.l xs) => (bparams Γ rs).map (.b xs :: ·)
    | some (.b xs) => (bparams Γ rs).map (.b xs :: ·)
    | some (.o t) => (bparams Γ rs).map (.p t :: ·)
    | some (.p t) => (bparams Γ rs).map (.p t :: ·)
    | _ => none
  | .l _ :: _ => none
  | .o _ :: _ => none
def slotsOf : List R → List Nat
  | [] => []
  | .s i :: rs => i :: slotsOf rs
  | _ :: rs => slotsOf rs
/-- a tree of one's own is changed -/
def putT (Γ : Ge) (i : Nat) (t : T) : Ge := match Γ[i]? with
  | some (.p _) => Γ.set i (.p t)
  | _ => Γ.set i (.o t)
def wback (Γ : Ge) : List R → Ge → Ge
  | .s i :: rs, .b ys :: ps => wback (putL Γ i ys) rs ps
  | .s i :: rs, .p t :: ps => wback (putT Γ i t) rs ps
  | _ :: rs, _ :: ps => wback Γ rs ps
  | _, _ => Γ
def callM (M : FM) (rs : List R) (Γ : Ge) : Out R := match bparams Γ rs with
  | none => .no
  | some ps => if (slotsOf rs).Nodup then match M ps with
      | .ok (.d x) qs => .ok (.d x) (wback Γ rs qs)
      | .ok (.l x) qs => .ok (.l x) (wback Γ rs qs)
      | .ok (.o x) qs => .ok (.o x) (wback Γ rs qs)
      | .ex x qs => .ex x (wback Γ rs qs)
      | _ => .no
    else .no
def callF (M : FM) (t : Ge → Out (List R)) : EF := fun Γ => (t Γ).bind fun rs Γ1 => callM M rs Γ1

theorem putL_len {Γ : Ge} {i : Nat} {ys : List D} : (putL Γ i ys).length = Γ.length := by
  unfold putL
  split <;> rw [List.length_set]
theorem putT_len {Γ : Ge} {i : Nat} {ys : T} : (putT Γ i ys).length = Γ.length := by
  unfold putT
  split <;> rw [List.length_set]
theorem putL_ne {Γ : Ge} {i j : Nat} {ys : List D} (h : j ≠ i) : (putL Γ i ys)[j]? = Γ[j]? := by
  unfold putL
  split <;> rw [getset_ne h]
theorem putT_ne {Γ : Ge} {i j : Nat} {ys : T} (h : j ≠ i) : (putT Γ i ys)[j]? = Γ[j]? := by
  unfold putT
  split <;> rw [getset_ne h]
theorem wback_step (Γ : Ge) (r : R) (rs : List R) (p : Sl) (ps : Ge) : ∃ Γ1 : Ge, wback Γ (r :: rs) (p :: ps) = wback Γ1 rs ps ∧ Γ1.length = Γ.length ∧ (∀ j, (∀ i, r = .s i → j ≠ i) → Γ1[j]? = Γ[j]?) ∧
    ((∃ i ys, r = .s i ∧ p = .b ys ∧ Γ1 = putL Γ i ys) ∨ (∃ i t, r = .s i ∧ p = .p t ∧ Γ1 = putT Γ i t) ∨ Γ1 = Γ) := by
  cases r with
  | s i =>
    cases p with
    | b ys => exact ⟨putL Γ i ys, rfl, putL_len, fun j h => putL_ne (h i rfl), .inl ⟨i, ys, rfl, rfl, rfl⟩⟩
    | p t => exact ⟨putT Γ i t, rfl, putT_len, fun j h => putT_ne (h i rfl), .inr (.inl ⟨i, t, rfl, rfl, rfl⟩)⟩
    | un => exact ⟨Γ, rfl, rfl, fun _ _ => rfl, .inr (.inr rfl)⟩
    | d _ => exact ⟨Γ, rfl, rfl, fun _ _ => rfl, .inr (.inr rfl)⟩
    | l _ => exact ⟨Γ, rfl, rfl, fun _ _ => rfl, .inr (.inr rfl)⟩
    | o _ => exact ⟨Γ, rfl, rfl, fun _ _ => rfl, .inr (.inr rfl)⟩
  | d _ => exact ⟨Γ, by cases p <;> rfl, rfl, fun _ _ => rfl, .inr (.inr rfl)⟩
  | l _ => exact ⟨Γ, by cases p <;> rfl, rfl, fun _ _ => rfl, .inr (.inr rfl)⟩
  | o _ => exact ⟨Γ, by cases p <;> rfl, rfl, fun _ _ => rfl, .inr (.inr rfl)⟩
theorem wback_len : ∀ {rs : List R} {ps Γ : Ge}, (wback Γ rs ps).length = Γ.length
  | [], ps, Γ => by simp [wback]
  | r :: rs, [], Γ => by cases r <;> simp [wback]
  | r :: rs, p :: ps, Γ => by
    obtain ⟨Γ1, e, l, _⟩ := wback_step Γ r rs p ps
    rw [e, wback_len (rs := rs), l]
theorem wback_out : ∀ {rs : List R} {ps Γ : Ge} {j : Nat}, j ∉ slotsOf rs → (wback Γ rs ps)[j]? = Γ[j]?
  | [], ps, Γ, j, _ => by simp [wback]
  | r :: rs, [], Γ, j, _ => by cases r <;> simp [wback]
  | r :: rs, p :: ps, Γ, j, h => by
    obtain ⟨Γ1, e, l, q, _⟩ := wback_step Γ r rs p ps
    have h2 : j ∉ slotsOf rs := fun z => h (by cases r <;> simp [slotsOf, z])
    rw [e, wback_out (rs := rs) h2, q j fun i hi z => h (by subst hi; simp [slotsOf, z])]
theorem mem_slots : ∀ {rs : List R} {k i : Nat}, rs[k]? = some (.s i) → i ∈ slotsOf rs
  | [], _, _, h => by simp at h
  | r :: rs, 0, i, h => by
    simp only [List.getElem?_cons_zero, Option.some.injEq] at h
    subst h
    simp [slotsOf]
  | r :: rs, k + 1, i, h => by
    simp only [List.getElem?_cons_succ] at h
    have := mem_slots h
    cases r <;> simp [slotsOf, this]
theorem of_mem_slots : ∀ {rs : List R} {i : Nat}, i ∈ slotsOf rs → ∃ k : Nat, rs[k]? = some (.s i)
  | [], _, h => by simp [slotsOf] at h
  | r :: rs, i, h => by
    have tail : i ∈ slotsOf rs → ∃ k : Nat, (r :: rs)[k]? = some (.s i) := fun h => by
      obtain ⟨k, hk⟩ := of_mem_slots h
      exact ⟨k + 1, by simpa using hk⟩
    cases r with
    | d x => exact tail (by simpa [slotsOf] using h)
    | l x => exact tail (by simpa [slotsOf] using h)
    | o x => exact tail (by simpa [slotsOf] using h)
    | s j =>
      simp only [slotsOf, List.mem_cons] at h
      rcases h with rfl | h
      · exact ⟨0, by simp⟩
      · exact tail h
theorem slots_inj : ∀ {rs : List R} {k l i : Nat}, (slotsOf rs).Nodup → rs[k]? = some (.s i) → rs[l]? = some (.s i) → k = l
  | [], _, _, _, _, h, _ => by simp at h
  | r :: rs, 0, 0, _, _, _, _ => rfl
  | r :: rs, 0, l + 1, i, n, h1, h2 => by
    simp only [List.getElem?_cons_zero, Option.some.injEq] at h1
    subst h1
    simp only [List.getElem?_cons_succ] at h2
    simp only [slotsOf, List.nodup_cons] at n
    exact absurd (mem_slots h2) n.1
  | r :: rs, k + 1, 0, i, n, h1, h2 => by
    simp only [List.getElem?_cons_zero, Option.some.injEq] at h2
    subst h2
    simp only [List.getElem?_cons_succ] at h1
    simp only [slotsOf, List.nodup_cons] at n
    exact absurd (mem_slots h1) n.1
  | r :: rs, k + 1, l + 1, i, n, h1, h2 => by
    simp only [List.getElem?_cons_succ] at h1 h2
    have n' : (slotsOf rs).Nodup := by
      cases r with
      | d x => simpa [slotsOf] using n
      | l x => simpa [slotsOf] using n
      | o x => simpa [slotsOf] using n
      | s j =>
        simp only [slotsOf, List.nodup_cons] at n
        exact n.2
    rw [slots_inj n' h1 h2]
/-- what comes back to a slot that was lent -/
theorem wback_in : ∀ {rs : List R} {ps Γ : Ge} {k j : Nat} {p : Sl}, (slotsOf rs).Nodup → rs[k]? = some (.s j) → ps[k]? = some p → j < Γ.length →
    (∀ ys, p = .b ys → (wback Γ rs ps)[j]? = (putL Γ j ys)[j]?) ∧ (∀ t, p = .p t → (wback Γ rs ps)[j]? = (putT Γ j t)[j]?)
  | [], _, _, _, _, _, _, h, _, _ => by simp at h
  | _ :: _, [], _, _, _, _, _, _, h, _ => by simp at h
  | r :: rs, q :: ps, Γ, 0, j, p, n, h1, h2, hj => by
    simp only [List.getElem?_cons_zero, Option.some.injEq] at h1 h2
    subst h1
    subst h2
    simp only [slotsOf, List.nodup_cons] at n
    exact ⟨fun ys e => by subst e; exact wback_out n.1, fun t e => by subst e; exact wback_out n.1⟩
  | r :: rs, q :: ps, Γ, k + 1, j, p, n, h1, h2, hj => by
    simp only [List.getElem?_cons_succ] at h1 h2
    have hm := mem_slots h1
    have n' : (slotsOf rs).Nodup := by
      cases r <;> simp only [slotsOf, List.nodup_cons] at n <;> first | exact n | exact n.2
    obtain ⟨Γ1, e, l, w, _⟩ := wback_step Γ r rs q ps
    have ne : ∀ i, r = .s i → j ≠ i := fun i hi z => by
      subst hi
      simp only [slotsOf, List.nodup_cons] at n
      exact n.1 (z ▸ hm)
    have wj := w j ne
    obtain ⟨a, b⟩ := wback_in (rs := rs) (ps := ps) (Γ := Γ1) n' h1 h2 (by rw [l]; exact hj)
    have pl : ∀ ys, (putL Γ1 j ys)[j]? = (putL Γ j ys)[j]? := fun ys => by
      unfold putL
      rw [wj]
      split <;> rw [List.getElem?_set_self (by rw [l]; exact hj), List.getElem?_set_self hj]
    have pt : ∀ t, (putT Γ1 j t)[j]? = (putT Γ j t)[j]? := fun ys => by
      unfold putT
      rw [wj]
      split <;> rw [List.getElem?_set_self (by rw [l]; exact hj), List.getElem?_set_self hj]
    rw [e]
    exact ⟨fun ys z => (a ys z).trans (pl ys), fun t z => (b t z).trans (pt t)⟩
theorem bparams_get : ∀ {Γ : Ge} {rs : List R} {ps : Ge}, bparams Γ rs = some ps → ps.length = rs.length ∧ ∀ (k : Nat) (p : Sl), ps[k]? = some p → ∃ r, rs[k]? = some r ∧
    ((∃ x, r = .d x ∧ p = .d x) ∨ (∃ i xs, r = .s i ∧ p = .b xs ∧ (Γ[i]? = some (.l xs) ∨ Γ[i]? = some (.b xs))) ∨ ∃ i t, r = .s i ∧ p = .p t ∧ (Γ[i]? = some (.o t) ∨ Γ[i]? = some (.p t)))
  | Γ, [], ps, h => by
    cases h
    exact ⟨rfl, fun k p h => by simp at h⟩
  | Γ, r :: rs, ps, h => by
    have step : ∀ {p0 : Sl}, (bparams Γ rs).map (p0 :: ·) = some ps → ((∃ x, r = .d x ∧ p0 = .d x) ∨ (∃ i xs, r = .s i ∧ p0 = .b xs ∧ (Γ[i]? = some (.l xs) ∨ Γ[i]? = some (.b xs))) ∨ ∃ i t, r = .s i ∧ p0 = .p t ∧ (Γ[i]? = some (.o t) ∨ Γ[i]? = some (.p t))) → ps.length = (r :: rs).length ∧ ∀ (k : Nat) (p : Sl), ps[k]? = some p → ∃ r', (r :: rs)[k]? = some r' ∧
        ((∃ x, r' = .d x ∧ p = .d x) ∨ (∃ i xs, r' = .s i ∧ p = .b xs ∧ (Γ[i]? = some (.l xs) ∨ Γ[i]? = some (.b xs))) ∨ ∃ i t, r' = .s i ∧ p = .p t ∧ (Γ[i]? = some (.o t) ∨ Γ[i]? = some (.p t))) := fun {p0} h q => by
      cases e : bparams Γ rs with
      | none => rw [e] at h; cases h
      | some qs =>
        rw [e] at h
        cases h
        obtain ⟨l, g⟩ := bparams_get e
        refine ⟨by simp [l], fun k p hp => ?_⟩
        cases k with
        | zero =>
          simp only [List.getElem?_cons_zero, Option.some.injEq] at hp
          subst hp
          exact ⟨r, by simp, q⟩
        | succ k =>
          simp only [List.getElem?_cons_succ] at hp
          obtain ⟨r', h1, h2⟩ := g k p hp
          exact ⟨r', by simpa using h1, h2⟩
    cases r with
    | l x => cases h
    | o x => cases h
    | d x => exact step h (.inl ⟨x, rfl, rfl⟩)
    | s i =>
      unfold bparams at h
      cases e : Γ[i]? with
      | none => rw [e] at h; cases h
      | some sl =>
        rw [e] at h
        cases sl with
        | un => cases h
        | d _ => cases h
        | l xs => exact step h (.inr (.inl ⟨i, xs, rfl, rfl, .inl e⟩))
        | b xs => exact step h (.inr (.inl ⟨i, xs, rfl, rfl, .inr e⟩))
        | o xs => exact step h (.inr (.inr ⟨i, xs, rfl, rfl, .inl e⟩))
        | p xs => exact step h (.inr (.inr ⟨i, xs, rfl, rfl, .inr e⟩))
theorem ROkAll.get {K : Kx} {S : Sx} {H0 H : Hp} {σ : L2.St} : ∀ {vs : List V} {rs : List R} {k : Nat} {r : R}, ROkAll K σ S0 H0 S H vs rs → rs[k]? = some r → ∃ v, vs[k]? = some v ∧ ROk K S0 H0 S H σ v r
  | [], [], _, _, _, h => by simp at h
  | v :: vs, r :: rs, 0, q, h, e => by
    simp only [List.getElem?_cons_zero, Option.some.injEq] at e
    subst e
    exact ⟨v, rfl, h.1⟩
  | v :: vs, r :: rs, k + 1, q, h, e => by
    simp only [List.getElem?_cons_succ] at e
    obtain ⟨w, h1, h2⟩ := ROkAll.get h.2 e
    exact ⟨w, by simpa using h1, h2⟩
  | [], _ :: _, _, _, h, _ => h.elim
  | _ :: _, [], _, _, h, _ => h.elim
theorem ROkAll.len {K : Kx} {S : Sx} {H0 H : Hp} {σ : L2.St} : ∀ {vs : List V} {rs : List R}, ROkAll K σ S0 H0 S H vs rs → vs.length = rs.length
  | [], [], _ => rfl
  | v :: vs, r :: rs, h => by rw [List.length_cons, List.length_cons, ROkAll.len h.2]
  | [], _ :: _, h => h.elim
  | _ :: _, [], h => h.elim

/-- the objects that are lent with the k-th argument -/
def lentFp (S : Sx) (rs : List R) (k : Nat) : List Addr := match rs[k]? with
  | some (.s i) => S.fp i
  | _ => []
section
variable {K : Kx} {S0 S S' : Sx} {H0 H H' : Hp} {σ : L2.St} {Γ ps qs : Ge} {vs : List V} {rs : List R}
theorem slots_inj' (hn : (slotsOf rs).Nodup) {k l : Nat} {a : Addr} (E : EnvOk K S H σ Γ) (h1 : a ∈ lentFp S rs k) (h2 : a ∈ lentFp S rs l) : k = l := by
  unfold lentFp at h1 h2
  split at h1
  · rename_i i hi
    split at h2
    · rename_i j hj
      have := E.ne i j a h1 h2
      subst this
      exact slots_inj hn hi hj
    · simp at h2
  · simp at h1
theorem own_lent {a : Addr} (h : Own ⟨S.hp, lentFp S rs⟩ a) : Own S a := by
  obtain ⟨k, hk⟩ := h
  have hk : a ∈ lentFp S rs k := hk
  unfold lentFp at hk
  split at hk
  · exact ⟨_, hk⟩
  · simp at hk
/-- the callee's entry -/
theorem lend_ok (E : EnvOk K S H σ Γ) (R : ROkAll K σ S0 H0 S H vs rs) (hb : bparams Γ rs = some ps) (hn : (slotsOf rs).Nodup) :
    EnvOk K ⟨S.hp, lentFp S rs⟩ H (vs.map some) ps ∧ Lent ps := by
  obtain ⟨hl, g⟩ := bparams_get hb
  refine ⟨⟨by rw [List.length_map, ROkAll.len R, hl], E.sub, fun k sl h => ?_, fun k h => ?_, fun k l a h1 h2 => slots_inj' hn E h1 h2⟩, fun k sl h => ?_⟩
  · obtain ⟨r, hr, q⟩ := g k _ h
    obtain ⟨v, q1, q2⟩ := ROkAll.get R hr
    refine ⟨some v, by rw [List.getElem?_map, q1]; rfl, ?_⟩
    show SlOk K S.hp H sl (some v) (lentFp S rs k)
    unfold lentFp
    rw [hr]
    rcases q with ⟨x, rfl, rfl⟩ | ⟨i, xs, rfl, rfl, w⟩ | ⟨i, t, rfl, rfl, w⟩
    · exact ⟨rfl, v, rfl, q2⟩
    · obtain ⟨a, ws, z1, z2, z3, z4, z5⟩ := E.ownF i xs w
      have q2 : σ[i]? = some (some v) := q2
      rw [q2] at z1
      cases z1
      exact ⟨a, ws, rfl, z5, z2, z3, z4⟩
    · obtain ⟨u, z1, z2, z3⟩ := E.tree i t w
      have q2 : σ[i]? = some (some v) := q2
      rw [q2] at z1
      cases z1
      exact ⟨v, rfl, z2, z3⟩
  · show lentFp S rs k = []
    unfold lentFp
    rw [List.getElem?_eq_none (by omega)]
  · obtain ⟨r, hr, q⟩ := g k _ h
    rcases q with ⟨x, _, rfl⟩ | ⟨i, xs, _, rfl, w⟩ | ⟨i, t, _, rfl, w⟩ <;> trivial
open Classical in
/-- the objects of a slot behind the callee -/
noncomputable def backFp (S S' : Sx) (rs : List R) (i : Nat) : List Addr := if h : ∃ k : Nat, rs[k]? = some (.s i) then S'.fp (choose h) else S.fp i
theorem backFp_in (hn : (slotsOf rs).Nodup) {k i : Nat} (h : rs[k]? = some (.s i)) : backFp S S' rs i = S'.fp k := by
  have hx : ∃ k : Nat, rs[k]? = some (.s i) := ⟨k, h⟩
  unfold backFp
  rw [dif_pos hx, slots_inj hn (Classical.choose_spec hx) h]
theorem backFp_out {i : Nat} (h : i ∉ slotsOf rs) : backFp S S' rs i = S.fp i := by
  unfold backFp
  rw [dif_neg fun ⟨k, hk⟩ => h (mem_slots hk)]
/-- behind the callee -/
theorem back_ok (E : EnvOk K S H σ Γ) (R : ROkAll K σ S0 H0 S H vs rs) (hb : bparams Γ rs = some ps) (hn : (slotsOf rs).Nodup) (F : Frm ⟨S.hp, lentFp S rs⟩ H (vs.map some) ps S' H' (vs.map some) qs) (E' : EnvOk K S' H' (vs.map some) qs) :
    ∃ S2 : Sx, S2.hp = S'.hp ∧ Frm S H σ Γ S2 H' σ (wback Γ rs qs) ∧ EnvOk K S2 H' σ (wback Γ rs qs) ∧ (∀ a, Own S2 a → Own S' a ∨ (Own S a ∧ ¬ Own ⟨S.hp, lentFp S rs⟩ a)) := by
  obtain ⟨hl, g⟩ := bparams_get hb
  obtain ⟨Ep, nl⟩ := lend_ok E R hb hn
  -- a slot that was lent
  have lent : ∀ {j : Nat}, j ∈ slotsOf rs → ∃ k : Nat, rs[k]? = some (.s j) ∧ j < Γ.length ∧ ∃ v, vs[k]? = some v ∧ σ[j]? = some (some v) ∧
      ((∃ xs ys, qs[k]? = some (.b ys) ∧ (Γ[j]? = some (.l xs) ∨ Γ[j]? = some (.b xs))) ∨ ∃ t t', qs[k]? = some (.p t') ∧ (Γ[j]? = some (.o t) ∨ Γ[j]? = some (.p t))) := fun {j} hj => by
    obtain ⟨k, hk⟩ := of_mem_slots hj
    have hkl : k < ps.length := by rw [hl]; exact (List.getElem?_eq_some_iff.mp hk).1
    obtain ⟨r, hr, q⟩ := g k _ (List.getElem?_eq_getElem hkl)
    rw [hk] at hr
    cases hr
    obtain ⟨v, q1, q2⟩ := ROkAll.get R hk
    have q2 : σ[j]? = some (some v) := q2
    rcases q with ⟨x, e, _⟩ | ⟨i, xs, e1, e2, w⟩ | ⟨i, t, e1, e2, w⟩
    · cases e
    · cases e1
      have hp : ps[k]? = some (.b xs) := by rw [List.getElem?_eq_getElem hkl, e2]
      obtain ⟨_, ys, hq⟩ := F.bor k xs hp
      have hjl : j < Γ.length := by rcases w with w | w <;> exact (List.getElem?_eq_some_iff.mp w).1
      exact ⟨k, hk, hjl, v, q1, q2, .inl ⟨xs, ys, hq, w⟩⟩
    · cases e1
      have hp : ps[k]? = some (.p t) := by rw [List.getElem?_eq_getElem hkl, e2]
      obtain ⟨_, t', hq⟩ := F.bop k t hp
      have hjl : j < Γ.length := by rcases w with w | w <;> exact (List.getElem?_eq_some_iff.mp w).1
      exact ⟨k, hk, hjl, v, q1, q2, .inr ⟨t, t', hq, w⟩⟩
  have off : ∀ {j : Nat} {a : Addr}, j ∉ slotsOf rs → a ∈ S.fp j → ¬ Own ⟨S.hp, lentFp S rs⟩ a := fun {j a} hj ha ⟨k, hk⟩ => by
    have hk : a ∈ lentFp S rs k := hk
    unfold lentFp at hk
    split at hk
    · rename_i i hi
      have := E.ne j i a ha hk
      subst this
      exact hj (mem_slots hi)
    · simp at hk
  have tr : ∀ a, Own ⟨S'.hp, backFp S S' rs⟩ a → Own S' a ∨ (Own S a ∧ ¬ Own ⟨S.hp, lentFp S rs⟩ a) := fun a ⟨j, hj⟩ => by
    have hj : a ∈ backFp S S' rs j := hj
    by_cases hs : j ∈ slotsOf rs
    · obtain ⟨k, hk, _⟩ := lent hs
      rw [backFp_in hn hk] at hj
      exact .inl ⟨k, hj⟩
    · rw [backFp_out hs] at hj
      exact .inr ⟨⟨j, hj⟩, off hs hj⟩
  refine ⟨⟨S'.hp, backFp S S' rs⟩, rfl, ⟨F.grow, fun b o h n => F.keep b o h fun q => n (own_lent q), fun b h1 h2 n => F.fresh b h1 h2 fun q => n (own_lent q), fun b hb => ?_, fun j xs h => ⟨rfl, ?_⟩, fun j t h => ⟨rfl, ?_⟩, wback_len⟩,
    ⟨by rw [wback_len]; exact E.len, E'.sub, fun j sl h => ?_, fun j h => ?_, fun i j a h1 h2 => ?_⟩, tr⟩
  · rcases tr b hb with q | q
    · rcases F.own b q with w | w
      · exact .inl (own_lent w)
      · exact .inr w
    · exact .inl q.1
  · by_cases hj : j ∈ slotsOf rs
    · obtain ⟨k, hk, hjl, v, _, _, ⟨xs', ys, hq, w⟩ | ⟨t, t', hq, w⟩⟩ := lent hj
      · refine ⟨ys, ?_⟩
        rw [(wback_in hn hk hq hjl).1 ys rfl]
        unfold putL
        rw [h]
        exact getset_eq h
      · rcases w with w | w <;> (rw [h] at w; cases w)
    · exact ⟨xs, by rw [wback_out hj]; exact h⟩
  · by_cases hj : j ∈ slotsOf rs
    · obtain ⟨k, hk, hjl, v, _, _, ⟨xs', ys, hq, w⟩ | ⟨t, t', hq, w⟩⟩ := lent hj
      · rcases w with w | w <;> (rw [h] at w; cases w)
      · refine ⟨t', ?_⟩
        rw [(wback_in hn hk hq hjl).2 t' rfl]
        unfold putT
        rw [h]
        exact getset_eq h
    · exact ⟨t, by rw [wback_out hj]; exact h⟩
  · by_cases hj : j ∈ slotsOf rs
    · obtain ⟨k, hk, hjl, v, hv, hσ, ⟨xs', ys, hq, w⟩ | ⟨t, t', hq, w⟩⟩ := lent hj
      · rw [(wback_in hn hk hq hjl).1 ys rfl] at h
        obtain ⟨ov, z1, a, ws, z2, z3, z4, z5, z6⟩ := E'.slot k _ hq
        rw [List.getElem?_map, hv] at z1
        cases z1
        cases z2
        refine ⟨_, hσ, ?_⟩
        show SlOk K S'.hp H' sl _ (backFp S S' rs j)
        rw [backFp_in hn hk]
        unfold putL at h
        rcases w with w | w
        · rw [w] at h
          have h : (Γ.set j (Sl.l ys))[j]? = some sl := h
          rw [List.getElem?_set_self hjl] at h
          cases h
          exact ⟨a, ws, rfl, z3, z4, z5, z6⟩
        · rw [w] at h
          have h : (Γ.set j (Sl.b ys))[j]? = some sl := h
          rw [List.getElem?_set_self hjl] at h
          cases h
          exact ⟨a, ws, rfl, z3, z4, z5, z6⟩
      · rw [(wback_in hn hk hq hjl).2 t' rfl] at h
        obtain ⟨ov, z1, u, z2, z3, z4⟩ := E'.slot k _ hq
        rw [List.getElem?_map, hv] at z1
        cases z1
        cases z2
        refine ⟨_, hσ, ?_⟩
        show SlOk K S'.hp H' sl _ (backFp S S' rs j)
        rw [backFp_in hn hk]
        unfold putT at h
        rcases w with w | w
        · rw [w] at h
          have h : (Γ.set j (Sl.o t'))[j]? = some sl := h
          rw [List.getElem?_set_self hjl] at h
          cases h
          exact ⟨v, rfl, z3, z4⟩
        · rw [w] at h
          have h : (Γ.set j (Sl.p t'))[j]? = some sl := h
          rw [List.getElem?_set_self hjl] at h
          cases h
          exact ⟨v, rfl, z3, z4⟩
    · rw [wback_out hj] at h
      obtain ⟨ov, q1, q2⟩ := E.slot j sl h
      refine ⟨ov, q1, ?_⟩
      show SlOk K S'.hp H' sl ov (backFp S S' rs j)
      rw [backFp_out hj]
      exact q2.stay F.grow (fun a ha hs => F.fresh a hs (by obtain ⟨_, o, z⟩ := own_tracked E ⟨j, ha⟩; rw [z]; intro y; cases y) (off hj ha)) fun a ha o ho => F.keep a o ho (off hj ha)
  · rw [wback_len] at h
    show backFp S S' rs j = []
    by_cases hj : j ∈ slotsOf rs
    · obtain ⟨k, hk, hjl, _⟩ := lent hj
      omega
    · rw [backFp_out hj]
      exact E.out j h
  · have h1 : a ∈ backFp S S' rs i := h1
    have h2 : a ∈ backFp S S' rs j := h2
    have mix : ∀ {i j : Nat}, i ∈ slotsOf rs → j ∉ slotsOf rs → a ∈ backFp S S' rs i → a ∈ backFp S S' rs j → False := fun {i j} hi hj h1 h2 => by
      obtain ⟨k, hk, _⟩ := lent hi
      rw [backFp_in hn hk] at h1
      rw [backFp_out hj] at h2
      rcases F.own a ⟨k, h1⟩ with q | q
      · exact off hj h2 q
      · obtain ⟨_, o, z⟩ := own_tracked E ⟨j, h2⟩
        rw [q] at z
        cases z
    by_cases hi : i ∈ slotsOf rs
    · by_cases hj : j ∈ slotsOf rs
      · obtain ⟨k, hk, _⟩ := lent hi
        obtain ⟨l, hl2, _⟩ := lent hj
        rw [backFp_in hn hk] at h1
        rw [backFp_in hn hl2] at h2
        have := E'.ne k l a h1 h2
        subst this
        rw [hk] at hl2
        cases hl2
        rfl
      · exact (mix hi hj h1 h2).elim
    · by_cases hj : j ∈ slotsOf rs
      · exact (mix hj hi h2 h1).elim
      · rw [backFp_out hi] at h1
        rw [backFp_out hj] at h2
        exact E.ne i j a h1 h2
end
section
variable {X : Cx} {k n : Nat} {f : Addr} {fd : FuncData} {ps : List Str} {M : FM} {x : Str} {p pos : Pos} {e : Expr} {es : List Expr} {t : Ge → Out (List R)}
/-- the callee, by values -/
theorem sp_of {W : WX} {S0 S : Sx} {H0 H : Hp} {σ : L2.St} {Γ0 Γ : Ge} {vs : List V} {rs : List R} {Q : VK} {K : Kx} {mg : Str → Option Value} (E : EnvOk K S H σ Γ) (F : Frm S0 H0 σ Γ0 S H σ Γ) (R : ROkAll K σ S0 H0 S H vs rs) (hl : rs.length = n)
    (G : EG K mg W S0 H0 σ Γ0 Q (callM M rs Γ)) : spM K mg n M vs H Q (fun c d H' => W c d σ H') := by
  unfold callM at G
  cases hb : bparams Γ rs with
  | none => rw [hb] at G; exact G.elim
  | some qs =>
    rw [hb] at G
    dsimp only at G
    by_cases hn : (slotsOf rs).Nodup
    · rw [if_pos hn] at G
      obtain ⟨Ep, nl⟩ := lend_ok E R hb hn
      refine ⟨⟨S.hp, lentFp S rs⟩, qs, (bparams_get hb).1.trans hl, Ep, nl, ?_⟩
      have G := EG.shift F G
      cases em : M qs with
      | no => rw [em] at G; exact G.elim
      | ex y us =>
        rw [em] at G
        intro S' H' c d F' E' q
        obtain ⟨S2, es, f1, e1, _⟩ := back_ok E R hb hn F' E'
        refine G S2 H' c d f1 e1 ?_
        obtain ⟨C, z1, z2, z3⟩ := q
        refine ⟨C, z1, z2, ?_⟩
        rw [es]
        exact z3
      | ok r us =>
        rw [em] at G
        intro S' H' v F' E' q
        obtain ⟨S2, es, f1, e1, t1⟩ := back_ok E R hb hn F' E'
        have apart : ∀ a, (¬ Own S' a ∧ (H a = none ∨ Own ⟨S.hp, lentFp S rs⟩ a)) → ¬ Own S2 a ∧ (H a = none ∨ Own S a) := fun a ⟨h4, h5⟩ => ⟨fun z => by
          rcases t1 a z with z | ⟨z, nz⟩
          · exact h4 z
          · rcases h5 with y | y
            · obtain ⟨_, o, y'⟩ := own_tracked E z
              rw [y] at y'
              cases y'
            · exact nz y, h5.elim .inl fun y => .inr (own_lent y)⟩
        cases r with
        | s _ => exact G.elim
        | d y =>
          refine G S2 H' v f1 e1 ?_
          show Dq K S2.hp v y
          rw [es]
          exact q
        | l xs =>
          obtain ⟨a, ws, rfl, h1, h2, h3, h4, h5⟩ := q
          obtain ⟨w1, w2⟩ := apart a ⟨h4, h5⟩
          exact G S2 H' _ f1 e1 ⟨a, ws, rfl, by rw [es]; exact h1, h2, by rw [es]; exact h3, w1, w2⟩
        | o t =>
          obtain ⟨Fp, h1, h2, h3⟩ := q
          exact G S2 H' v f1 e1 ⟨Fp, by rw [es]; exact h1, h2, fun a ha => apart a (h3 a ha)⟩
    · rw [if_neg hn] at G
      exact G.elim
theorem argC_len {f : EF} {t : Ge → Out (List R)} {n : Nat} (h : ∀ Γ rs Γ', t Γ = .ok rs Γ' → rs.length = n) : ∀ Γ rs Γ', argC f t Γ = .ok rs Γ' → rs.length = n + 1 := fun Γ rs Γ' q => by
  unfold argC at q
  cases e : f Γ with
  | no => rw [e] at q; cases q
  | ex _ _ => rw [e] at q; cases q
  | ok r Γ1 =>
    rw [e] at q
    have q : ((t Γ1).bind fun rs Γ2 => Out.ok (r :: rs) Γ2) = .ok rs Γ' := q
    cases e2 : t Γ1 with
    | no => rw [e2] at q; cases q
    | ex _ _ => rw [e2] at q; cases q
    | ok rs2 Γ2 =>
      rw [e2] at q
      cases q
      rw [List.length_cons, h _ _ _ e2]
theorem argN_len : ∀ Γ rs Γ', argN Γ = .ok rs Γ' → rs.length = 0 := fun Γ rs Γ' q => by cases q; rfl
/-- f(e, ..) -/
theorem px_call (F : FnOk X.prog X.w X.K X.mg X.base (L2.CX X.prog X.w) k f fd ps (spM (kx X) X.mg n M)) (hr : Room k X.A) (hg : Gl X x) (hm : X.mg x = some (.ref f)) (hk : PySem.W.keepIn X.K (.ref f) = true) (hb : Binds X.K fd ps [])
    (pa : PAx X (e :: es) t) (hl : ∀ Γ rs Γ', t Γ = .ok rs Γ' → rs.length = n) (hdb : (x == ("__debug__" : Str)) = false := by decide) (he : starEach (e :: es) X.env = (false, eval e X.env) :: starEach es X.env := by rfl) (hpl : (backTo pos (starEach es X.env)).any (·.1) = false := by rfl) :
    PX X (.Call (.Name x p) (e :: es) [] pos) (callF M t) := by
  refine ⟨fun W tk S H σ Γ Q E G => tW_of (pe_callSD (E := fun σ c d H' => W c d σ H') F hr hg hm hk hb .nil (fun σ => passAt tk σ) pa_w hdb he hpl) ?_⟩
  refine tWA_mono (pa.run W tk S H σ Γ _ E (OG.bind G)) fun vs H2 ⟨S2, rs, Γ2, eo, F2, E2, R2, G2⟩ => ?_
  rw [List.append_nil]
  exact sp_of E2 F2 R2 (hl _ _ _ eo) G2
end
end Ly
set_option maxRecDepth 100000
/-! a fresh list, handed to a def -/
namespace Ly
open PySem L2
/-- a call whose one argument may be new: it is the callee's while it runs -/
def callLM (M : FM) (rs : List R) (Γ : Ge) : Out R := match rs with
  | [.l xs] => match M [.b xs] with
    | .ok (.d x) _ => .ok (.d x) Γ
    | .ex x _ => .ex x Γ
    | _ => .no
  | [.o t] => match M [.p t] with
    | .ok (.d x) _ => .ok (.d x) Γ
    | .ex x _ => .ex x Γ
    | _ => .no
  | rs => callM M rs Γ
def callLF (M : FM) (t : Ge → Out (List R)) : EF := fun Γ => (t Γ).bind fun rs Γ1 => callLM M rs Γ1
def oneFp (F : List Addr) (k : Nat) : List Addr := if k = 0 then F else []
section
variable {X : Cx} {k n : Nat} {f : Addr} {fd : FuncData} {ps : List Str} {M : FM} {x : Str} {p pos : Pos} {e : Expr} {es : List Expr} {t : Ge → Out (List R)}
theorem own_one {S : Sx} {F : List Addr} {a : Addr} (h : Own ⟨S.hp, oneFp F⟩ a) : a ∈ F := by
  obtain ⟨k, hk⟩ := h
  have hk : a ∈ oneFp F k := hk
  unfold oneFp at hk
  split at hk
  · exact hk
  · simp at hk
theorem lent_frm {S0 S S' : Sx} {H0 H H' : Hp} {σ : L2.St} {Γ0 Γ : Ge} {ps qs : Ge} {τ : L2.St} {Fp : List Addr} {K : Kx} (E : EnvOk K S H σ Γ) (F : Frm S0 H0 σ Γ0 S H σ Γ) (hF : ∀ a ∈ Fp, ¬ Own S a ∧ (H0 a = none ∨ Own S0 a))
    (F' : Frm ⟨S.hp, oneFp Fp⟩ H τ ps S' H' τ qs) (E' : EnvOk K S' H' τ qs) : Frm S0 H0 σ Γ0 ⟨S'.hp, S.fp⟩ H' σ Γ ∧ EnvOk K ⟨S'.hp, S.fp⟩ H' σ Γ := by
  have off : ∀ {b : Addr} {o : HO}, H0 b = some o → ¬ Own S0 b → ¬ Own ⟨S.hp, oneFp Fp⟩ b := fun {b o} e n z => by
    rcases (hF b (own_one z)).2 with h | h
    · rw [e] at h; cases h
    · exact n h
  have offS : ∀ {b : Addr}, Own S b → ¬ Own ⟨S.hp, oneFp Fp⟩ b := fun {b} q z => (hF b (own_one z)).1 q
  refine ⟨⟨F.grow.trans F'.grow, fun b o e n => F'.keep b o (F.keep b o e n) (off e n), fun b s h n => ?_, fun b h => F.own b h, F.bor, F.bop, F.len⟩,
    E.heap (S' := ⟨S'.hp, S.fp⟩) F'.grow rfl E'.sub (fun a q h => F'.fresh a h (by obtain ⟨_, o, w⟩ := own_tracked E q; rw [w]; intro z; cases z) (offS q)) fun a q o h => F'.keep a o h (offS q)⟩
  cases e : H0 b with
  | none => exact absurd e h
  | some o => exact F'.fresh b (F.fresh b s h n) (by rw [F.keep b o e n]; intro z; cases z) (off e n)
theorem one_env {K : Kx} {S : Sx} {H : Hp} {sl : Sl} {v : V} {Fp : List Addr} (e : Same S.hp H) (h : SlOk K S.hp H sl (some v) Fp) : EnvOk K ⟨S.hp, oneFp Fp⟩ H [some v] [sl] := by
  refine ⟨rfl, e, fun i s2 q => ?_, fun i q => ?_, fun i j a h1 h2 => ?_⟩
  · cases i with
    | zero =>
      simp at q
      subst q
      exact ⟨_, rfl, h⟩
    | succ i => simp at q
  · show oneFp Fp i = []
    unfold oneFp
    rw [if_neg (by simp at q; omega)]
  · have h1 : a ∈ oneFp Fp i := h1
    have h2 : a ∈ oneFp Fp j := h2
    unfold oneFp at h1 h2
    split at h1
    · split at h2
      · omega
      · simp at h2
    · simp at h1
theorem sp_ofL {W : WX} {S0 S : Sx} {H0 H : Hp} {σ : L2.St} {Γ0 Γ : Ge} {vs : List V} {rs : List R} {Q : VK} {K : Kx} {mg : Str → Option Value} (E : EnvOk K S H σ Γ) (F : Frm S0 H0 σ Γ0 S H σ Γ) (R : ROkAll K σ S0 H0 S H vs rs) (hl : rs.length = n)
    (G : EG K mg W S0 H0 σ Γ0 Q (callLM M rs Γ)) : spM K mg n M vs H Q (fun c d H' => W c d σ H') := by
  have one : ∀ {sl : Sl} {v : V} {Fp : List Addr}, n = 1 → isPar sl → SlOk K S.hp H sl (some v) Fp → (∀ a ∈ Fp, ¬ Own S a ∧ (H0 a = none ∨ Own S0 a)) →
      EG K mg W S0 H0 σ Γ0 Q (match M [sl] with | .ok (.d x) _ => .ok (.d x) Γ | .ex x _ => .ex x Γ | _ => .no) → spM K mg n M [v] H Q (fun c d H' => W c d σ H') := fun {sl v Fp} hn hp hs hF G => by
    refine ⟨⟨S.hp, oneFp Fp⟩, [sl], hn.symm, one_env E.sub hs, fun i s2 q => ?_, ?_⟩
    · cases i with
      | zero =>
        simp at q
        subst q
        exact hp
      | succ i => simp at q
    · cases em : M [sl] with
      | no => rw [em] at G; exact G.elim
      | ex y us =>
        rw [em] at G
        intro S' H' c d F' E' q
        obtain ⟨f1, e1⟩ := lent_frm E F hF F' E'
        exact G _ H' c d f1 e1 q
      | ok r us =>
        rw [em] at G
        intro S' H' v F' E' q
        obtain ⟨f1, e1⟩ := lent_frm E F hF F' E'
        cases r with
        | s _ => exact G.elim
        | l _ => exact G.elim
        | o _ => exact G.elim
        | d y => exact G _ H' v f1 e1 q
  unfold callLM at G
  split at G
  · rename_i xs
    match vs, R with
    | [v], R =>
      obtain ⟨⟨a, ws, rfl, h1, h2, h3, h4, h5⟩, _⟩ := R
      exact one (sl := .b xs) (Fp := [a]) hl.symm trivial ⟨a, ws, rfl, rfl, h1, h2, h3⟩ (fun b hb => by rw [List.mem_singleton.mp hb]; exact ⟨h4, h5⟩) G
  · rename_i t
    match vs, R with
    | [v], R =>
      obtain ⟨⟨Fp, h1, h2, h3⟩, _⟩ := R
      exact one (sl := .p t) (Fp := Fp) hl.symm trivial ⟨v, rfl, h1, h2⟩ h3 G
  · exact sp_of E F R hl G
theorem px_callL (F : FnOk X.prog X.w X.K X.mg X.base (L2.CX X.prog X.w) k f fd ps (spM (kx X) X.mg n M)) (hr : Room k X.A) (hg : Gl X x) (hm : X.mg x = some (.ref f)) (hk : PySem.W.keepIn X.K (.ref f) = true) (hb : Binds X.K fd ps [])
    (pa : PAx X (e :: es) t) (hl : ∀ Γ rs Γ', t Γ = .ok rs Γ' → rs.length = n) (hdb : (x == ("__debug__" : Str)) = false := by decide) (he : starEach (e :: es) X.env = (false, eval e X.env) :: starEach es X.env := by rfl) (hpl : (backTo pos (starEach es X.env)).any (·.1) = false := by rfl) :
    PX X (.Call (.Name x p) (e :: es) [] pos) (callLF M t) := by
  refine ⟨fun W tk S H σ Γ Q E G => tW_of (pe_callSD (E := fun σ c d H' => W c d σ H') F hr hg hm hk hb .nil (fun σ => passAt tk σ) pa_w hdb he hpl) ?_⟩
  refine tWA_mono (pa.run W tk S H σ Γ _ E (OG.bind G)) fun vs H2 ⟨S2, rs, Γ2, eo, F2, E2, R2, G2⟩ => ?_
  rw [List.append_nil]
  exact sp_ofL E2 F2 R2 (hl _ _ _ eo) G2
end
end Ly
set_option maxRecDepth 100000
namespace Ly
open PySem L2

/-! ### lists of one's own, changed -/
def MutD (K : Kx) (rr : V → List V → Hp → VK → Prop) (o : List D → List D → Option (List D × D)) : Prop :=
  ∀ (S H : Hp) (a : Addr) (vs ws : List V) (xs ds ys : List D) (r : D) (Q : VK), Same S H → S a = none → H a = some (.lst vs) → DqAll K S vs xs → DqAll K S ws ds → o xs ds = some (ys, r) →
    (∀ vs' v, DqAll K S vs' ys → Dq K S v r → Q v (upd H a (.lst vs'))) → rr (.ref a) ws H Q
def slotL (Γ : Ge) (i : Nat) : Option (List D) := match Γ[i]? with
  | some (.l xs) => some xs
  | some (.b xs) => some xs
  | _ => none
theorem slotL_own {Γ : Ge} {i : Nat} {xs : List D} (h : slotL Γ i = some xs) : Γ[i]? = some (.l xs) ∨ Γ[i]? = some (.b xs) := by
  unfold slotL at h
  cases e : Γ[i]? with
  | none => rw [e] at h; cases h
  | some sl =>
    rw [e] at h
    cases sl with
    | un => cases h
    | d _ => cases h
    | l ys => cases h; exact .inl rfl
    | b ys => cases h; exact .inr rfl
    | o _ => cases h
    | p _ => cases h
def mutF (i : Nat) (o : List D → List D → Option (List D × D)) (t : Ge → Out (List R)) : EF := fun Γ => match slotL Γ i with
  | none => .no
  | some _ => (t Γ).bind fun rs Γ1 => match slotL Γ1 i, allD rs with
    | some xs, some ds => match o xs ds with
      | some (ys, r) => .ok (.d r) (putL Γ1 i ys)
      | none => .no
    | _, _ => .no
section
variable {X : Cx} {a b c e oe : Expr} {f g h : EF} {pos apos cpos : Pos} {es : List Expr} {t : Ge → Out (List R)} {name : Str} {id : String} {rr : V → List V → Hp → VK → Prop} {o : List D → List D → Option (List D × D)} {i : Nat}
theorem mut_step {W : WX} {S0 S : Sx} {H0 H : Hp} {σ : L2.St} {Γ0 Γ : Ge} {Q : VK} {a : Addr} {ws : List V} {rs : List R} (ho : MutD (kx X) rr o) (E : EnvOk (kx X) S H σ Γ) (F : Frm S0 H0 σ Γ0 S H σ Γ) (hs : σ[i]? = some (some (.ref a))) (R : ROkAll (kx X) σ S0 H0 S H ws rs)
    (G : EG (kx X) X.mg W S0 H0 σ Γ0 Q (match slotL Γ i, allD rs with
      | some xs, some ds => match o xs ds with
        | some (ys, r) => .ok (.d r) (putL Γ i ys)
        | none => .no
      | _, _ => .no)) : rr (.ref a) ws H Q := by
  cases e1 : slotL Γ i with
  | none => rw [e1] at G; exact G.elim
  | some xs =>
    cases e2 : allD rs with
    | none => rw [e1, e2] at G; exact G.elim
    | some ds =>
      rw [e1, e2] at G
      dsimp only at G
      cases e3 : o xs ds with
      | none => rw [e3] at G; exact G.elim
      | some p =>
        obtain ⟨ys, r⟩ := p
        rw [e3] at G
        have hx := slotL_own e1
        obtain ⟨c, vs, q1, q2, q3, q4⟩ := E.own i xs hx
        rw [hs] at q1
        cases q1
        refine ho S H a vs ws xs ds ys r Q E.sub q2 q3 q4 (allD_ok R e2) e3 fun vs' v h1 h2 => ?_
        obtain ⟨F', E'⟩ := mut_slot (ys := ys) E ⟨xs, hx⟩ hs q2 q3 h1
        exact G S _ v (F.trans F') E' h2
theorem own_ref {S : Sx} {H : Hp} {σ : L2.St} {Γ : Ge} {xs : List D} (E : EnvOk (kx X) S H σ Γ) (h : slotL Γ i = some xs) : ∃ a vs, σ[i]? = some (some (.ref a)) ∧ H a = some (.lst vs) := by
  obtain ⟨a, vs, q1, _, q3, _⟩ := E.own i xs (slotL_own h)
  exact ⟨a, vs, q1, q3⟩
/-- name.method(e, ..) -/
theorem px_mut {T : String} (hT : T = "list") (slot : Slot T name id) (hty : typeOf (.builtin id) = pure (.type "method_descriptor")) (hm : MtR X id rr) (ho : MutD (kx X) rr o) (hv : PE X oe (tVar i)) (pa : PAx X (e :: es) t)
    (hbase : attributeBase oe name X.env (eval oe X.env) = eval oe X.env := by rfl)
    (hfew : ((backTo cpos (starEach (e :: es) X.env)).all (fun x => !x.1) && (backToKw cpos (keywordEach [] X.env)).all (fun x => x.1.isSome)
      && decide ((e :: es).length + ([] : List Keyword).length + (if ([] : List Keyword).isEmpty then 0 else 1) < 30)) = true := by rfl)
    (hline : (apos.endLine == cpos.line) = true := by rfl) (hs : starEach (e :: es) X.env = (false, eval e X.env) :: starEach es X.env := by rfl) (hplain : (backTo cpos (starEach es X.env)).any (·.1) = false := by rfl) :
    PX X (.Call (.Attribute oe name apos) (e :: es) [] cpos) (mutF i o t) := by
  subst hT
  refine ⟨fun W tk S H σ Γ Q E G => tW_of (pe_bm PySem.F.plainAttrs_list slot hty hm hv pa_w hbase hfew hline hs hplain) ?_⟩
  unfold mutF at G
  cases e0 : slotL Γ i with
  | none => rw [e0] at G; exact G.elim
  | some xs =>
    rw [e0] at G
    obtain ⟨a, vs, h1, h2⟩ := own_ref E e0
    refine ⟨.ref a, h1, .inl ⟨rfl, _, .inl (.inl h2)⟩, ?_⟩
    refine tWA_mono (pa.run W tk S H σ Γ _ E (OG.bind G)) fun ws H2 ⟨S2, rs, Γ2, eo, F2, E2, R2, G2⟩ => ?_
    exact mut_step ho E2 F2 h1 R2 G2
/-- name.method() -/
theorem px_mut0 {T : String} (hT : T = "list") (slot : Slot T name id) (hty : typeOf (.builtin id) = pure (.type "method_descriptor")) (hm : MtR X id rr) (ho : MutD (kx X) rr o) (hv : PE X oe (tVar i))
    (hbase : attributeBase oe name X.env (eval oe X.env) = eval oe X.env := by rfl) (hline : (apos.endLine == cpos.line) = true := by rfl) : PX X (.Call (.Attribute oe name apos) [] [] cpos) (mutF i o argN) := by
  subst hT
  refine ⟨fun W tk S H σ Γ Q E G => tW_of (pe_bm0 PySem.F.plainAttrs_list slot hty hm hv hbase hline) ?_⟩
  unfold mutF at G
  cases e0 : slotL Γ i with
  | none => rw [e0] at G; exact G.elim
  | some xs =>
    rw [e0] at G
    obtain ⟨a, vs, h1, h2⟩ := own_ref E e0
    refine ⟨.ref a, h1, .inl ⟨rfl, _, .inl (.inl h2)⟩, ?_⟩
    exact mut_step (rs := []) ho E .refl h1 trivial G
/-! xs[i] = v -/
def setIx2 (i : Nat) (x : D) (ri : R) (Γ2 : Ge) : Out Fl := match view Γ2 ri, slotL Γ2 i with
  | some (.int j), some xs => match ixN xs.length j with
    | some n => .ok .nx (putL Γ2 i (xs.set n x))
    | none => .no
  | _, _ => .no
def setIx1 (i : Nat) (x : D) (k : EF) (Γ1 : Ge) : Out Fl := match slotL Γ1 i with
  | some _ => (k Γ1).bind fun ri Γ2 => setIx2 i x ri Γ2
  | none => .no
def setIx (i : Nat) (f k : EF) : SF := fun Γ => (f Γ).bind fun r Γ1 => match r with
  | .d x => setIx1 i x k Γ1
  | _ => .no
theorem psx_setIx {tp : Pos} (hv : PE X oe (tVar i)) (pf : PX X e f) (pk : PX X a g) (hs : swapsWithSole [.Subscript oe a tp] e pos.line X.env = pure false := by rfl) (hw : swappedStores [.Subscript oe a tp] e X.env = pure none := by rfl)
    (h1 : (assignEach [.Subscript oe a tp] X.env).map (·.2) = [assign (.Subscript oe a tp) X.env] := by rfl) (hpl : PG X (.Subscript oe a tp) (gSub (tVar i) (tW X a) rSetL)) : PSx X (.Assign [.Subscript oe a tp] e pos) (setIx i f g) := by
  refine ⟨fun W tk S H σ Γ Z E G => tWS_of (ps_asg pe_w hpl hs hw h1) ?_⟩
  refine tW_mono (pf.run W tk S H σ Γ _ E (SG.bind G)) fun v H1 ⟨S1, r, Γ1, e1, F1, E1, R1, G1⟩ => ?_
  cases r with
  | l _ => exact G1.elim
  | s _ => exact G1.elim
  | o _ => exact G1.elim
  | d x =>
    have G1 : SG (kx X) X.mg W S H σ Γ Z (setIx1 i x g Γ1) := G1
    unfold setIx1 at G1
    cases e0 : slotL Γ1 i with
    | none => rw [e0] at G1; exact G1.elim
    | some xs0 =>
      rw [e0] at G1
      obtain ⟨c, vs, q1, _⟩ := own_ref E1 e0
      refine ⟨.ref c, q1, ?_⟩
      refine tW_mono (pk.run W tk S1 H1 σ Γ1 _ E1 (SG.bind (SG.shift F1 G1))) fun u H2 ⟨S2, ri, Γ2, e2, F2, E2, R2, _⟩ => ?_
      have G2 : SG (kx X) X.mg W S H σ Γ Z ((g Γ1).bind fun ri Γ2 => setIx2 i x ri Γ2) := G1
      rw [e2] at G2
      have G2 : SG (kx X) X.mg W S H σ Γ Z (setIx2 i x ri Γ2) := G2
      unfold setIx2 at G2
      cases e3 : view Γ2 ri with
      | none => rw [e3] at G2; exact G2.elim
      | some d =>
        cases e4 : slotL Γ2 i with
        | none => rw [e3, e4] at G2; cases d <;> exact G2.elim
        | some xs =>
          rw [e3, e4] at G2
          cases d <;> first
            | exact G2.elim
            | skip
          rename_i j
          dsimp only at G2
          cases e5 : ixN xs.length j with
          | none => rw [e5] at G2; exact G2.elim
          | some n =>
            rw [e5] at G2
            have hx := slotL_own e4
            obtain ⟨c', vs2, w1, w2, w3, w4⟩ := E2.own i xs hx
            rw [q1] at w1
            cases w1
            have hj := (R2.vw E2 e3).int
            subst hj
            obtain ⟨F', E'⟩ := mut_slot (ys := xs.set n x) E2 ⟨xs, hx⟩ q1 w2 w3 (DqAll.set (Same.dp F2.grow R1) n w4)
            exact ⟨c, vs2, j, n, rfl, rfl, w3, by rw [DqAll.length w4]; exact e5, G2 S2 _ σ ((F1.trans F2).trans F') E'⟩
end

/-! ### the rules of the methods -/
section
variable {X : Cx}
def appendM : List D → List D → Option (List D × D) := fun xs ds => match ds with
    | [d] => if xs.length < 1000000 then some (xs ++ [d], .none) else none
    | _ => none
theorem mutD_append {K : Kx} : MutD K rAppend appendM := by
  intro S H a vs ws xs ds ys r Q hS h1 h2 h3 h4 h5 q
  cases h4 with
  | nil => cases h5
  | cons hd ht =>
    cases ht with
    | cons _ _ => cases h5
    | nil =>
      rename_i w d
      simp only [appendM] at h5
      by_cases hl : xs.length < 1000000
      · rw [if_pos hl] at h5
        cases h5
        exact ⟨a, vs, w, rfl, rfl, h2, by rw [DqAll.length h3]; exact Nat.lt_of_lt_of_le hl (by decide), q _ .non (DqAll.append h3 (.cons hd .nil)) .non⟩
      · rw [if_neg hl] at h5
        cases h5
def clearM : List D → List D → Option (List D × D) := fun _ ds => match ds with
    | [] => some ([], .none)
    | _ => none
theorem mutD_clear {K : Kx} : MutD K rClear clearM := by
  intro S H a vs ws xs ds ys r Q hS h1 h2 h3 h4 h5 q
  cases h4 with
  | cons _ _ => cases h5
  | nil =>
    cases h5
    exact ⟨a, vs, rfl, rfl, h2, q _ .non .nil .non⟩
theorem DqAll.dropLast {K : Kx} {S : Hp} {vs : List V} {ds : List D} (h : DqAll K S vs ds) : DqAll K S vs.dropLast ds.dropLast := by
  rw [List.dropLast_eq_take, List.dropLast_eq_take, DqAll.length h]
  exact DqAll.take _ h
def popM : List D → List D → Option (List D × D) := fun xs ds => match ds with
    | [] => (xs[xs.length - 1]?).map fun d => (xs.dropLast, d)
    | _ => none
theorem mutD_pop {K : Kx} : MutD K rPop popM := by
  intro S H a vs ws xs ds ys r Q hS h1 h2 h3 h4 h5 q
  cases h4 with
  | cons _ _ => cases h5
  | nil =>
    simp only [popM] at h5
    cases e : xs[xs.length - 1]? with
    | none => rw [e] at h5; cases h5
    | some d =>
      rw [e] at h5
      cases h5
      obtain ⟨v, w1, w2⟩ := DqAll.get h3 e
      exact ⟨a, vs, v, rfl, rfl, h2, by rw [DqAll.length h3]; exact w1, q _ v (DqAll.dropLast h3) w2⟩
/-- the list that is read may be the frozen script -/
def rExtendR (K : Kx) : V → List V → Hp → VK → Prop := fun x vs H Q => ∃ l b xs zs, x = .ref l ∧ vs = [.ref b] ∧ H l = some (.lst xs) ∧ Ls K H b zs ∧ xs.length + zs.length ≤ sizeLine ∧ Q .non (upd H l (.lst (xs ++ zs)))
theorem mt_extendR : MtR X "list.extend" (rExtendR (kx X)) := by
  intro pins s σ H x vs v us Q I rx rv h
  obtain ⟨l, b, xs, zs, rfl, rfl, hH, hB, hz, q⟩ := h
  cases rx
  obtain ⟨u, rfl, ru⟩ := rv.one
  cases ru
  obtain ⟨z, its, n, r, hl, e⟩ := I.lstM hH
  obtain ⟨z2, its2, n2, r2, e2⟩ := hB.obj I
  have hl2 := r2.length
  have hsz : its.toArray.size + its2.toArray.size ≤ sizeLine := by rw [List.size_toArray, List.size_toArray]; omega
  have hlong : ¬ (!its.toArray.isEmpty && Builtin.List.listTooLong (its.toArray.size + its2.toArray.size)) = true := by
    rw [notLongL hsz, Bool.and_false]
    exact Bool.false_ne_true
  refine call_meets PySem.F.slot_list_extend ⟨_, e, rfl⟩ PySem.F.entry_list_extend (PySem.F.args_list_extend_2 _ _)
    (AutoSeq1.list_extend_list_list_0 l its.toArray n b its2.toArray n2 hlong (by rw [List.size_toArray]; have := sizeLine_eq; omega) (by omega)) ⟨e, e2, ?_⟩
  refine ⟨.non, _, I.lset (its' := its ++ its2) hH e (by simp) (r.append r2) ?_, rfl, q⟩
  rw [List.length_append]
  omega
def extendM : List D → List D → Option (List D × D) := fun xs ds => match ds with
    | [.list zs] => if xs.length + zs.length < 1000000 then some (xs ++ zs, .none) else none
    | _ => none
theorem mutD_extend {K : Kx} : MutD K (rExtendR K) extendM := by
  intro S H a vs ws xs ds ys r Q hS h1 h2 h3 h4 h5 q
  cases h4 with
  | nil => cases h5
  | cons hd ht =>
    cases ht with
    | cons _ _ => rename_i d _ _ _ _ _ _; cases d <;> cases h5
    | nil =>
      rename_i w d
      cases d <;> first
        | (cases h5; done)
        | skip
      rename_i zs
      simp only [extendM] at h5
      by_cases hl : xs.length + zs.length < 1000000
      · rw [if_pos hl] at h5
        cases h5
        cases hd with
        | lst hr ha =>
          refine ⟨a, _, vs, _, rfl, rfl, h2, Same.ls hS hr, ?_, q _ .non (DqAll.append h3 ha) .non⟩
          rw [DqAll.length h3, DqAll.length ha]
          exact Nat.le_of_lt (Nat.lt_of_lt_of_le hl (by decide))
      · rw [if_neg hl] at h5
        cases h5
end
end Ly
set_option maxRecDepth 100000
namespace Ly
open PySem L2

/-! ### comprehensions -/
def wipeG (Γ : Ge) : List Nat → Ge
  | [] => Γ
  | v :: vs => (wipeG Γ vs).set v .un
theorem wipeG_len (Γ : Ge) : ∀ vs : List Nat, (wipeG Γ vs).length = Γ.length
  | [] => rfl
  | v :: vs => by unfold wipeG; rw [List.length_set, wipeG_len Γ vs]
theorem wipeG_out {Γ : Ge} {j : Nat} : ∀ {vs : List Nat}, j ∉ vs → (wipeG Γ vs)[j]? = Γ[j]?
  | [], _ => rfl
  | v :: vs, h => by
    unfold wipeG
    rw [getset_ne (fun e => h (by simp [e])), wipeG_out (fun e => h (by simp [e]))]
theorem wipeG_in {Γ : Ge} {j : Nat} : ∀ {vs : List Nat} {sl : Sl}, j ∈ vs → (wipeG Γ vs)[j]? = some sl → sl = .un
  | [], _, h, _ => by simp at h
  | v :: vs, sl, h, e => by
    unfold wipeG at e
    rcases getset e with ⟨_, q⟩ | ⟨n, q⟩
    · exact q
    · rcases List.mem_cons.mp h with z | z
      · exact absurd z n
      · exact wipeG_in z q
theorem wipe_out' {σ : L2.St} {j : Nat} {vs : List Nat} (h : j ∉ vs) : (wipe σ vs)[j]? = σ[j]? := wipe_out h
def restG (Γ1 Γ : Ge) : List Nat → Ge
  | [] => Γ
  | v :: vs => (restG Γ1 Γ vs).set v ((Γ1[v]?).getD .un)
theorem restG_len {Γ1 Γ : Ge} : ∀ vs : List Nat, (restG Γ1 Γ vs).length = Γ.length
  | [] => rfl
  | v :: vs => by unfold restG; rw [List.length_set, restG_len vs]
theorem restG_out {Γ1 Γ : Ge} {j : Nat} : ∀ {vs : List Nat}, j ∉ vs → (restG Γ1 Γ vs)[j]? = Γ[j]?
  | [], _ => rfl
  | v :: vs, h => by
    unfold restG
    rw [getset_ne (fun e => h (by simp [e])), restG_out (fun e => h (by simp [e]))]
theorem restG_in {Γ1 Γ : Ge} {j : Nat} (hl : Γ.length = Γ1.length) : ∀ {vs : List Nat} {sl : Sl}, j ∈ vs → (restG Γ1 Γ vs)[j]? = some sl → Γ1[j]? = some sl
  | [], _, h, _ => by simp at h
  | v :: vs, sl, h, e => by
    have hj : j < Γ1.length := by
      have := (List.getElem?_eq_some_iff.mp e).1
      rw [restG_len] at this
      omega
    unfold restG at e
    rcases getset e with ⟨z, q⟩ | ⟨n, q⟩
    · subst z
      rw [q, List.getElem?_eq_getElem hj]
      rfl
    · rcases List.mem_cons.mp h with z | z
      · exact absurd z n
      · exact restG_in hl z q
/-- the block's own slots hold no list of one's own ahead of it -/
def plainAt (Γ : Ge) : List Nat → Bool
  | [] => true
  | v :: vs => (match Γ[v]? with
    | some .un => true
    | some (.d _) => true
    | _ => false) && plainAt Γ vs
def Sx.wipe (S : Sx) (vs : List Nat) : Sx := ⟨S.hp, fun j => if j ∈ vs then [] else S.fp j⟩
section
variable {K : Kx} {S S' : Sx} {H H' : Hp} {σ σ' : L2.St} {Γ Γ1 Γ' : Ge} {vs : List Nat}
theorem own_wipe {a : Addr} (h : Own (S.wipe vs) a) : Own S a := by
  obtain ⟨j, hj⟩ := h
  have hj : a ∈ (if j ∈ vs then [] else S.fp j) := hj
  split at hj
  · simp at hj
  · exact ⟨j, hj⟩
theorem wipe_fp {j : Nat} (h : j ∉ vs) : (S.wipe vs).fp j = S.fp j := if_neg h
theorem wipe_fp' {j : Nat} (h : j ∈ vs) : (S.wipe vs).fp j = [] := if_pos h
theorem plain_fp (E : EnvOk K S H σ Γ) (hp : plainAt Γ vs = true) {j : Nat} (hj : j ∈ vs) : S.fp j = [] := by
  induction vs with
  | nil => simp at hj
  | cons v vs ih =>
    simp only [plainAt, Bool.and_eq_true] at hp
    rcases List.mem_cons.mp hj with e | h
    · subst e
      cases q : Γ[j]? with
      | none => exact E.out j (List.getElem?_eq_none_iff.mp q)
      | some sl =>
        rw [q] at hp
        obtain ⟨ov, _, z⟩ := E.slot j sl q
        cases sl with
        | un => exact z
        | d x => exact z.1
        | l _ => exact absurd hp.1 (by simp)
        | b _ => exact absurd hp.1 (by simp)
        | o _ => exact absurd hp.1 (by simp)
        | p _ => exact absurd hp.1 (by simp)
    · exact ih hp.2 h
theorem wipe_plain (E : EnvOk K S H σ Γ) (hp : plainAt Γ vs = true) : S.wipe vs = S := by
  have : ∀ j, (if j ∈ vs then [] else S.fp j) = S.fp j := fun j => by
    split
    · rename_i h
      exact (plain_fp E hp h).symm
    · rfl
  cases S with
  | mk hp fp =>
    unfold Sx.wipe
    congr 1
    funext j
    exact this j
theorem EnvOk.wipe (E : EnvOk K S H σ Γ) : EnvOk K (S.wipe vs) H (wipe σ vs) (wipeG Γ vs) := by
  refine ⟨by rw [wipe_length, wipeG_len]; exact E.len, E.sub, fun j sl h => ?_, fun j h => ?_, fun j k a h1 h2 => ?_⟩
  · by_cases hn : j ∈ vs
    · have := wipeG_in hn h
      subst this
      have hl : j < (L2.wipe σ vs).length := by
        have := (List.getElem?_eq_some_iff.mp h).1
        rw [wipeG_len] at this
        rw [wipe_length, E.len]
        exact this
      exact ⟨_, List.getElem?_eq_getElem hl, wipe_fp' hn⟩
    · rw [wipeG_out hn] at h
      rw [wipe_out hn, wipe_fp hn]
      exact E.slot j sl h
  · rw [wipeG_len] at h
    by_cases hn : j ∈ vs
    · exact wipe_fp' hn
    · rw [wipe_fp hn]
      exact E.out j h
  · have n1 : j ∉ vs := fun z => by rw [wipe_fp' z] at h1; simp at h1
    have n2 : k ∉ vs := fun z => by rw [wipe_fp' z] at h2; simp at h2
    rw [wipe_fp n1] at h1
    rw [wipe_fp n2] at h2
    exact E.ne j k a h1 h2
theorem plain_not {sl : Sl} (hp : plainAt Γ vs = true) {j : Nat} (h : Γ[j]? = some sl) (hj : j ∈ vs) : sl = .un ∨ ∃ x, sl = .d x := by
  induction vs with
  | nil => simp at hj
  | cons v vs ih =>
    simp only [plainAt, Bool.and_eq_true] at hp
    rcases List.mem_cons.mp hj with e | q
    · subst e
      rw [h] at hp
      cases sl with
      | un => exact .inl rfl
      | d x => exact .inr ⟨x, rfl⟩
      | l _ => exact absurd hp.1 (by simp)
      | b _ => exact absurd hp.1 (by simp)
      | o _ => exact absurd hp.1 (by simp)
      | p _ => exact absurd hp.1 (by simp)
    · exact ih hp.2 q
theorem Frm.wipe0 (hp : plainAt Γ vs = true) : Frm S H σ Γ S H (wipe σ vs) (wipeG Γ vs) :=
  ⟨Same.refl _, fun _ _ h _ => h, fun _ h _ _ => h, fun b h => .inl h, fun j xs h => by
    have n : j ∉ vs := fun z => by rcases plain_not hp h z with q | ⟨_, q⟩ <;> cases q
    exact ⟨wipe_out n, xs, by rw [wipeG_out n]; exact h⟩, fun j xs h => by
    have n : j ∉ vs := fun z => by rcases plain_not hp h z with q | ⟨_, q⟩ <;> cases q
    exact ⟨wipe_out n, xs, by rw [wipeG_out n]; exact h⟩, wipeG_len _ _⟩
/-- a turn's end, wiped again; base: the block's start -/
theorem Frm.wipeE {S0 : Sx} {H0 : Hp} {Γ0 : Ge} (F : Frm S0 H0 (wipe σ vs) (wipeG Γ0 vs) S H σ' Γ) (e : wipe σ' vs = wipe σ vs) : Frm S0 H0 (wipe σ vs) (wipeG Γ0 vs) (S.wipe vs) H (wipe σ vs) (wipeG Γ vs) := by
  refine ⟨F.grow, F.keep, F.fresh, fun b h => F.own b (own_wipe h), fun j xs h => ?_, fun j xs h => ?_, by rw [wipeG_len, F.len]⟩
  · have n : j ∉ vs := fun z => by cases wipeG_in z h
    obtain ⟨_, ys, h2⟩ := F.bor j xs h
    exact ⟨rfl, ys, by rw [wipeG_out n]; exact h2⟩
  · have n : j ∉ vs := fun z => by cases wipeG_in z h
    obtain ⟨_, ys, h2⟩ := F.bop j xs h
    exact ⟨rfl, ys, by rw [wipeG_out n]; exact h2⟩
/-- the end: the def's own slots again -/
theorem back_rest (E1 : EnvOk K S H σ Γ1) (hp : plainAt Γ1 vs = true) (F : Frm S H (wipe σ vs) (wipeG Γ1 vs) S' H' (wipe σ vs) Γ) (E : EnvOk K S' H' (wipe σ vs) Γ) :
    Frm S H σ Γ1 (S'.wipe vs) H' σ (restG Γ1 Γ vs) ∧ EnvOk K (S'.wipe vs) H' σ (restG Γ1 Γ vs) ∧ (∀ a, Own (S'.wipe vs) a → Own S' a) := by
  have hl : Γ.length = Γ1.length := by rw [F.len, wipeG_len]
  refine ⟨⟨F.grow, F.keep, F.fresh, fun b h => F.own b (own_wipe h), fun j xs h => ⟨rfl, ?_⟩, fun j xs h => ⟨rfl, ?_⟩, by rw [restG_len, hl]⟩,
    ⟨by rw [restG_len, hl]; exact E1.len, E.sub, fun j sl h => ?_, fun j h => ?_, fun j k a h1 h2 => ?_⟩, fun a h => own_wipe h⟩
  · have n : j ∉ vs := fun z => by rcases plain_not hp h z with q | ⟨_, q⟩ <;> cases q
    obtain ⟨_, ys, h2⟩ := F.bor j xs (by rw [wipeG_out n]; exact h)
    exact ⟨ys, by rw [restG_out n]; exact h2⟩
  · have n : j ∉ vs := fun z => by rcases plain_not hp h z with q | ⟨_, q⟩ <;> cases q
    obtain ⟨_, ys, h2⟩ := F.bop j xs (by rw [wipeG_out n]; exact h)
    exact ⟨ys, by rw [restG_out n]; exact h2⟩
  · by_cases n : j ∈ vs
    · have h1 := restG_in hl n h
      obtain ⟨ov, q1, q2⟩ := E1.slot j sl h1
      refine ⟨ov, q1, ?_⟩
      rw [wipe_fp' n]
      rcases plain_not hp h1 n with e | ⟨x, e⟩
      · subst e
        rfl
      · subst e
        obtain ⟨_, v, e1, e2⟩ := q2
        exact ⟨rfl, v, e1, Same.dp F.grow e2⟩
    · rw [restG_out n] at h
      rw [wipe_fp n]
      have := E.slot j sl h
      rw [wipe_out n] at this
      exact this
  · rw [restG_len] at h
    by_cases n : j ∈ vs
    · exact wipe_fp' n
    · rw [wipe_fp n]
      exact E.out j h
  · have n1 : j ∉ vs := fun z => by rw [wipe_fp' z] at h1; simp at h1
    have n2 : k ∉ vs := fun z => by rw [wipe_fp' z] at h2; simp at h2
    rw [wipe_fp n1] at h1
    rw [wipe_fp n2] at h2
    exact E.ne j k a h1 h2
/-- a tracked object that is nobody's is changed -/
theorem EnvOk.updN {L : Addr} {o : HO} (E : EnvOk K S H σ Γ) (hs : S.hp L = none) (hn : ¬ Own S L) : EnvOk K S (upd H L o) σ Γ :=
  E.heap (Same.refl _) rfl (fun b u h => by rw [upd_ne (fun e : b = L => by rw [e, hs] at h; cases h)]; exact E.sub b u h) (fun _ _ h => h) fun a q u h => by
    rw [upd_ne (fun e : a = L => hn (e ▸ q))]
    exact h
end

theorem wipe_self {τ : L2.St} : ∀ {us : List Nat}, (∀ (u : Nat) (v : V), u ∈ us → τ[u]? ≠ some (some v)) → wipe τ us = τ
  | [], _ => rfl
  | w :: us, h => by
    unfold wipe
    rw [wipe_self (fun u v hu => h u v (List.mem_cons_of_mem _ hu))]
    refine List.ext_getElem? fun j => ?_
    by_cases ej : j = w
    · subst ej
      cases q : τ[j]? with
      | none =>
        have hlj : τ.length ≤ j := List.getElem?_eq_none_iff.mp q
        rw [List.getElem?_eq_none (by rw [List.length_set]; exact hlj)]
      | some ov =>
        rw [getset_eq q]
        cases ov with
        | none => rfl
        | some v => exact absurd q (h j v (by simp))
    · rw [getset_ne ej]
theorem wipe_idem {σ : L2.St} {vs : List Nat} : wipe (wipe σ vs) vs = wipe σ vs := wipe_self fun u v hu q => (wipe_some q).2 hu

/-! targets of a block: they store to the block's own slots alone -/
structure PGc (X : Cx) (vs : List Nat) (tg : Expr) (g : GF) : Prop where
  run : ∀ (W : WX), Takes X W → ∀ (S0 : Sx) (H0 : Hp) (σ0 : L2.St) (Γ0 : Ge) (S : Sx) (H : Hp) (σ : L2.St) (Γ : Ge) (v : V) (r : R) (Q : L2.St → Hp → Prop), Frm S0 H0 σ0 Γ0 S H σ Γ → EnvOk (kx X) S H σ Γ → ROk (kx X) S0 H0 S H σ v r →
    UG (kx X) S0 H0 σ0 Γ0 Q (g r Γ) → tWG X tg v σ H (fun σ' H' => wipe σ' vs = wipe σ vs ∧ Q σ' H')
structure PGcs (X : Cx) (vs : List Nat) (ts : List Expr) (g : List D → Ge → Out Unit) : Prop where
  run : ∀ (W : WX), Takes X W → ∀ (S0 : Sx) (H0 : Hp) (σ0 : L2.St) (Γ0 : Ge) (S : Sx) (H : Hp) (σ : L2.St) (Γ : Ge) (ws : List V) (ds : List D) (Q : L2.St → Hp → Prop), Frm S0 H0 σ0 Γ0 S H σ Γ → EnvOk (kx X) S H σ Γ → DqAll (kx X) S ws ds →
    UG (kx X) S0 H0 σ0 Γ0 Q (g ds Γ) → tWGs X ts ws σ H (fun σ' H' => wipe σ' vs = wipe σ vs ∧ Q σ' H')
theorem wipe_set {σ : L2.St} {i : Nat} {x : Option V} : ∀ {vs : List Nat}, i ∈ vs → wipe (σ.set i x) vs = wipe σ vs
  | [], h => by simp at h
  | v :: vs, h => by
    unfold wipe
    by_cases z : i ∈ vs
    · rw [wipe_set z]
    · rcases List.mem_cons.mp h with e | e
      · subst e
        have : ∀ {ws : List Nat}, i ∉ ws → wipe (σ.set i x) ws = (wipe σ ws).set i x := fun {ws} hn => by
          induction ws with
          | nil => rfl
          | cons w ws ih =>
            have hw : i ≠ w := fun e => hn (by simp [e])
            unfold wipe
            rw [ih (fun e => hn (by simp [e])), List.set_comm _ _ hw]
        rw [this z, List.set_set]
      · exact absurd e z
section
variable {X : Cx} {tg iter elt c : Expr} {tgs : List Expr} {pos : Pos} {vs : List Nat}
theorem pgc_name {i : Nat} {x : Str} (hg : PG X (.Name x pos) (gName i)) (hi : i ∈ vs) : PGc X vs (.Name x pos) (gN i) :=
  ⟨fun W tk S0 H0 σ0 Γ0 S H σ Γ v r Q F E R G => tWG_of hg ⟨wipe_set hi, setN_ok F E R G⟩⟩
theorem pgcs_nil : PGcs X vs [] gsN := by
  refine ⟨fun W tk S0 H0 σ0 Γ0 S H σ Γ ws ds Q F E R G => tWGs_of pgs_nil ?_⟩
  cases R with
  | nil => exact ⟨rfl, rfl, G S H σ F E⟩
  | cons _ _ => exact G.elim
theorem pgcs_cons {gf : GF} {tf : List D → Ge → Out Unit} (h1 : PGc X vs tg gf) (h2 : PGcs X vs tgs tf)
    (hs : (assignEach (tg :: tgs) X.env).map (·.2) = assign tg X.env :: (assignEach tgs X.env).map (·.2) := by rfl) : PGcs X vs (tg :: tgs) (gsC gf tf) := by
  refine ⟨fun W tk S0 H0 σ0 Γ0 S H σ Γ ws ds Q F E R G => tWGs_of (pgs_cons pg_w pgs_w hs) ?_⟩
  cases R with
  | nil => exact G.elim
  | cons r1 r2 =>
    rename_i v ws d ds
    refine ⟨v, ws, rfl, ?_⟩
    have G : UG (kx X) S0 H0 σ0 Γ0 Q ((gf (.d d) Γ).bind fun _ Γ1 => tf ds Γ1) := G
    cases eo : gf (.d d) Γ with
    | no => rw [eo] at G; exact G.elim
    | ex _ _ => rw [eo] at G; exact G.elim
    | ok u Γ1 =>
      rw [eo] at G
      refine tWG_mono (h1.run W tk S H σ Γ S H σ Γ v (.d d) (fun σ' H' => tWGs X tgs ws σ' H' (fun σ2 H2 => wipe σ2 vs = wipe σ' vs ∧ Q σ2 H2)) .refl E r1 ?_) (fun σ' H' ⟨e, q⟩ => ?_)
      · rw [eo]
        exact fun S' H' σ' F' E' => h2.run W tk S0 H0 σ0 Γ0 S' H' σ' Γ1 ws ds Q (F.trans F') E' (Same.dpAll F'.grow r2) G
      · rw [e] at q
        exact q
theorem pgc_tup {k n : Nat} {tf : List D → Ge → Out Unit} (hc : X.calm = true) (h : PGcs X vs tgs tf) (hn : (assignEach tgs X.env).length = n := by rfl) (hst : (assignEach tgs X.env).findIdx? (·.1) = none := by rfl) : PGc X vs (.Tuple tgs k pos) (gTp n tf) := by
  refine ⟨fun W tk S0 H0 σ0 Γ0 S H σ Γ v r Q F E R G => tWG_of (pg_tup hc pgs_w hn hst) ?_⟩
  cases r with
  | l _ => exact G.elim
  | s _ => exact G.elim
  | o _ => exact G.elim
  | d z =>
    cases z <;> first
      | exact G.elim
      | skip
    rename_i xs
    have G : UG (kx X) S0 H0 σ0 Γ0 Q (if xs.length = n then tf xs Γ else .no) := G
    by_cases hl : xs.length = n
    · rw [if_pos hl] at G
      cases R with
      | tup hs ha => exact ⟨_, _, rfl, Same.seqT E.sub hs, (DqAll.length ha).trans hl, h.run W tk S0 H0 σ0 Γ0 S H σ Γ _ xs Q F E ha G⟩
    · rw [if_neg hl] at G
      exact G.elim

/-! the block -/
def testsL (X : Cx) (ifs : List Expr) : Sem Bool := forIn ifs true fun c r => if r = true then do let ok ← isTrue c X.env (eval c X.env); pure (ForInStep.yield ok) else pure (ForInStep.yield r)
structure PTsx (X : Cx) (ifs : List Expr) (f : BF) : Prop where
  run : ∀ (W : WX), Takes X W → ∀ (S : Sx) (H : Hp) (σ : L2.St) (Γ : Ge) (Q : Bool → Hp → Prop), EnvOk (kx X) S H σ Γ → TG' (kx X) X.mg W S H σ Γ Q (f Γ) → ∀ pins s, Inv X pins σ H s → wpAny (model X.prog X.w) X.A (testsL X ifs) (TP X pins σ Q) X.xe s
def yesB : BF := fun Γ => .ok true Γ
theorem ptsx_nil : PTsx X [] yesB := ⟨fun W tk S H σ Γ Q E G pins s I => pts_nil.run pins s σ H Q I (G S H true .refl E rfl)⟩
theorem ptsx_one {u : BF} (h : PTx X c u) : PTsx X [c] u := ⟨fun W tk S H σ Γ Q E G pins s I => (pts_one pt_w).run pins s σ H Q I (h.run W tk S H σ Γ Q E G)⟩
def lcLoop (g : GF) (u : BF) (e : EF) (vs : List Nat) : List D → List D → Ge → Out (List D)
  | [], acc, Γ => .ok acc Γ
  | d :: ds, acc, Γ => match g (.d d) Γ with
    | .ok _ Γ1 => match u Γ1 with
      | .ok true Γ2 => match e Γ2 with
        | .ok (.d y) Γ3 => if acc.length < 1000000 then lcLoop g u e vs ds (acc ++ [y]) (wipeG Γ3 vs) else .no
        | _ => .no
      | .ok false Γ2 => lcLoop g u e vs ds acc (wipeG Γ2 vs)
      | _ => .no
    | _ => .no
def lcF (it : LF) (g : GF) (u : BF) (e : EF) (vs : List Nat) : EF := fun Γ => (it Γ).bind fun ds Γ1 => if plainAt Γ1 vs = true then match lcLoop g u e vs ds [] (wipeG Γ1 vs) with
    | .ok xs Γ2 => .ok (.l xs) (restG Γ1 Γ2 vs)
    | _ => .no
  else .no
def tWTs (X : Cx) (ifs : List Expr) : TT := fun σ H Q => ∀ pins s, Inv X pins σ H s → wpAny (model X.prog X.w) X.A (testsL X ifs) (TP X pins σ Q) X.xe s
theorem pts_w {ifs : List Expr} : PTs X ifs (tWTs X ifs) := ⟨fun pins s _ _ _ I h => h pins s I⟩
/-- all contexts of the block at once -/
def gAll (X : Cx) (scope : Scope) (tg : Expr) : TG := fun v σ H Q => ∀ (s : Shared) (H0 : Hp) (C : Addr) (cl : List (Str × Addr)) (fp : List Addr), tWG (X.blk s H0 scope (compEnvC scope cl C X.env) fp) tg v σ H Q
def tAll (X : Cx) (scope : Scope) (ifs : List Expr) : TT := fun σ H Q => ∀ (s : Shared) (H0 : Hp) (C : Addr) (cl : List (Str × Addr)) (fp : List Addr), tWTs (X.blk s H0 scope (compEnvC scope cl C X.env) fp) ifs σ H Q
def eAll (X : Cx) (scope : Scope) (e : Expr) : TE := fun σ H Q => ∀ (s : Shared) (H0 : Hp) (C : Addr) (cl : List (Str × Addr)) (fp : List Addr), tW (X.blk s H0 scope (compEnvC scope cl C X.env) fp) e σ H Q
theorem lc_run {ifs : List Expr} {scope : Scope} {it : LF} {g : GF} {u : BF} {f : EF} {W : WX} {S0 : Sx} {H0 : Hp} {σ : L2.St} {Γ0 : Ge} {Q : VK} (tk : Takes X W) (hi : PIx X tg iter it)
    (hg : ∀ (s : Shared) (H : Hp) (C : Addr) (cl : List (Str × Addr)) (fp : List Addr), PGc (X.blk s H scope (compEnvC scope cl C X.env) fp) vs tg g) (hx : NoEx g)
    (ht : ∀ (s : Shared) (H : Hp) (C : Addr) (cl : List (Str × Addr)) (fp : List Addr), PTsx (X.blk s H scope (compEnvC scope cl C X.env) fp) ifs u)
    (he : ∀ (s : Shared) (H : Hp) (C : Addr) (cl : List (Str × Addr)) (fp : List Addr), PX (X.blk s H scope (compEnvC scope cl C X.env) fp) elt f)
    (E0 : EnvOk (kx X) S0 H0 σ Γ0) (G0 : EG (kx X) X.mg W S0 H0 σ Γ0 Q (lcF it g u f vs Γ0)) : tLc (tWI X tg iter) (gAll X scope tg) (tAll X scope ifs) (eAll X scope elt) vs σ H0 Q := by
  refine tWI_mono (hi.run W tk S0 H0 σ Γ0 _ E0 (OG.bind G0)) fun J H1 ⟨S1, ds, Γ1, _, F1, E1, hJ, G1⟩ => ?_
  by_cases hp : plainAt Γ1 vs = true
  rotate_left
  · rw [if_neg hp] at G1; exact G1.elim
  rw [if_pos hp] at G1
  generalize hR : lcLoop g u f vs ds [] (wipeG Γ1 vs) = OO at G1
  intro L hL
  -- what stands between two turns
  have Ew := E1.wipe (vs := vs)
  rw [wipe_plain E1 hp] at Ew
  have Fw := Frm.wipe0 (S := S1) (H := H1) (σ := σ) hp
  refine ⟨fun i m H => m = ds.length - i ∧ i ≤ ds.length ∧ ∃ (S : Sx) (Γ : Ge) (acc : List D) (vacc : List V), Same S1 S ∧ Frm S1 H1 (wipe σ vs) (wipeG Γ1 vs) S H (wipe σ vs) Γ ∧ EnvOk (kx X) S H (wipe σ vs) Γ ∧ S.hp L = none ∧ H L = some (.lst vacc) ∧ DqAll (kx X) S vacc acc ∧ ¬ Own S L ∧
      lcLoop g u f vs (ds.drop i) acc Γ = OO,
    ⟨ds.length, by simp, Nat.zero_le _, S1, _, [], [], Same.refl _, .push Ew hL _, Ew.push hL _, Ew.free hL, upd_same, .nil, fun q => ?_, hR⟩, ?_⟩
  · exact not_own_new Ew hL q
  rintro i m H ⟨rfl, hi', S, Γ, acc, vacc, e1, F, E, hS, hH, hA, hO, hG⟩
  obtain ⟨jg, js⟩ := hJ i S H e1 E.sub
  by_cases hl : i < ds.length
  · have hd : ds[i]? = some ds[i] := List.getElem?_eq_getElem hl
    obtain ⟨go, yl⟩ := jg _ hd
    rw [List.drop_eq_getElem_cons hl] at hG
    unfold lcLoop at hG
    refine .inr ⟨go, fun H' => ∃ (S : Sx) (Γ : Ge) (acc : List D) (vacc : List V), Same S1 S ∧ Frm S1 H1 (wipe σ vs) (wipeG Γ1 vs) S H' (wipe σ vs) Γ ∧ EnvOk (kx X) S H' (wipe σ vs) Γ ∧ S.hp L = none ∧ H' L = some (.lst vacc) ∧ DqAll (kx X) S vacc acc ∧ ¬ Own S L ∧
      lcLoop g u f vs (ds.drop (i + 1)) acc Γ = OO, fun H' q => ⟨ds.length - (i + 1), by omega, rfl, hl, q⟩, fun x H' hy => ?_⟩
    obtain ⟨Sh, s1, s2, s3, s4, dx⟩ := yl x H' hy
    obtain ⟨S', rfl, F', E'⟩ := grow_ok E s1 s2 s3 s4
    have neL : H L ≠ none := by rw [hH]; intro z; cases z
    -- no other end than what the loop says
    have fin : ∀ {o : Out (List D)}, o = OO → (∀ xs Γ', o ≠ .ok xs Γ') → False := fun {o} e n => by
      rw [← e] at G1
      cases o with
      | ok xs Γ' => exact n xs Γ' rfl
      | ex _ _ => exact G1
      | no => exact G1
    cases eo : g (.d ds[i]) Γ with
    | no => rw [eo] at hG; exact (fin (o := .no) hG (fun _ _ z => nomatch z)).elim
    | ex _ _ => rw [eo] at hG; exact (fin (o := .no) hG (fun _ _ z => nomatch z)).elim
    | ok un Γa =>
      rw [eo] at hG
      dsimp only at hG
      intro s Hs C cl fp
      refine tWG_mono ((hg s Hs C cl fp).run (fun _ _ _ _ => False) takes0 S' H' (wipe σ vs) Γ S' H' (wipe σ vs) Γ x (.d ds[i]) (fun σ2 H2 => ∃ S2, Frm S' H' (wipe σ vs) Γ S2 H2 σ2 Γa ∧ EnvOk (kx X) S2 H2 σ2 Γa) .refl E' dx ?_) (fun σ2 H2 ⟨ew, S2, F2, E2⟩ => ?_)
      · rw [eo]
        exact fun S2 H2 σ2 F2 E2 => ⟨S2, F2, E2⟩
      have ew : wipe σ2 vs = wipe σ vs := by
        have : wipe (wipe σ vs) vs = wipe σ vs := wipe_idem
        rw [ew, this]
      have F12 := F'.trans F2
      refine ⟨ew, ?_⟩
      intro s' Hs' C' cl' fp'
      -- the test
      have tgoal : TG' (kx X) X.mg (fun _ _ _ _ => False) S2 H2 σ2 Γa (fun b H3 => ∃ S3 Γb, u Γa = .ok b Γb ∧ Frm S2 H2 σ2 Γa S3 H3 σ2 Γb ∧ EnvOk (kx X) S3 H3 σ2 Γb) (u Γa) := by
        cases eu : u Γa with
        | no => rw [eu] at hG; exact (fin (o := .no) hG (fun _ _ z => nomatch z)).elim
        | ex _ _ => rw [eu] at hG; exact (fin (o := .no) hG (fun _ _ z => nomatch z)).elim
        | ok b Γb => exact fun S3 H3 b' F3 E3 e => by subst e; exact ⟨S3, Γb, rfl, F3, E3⟩
      refine fun pins sh I => thn ((ht s' Hs' C' cl' fp').run (fun _ _ _ _ => False) takes0 S2 H2 σ2 Γa _ E2 tgoal pins sh I) fun b sh' ⟨H3, I3, S3, Γb, eu, F3, E3⟩ => ⟨H3, I3, ?_⟩
      have F13 := F12.trans F3
      rw [eu] at hG
      -- the list is where it was
      have keepL : ∀ {S4 : Sx} {H4 : Hp} {σ4 : L2.St} {Γ4 : Ge}, Frm S H (wipe σ vs) Γ S4 H4 σ4 Γ4 → H4 L = some (.lst vacc) ∧ S4.hp L = none ∧ ¬ Own S4 L := fun {S4 H4 σ4 Γ4} f => by
        refine ⟨f.keep L _ hH hO, f.fresh L hS neL hO, fun q => ?_⟩
        rcases f.own L q with z | z
        · exact hO z
        · exact neL z
      cases b with
      | false =>
        refine iteF ?_
        obtain ⟨k1, k2, k3⟩ := keepL F13
        refine ⟨S3.wipe vs, wipeG Γb vs, acc, vacc, (e1.trans s1).trans (F2.grow.trans F3.grow), Frm.wipeE (F.trans F13) ew, by rw [← ew]; exact E3.wipe, k2, k1, Same.dpAll F13.grow hA, fun q => k3 (own_wipe q), hG⟩
      | true =>
        refine iteT ?_
        dsimp only at hG
        intro s'' Hs'' C'' cl'' fp''
        have egoal : EG (kx X) X.mg (fun _ _ _ _ => False) S3 H3 σ2 Γb (fun y H4 => ∃ acc, H4 L = some (.lst acc) ∧ acc.length < sizeLine ∧ ∃ (S : Sx) (Γ : Ge) (acc' : List D) (vacc : List V), Same S1 S ∧ Frm S1 H1 (wipe σ vs) (wipeG Γ1 vs) S (upd H4 L (.lst (acc ++ [y]))) (wipe σ vs) Γ ∧ EnvOk (kx X) S (upd H4 L (.lst (acc ++ [y]))) (wipe σ vs) Γ ∧ S.hp L = none ∧
            (upd H4 L (.lst (acc ++ [y]))) L = some (.lst vacc) ∧ DqAll (kx X) S vacc acc' ∧ ¬ Own S L ∧ lcLoop g u f vs (ds.drop (i + 1)) acc' Γ = OO) (f Γb) := by
          cases ef : f Γb with
          | no => rw [ef] at hG; exact (fin (o := .no) hG (fun _ _ z => nomatch z)).elim
          | ex _ _ => rw [ef] at hG; exact (fin (o := .no) hG (fun _ _ z => nomatch z)).elim
          | ok r Γc =>
            cases r with
            | l _ => rw [ef] at hG; exact (fin (o := .no) hG (fun _ _ z => nomatch z)).elim
            | s _ => rw [ef] at hG; exact (fin (o := .no) hG (fun _ _ z => nomatch z)).elim
            | o _ => rw [ef] at hG; exact (fin (o := .no) hG (fun _ _ z => nomatch z)).elim
            | d y =>
              rw [ef] at hG
              dsimp only at hG
              by_cases hz : acc.length < 1000000
              · rw [if_pos hz] at hG
                intro S4 H4 v F4 E4 dv
                have F14 := F13.trans F4
                obtain ⟨k1, k2, k3⟩ := keepL F14
                have hz' : vacc.length < sizeLine := by rw [DqAll.length hA]; exact Nat.lt_of_lt_of_le hz (by decide)
                have Ew4 : EnvOk (kx X) (S4.wipe vs) H4 (wipe σ vs) (wipeG Γc vs) := by rw [← ew]; exact E4.wipe
                have kw : ¬ Own (S4.wipe vs) L := fun q => k3 (own_wipe q)
                have Fw4 := Frm.wipeE (F.trans F14) ew
                have hL1 : ∀ b o, H1 b = some o → b ≠ L := fun b o e => ne_of_none e hL
                refine ⟨vacc, k1, hz', S4.wipe vs, wipeG Γc vs, acc ++ [y], vacc ++ [v], (e1.trans s1).trans ((F2.grow.trans F3.grow).trans F4.grow), ?_, ?_, k2, upd_same, DqAll.append (Same.dpAll F14.grow hA) (.cons dv .nil), kw, hG⟩
                · exact ⟨Fw4.grow, fun b o h n => by rw [upd_ne (hL1 b o h)]; exact Fw4.keep b o h n, Fw4.fresh, Fw4.own, Fw4.bor, Fw4.bop, Fw4.len⟩
                · exact Ew4.updN k2 kw
              · rw [if_neg hz] at hG
                exact (fin (o := .no) hG (fun _ _ z => nomatch z)).elim
        exact (he s'' Hs'' C'' cl'' fp'').run (fun _ _ _ _ => False) takes0 S3 H3 σ2 Γb _ E3 egoal
  · have e : i = ds.length := by omega
    subst e
    rw [List.drop_length] at hG
    have hG : Out.ok acc Γ = OO := hG
    rw [← hG] at G1
    obtain ⟨f1, e1', t1⟩ := back_rest E1 hp F E
    refine .inl ⟨js (Nat.le_refl _), G1 (S.wipe vs) H _ (F1.trans f1) e1' ⟨L, vacc, rfl, hS, hH, hA, fun q => hO (t1 L q), ?_⟩⟩
    exact back_own F1 (.inl hL)
end
end Ly
set_option maxRecDepth 100000
namespace Ly
open PySem L2

section
variable {K : Kx} {X : Cx}
/-! ### ints -/
def iI (f : Int → Int → Option D) : D → D → Option O := fun x y => match x, y with
  | .int i, .int j => (f i j).map .d
  | _, _ => none
theorem opD_I {C : Int → Int → Prop} {g : Int → Int → V} {f : Int → Int → Option D} (h : ∀ i j d, f i j = some d → C i j ∧ ∀ S, Dq K S (g i j) d) : OpD K (rI C g) (iI f) := by
  intro S H x y d e o Q hS hx hy he q
  cases d <;> first
    | (cases he; done)
    | skip
  rename_i i
  cases e <;> first
    | (cases he; done)
    | skip
  rename_i j
  have he : (f i j).map O.d = some o := he
  cases e1 : f i j with
  | none => rw [e1] at he; cases he
  | some z =>
    rw [e1] at he
    cases he
    obtain ⟨h1, h2⟩ := h i j z e1
    exact ⟨i, j, hx.int, hy.int, h1, q _ (h2 S)⟩
theorem opD_I0 {g : Int → Int → V} {f : Int → Int → Option D} (h : ∀ i j d, f i j = some d → ∀ S, Dq K S (g i j) d) : OpD K (rI0 g) (iI f) := by
  intro S H x y d e o Q hS hx hy he q
  cases d <;> first
    | (cases he; done)
    | skip
  rename_i i
  cases e <;> first
    | (cases he; done)
    | skip
  rename_i j
  have he : (f i j).map O.d = some o := he
  cases e1 : f i j with
  | none => rw [e1] at he; cases he
  | some z =>
    rw [e1] at he
    cases he
    exact ⟨i, j, hx.int, hy.int, q _ (h i j z e1 S)⟩
def addI := iI fun i j => some (.int (i + j))
def subI := iI fun i j => some (.int (i - j))
instance (i j : Int) : Decidable (CMul i j) := by unfold CMul; infer_instance
def mulI := iI fun i j => if CMul i j then some (.int (i * j)) else none
instance (i j : Int) : Decidable (CDiv i j) := by unfold CDiv; infer_instance
def divI := iI fun i j => if CDiv i j then some (.int (i / j)) else none
def modI := iI fun i j => if 0 < j then some (.int (i % j)) else none
instance (i j : Int) : Decidable (CPow i j) := by unfold CPow; infer_instance
def powI := iI fun i j => if CPow i j then some (.int (i ^ j.toNat)) else none
def ltI := iI fun i j => some (.bool (decide (i < j)))
def leI := iI fun i j => some (.bool (decide (i ≤ j)))
def gtI := iI fun i j => some (.bool (decide (j < i)))
def geI := iI fun i j => some (.bool (decide (j ≤ i)))
theorem opD_add : OpD K (rI0 fun i j => .int (i + j)) addI := opD_I0 fun i j d h S => by cases h; exact .int _
theorem opD_sub : OpD K (rI0 fun i j => .int (i - j)) subI := opD_I0 fun i j d h S => by cases h; exact .int _
theorem opD_mul : OpD K (rI CMul fun i j => .int (i * j)) mulI := opD_I fun i j d h => by
  split at h
  · cases h; exact ⟨by assumption, fun S => .int _⟩
  · cases h
theorem opD_div : OpD K (rI CDiv fun i j => .int (i / j)) divI := opD_I fun i j d h => by
  split at h
  · cases h; exact ⟨by assumption, fun S => .int _⟩
  · cases h
theorem opD_mod : OpD K (rI (fun _ j => 0 < j) fun i j => .int (i % j)) modI := opD_I fun i j d h => by
  split at h
  · cases h; exact ⟨by assumption, fun S => .int _⟩
  · cases h
theorem opD_pow : OpD K (rI CPow fun i j => .int (i ^ j.toNat)) powI := opD_I fun i j d h => by
  split at h
  · cases h; exact ⟨by assumption, fun S => .int _⟩
  · cases h
theorem opD_lt : OpD K (rI0 fun i j => .bl (decide (i < j))) ltI := opD_I0 fun i j d h S => by cases h; exact .bl _
theorem opD_le : OpD K (rI0 fun i j => .bl (decide (i ≤ j))) leI := opD_I0 fun i j d h S => by cases h; exact .bl _
theorem opD_gt : OpD K (rI0 fun i j => .bl (decide (j < i))) gtI := opD_I0 fun i j d h S => by cases h; exact .bl _
theorem opD_ge : OpD K (rI0 fun i j => .bl (decide (j ≤ i))) geI := opD_I0 fun i j d h S => by cases h; exact .bl _
def negI : D → Option O := fun x => match x with
  | .int i => some (.d (.int (-i)))
  | _ => none
theorem unD_neg : UnD K (rU fun i => .int (-i)) negI := by
  intro S H x d o Q hS hx he q
  cases d <;> first
    | (cases he; done)
    | skip
  cases he
  exact ⟨_, hx.int, q _ (.int _)⟩
/-! ### == of data, is of truths, in -/
theorem shaped_flat : ∀ {d : D}, d.canLay0 = true → flatD d = true := by
  intro d
  exact PyData.rec (motive_1 := fun d => d.canLay0 = true → flatD d = true) (motive_2 := fun ds => PyData.canLayAll0 ds = true → flatDs ds = true) (motive_3 := fun _ => True) (motive_4 := fun _ => True)
    (fun _ => rfl) (fun _ _ => rfl) (fun _ _ => rfl) (fun _ _ => rfl) (fun xs ih h => by simp only [flatD]; exact ih (by simpa [PyData.canLay0] using h)) (fun xs ih h => by simp only [flatD]; exact ih (by simpa [PyData.canLay0] using h))
    (fun _ _ h => by simp [PyData.canLay0] at h) (fun _ => rfl) (fun d ds h1 h2 h => by
      simp only [PyData.canLayAll0, Bool.and_eq_true] at h
      simp only [flatDs, Bool.and_eq_true]
      exact ⟨h1 h.1, h2 h.2⟩) trivial (fun _ _ _ _ => trivial) (fun _ _ _ _ => trivial) d
theorem shaped_dp {S H : Hp} {v : V} {d : D} (e : Same S H) (h : Vw K S H v d) (hs : SeqAt.shaped d = true) : Dp K H v d := by
  refine (h.dq e).dp (shaped_flat ?_)
  unfold SeqAt.shaped at hs
  simp only [Bool.and_eq_true] at hs
  exact hs.1
def eqD : D → D → Option O := fun x y => if SeqAt.shaped x = true ∧ SeqAt.shaped y = true then some (.d (.bool (PyData.eqv x y))) else none
def neD : D → D → Option O := fun x y => if SeqAt.shaped x = true ∧ SeqAt.shaped y = true then some (.d (.bool (!PyData.eqv x y))) else none
theorem opD_eq : OpD K (rEqD K) eqD := by
  intro S H x y d e o Q hS hx hy he q
  unfold eqD at he
  split at he
  · rename_i hh
    cases he
    exact ⟨d, e, shaped_dp hS hx hh.1, shaped_dp hS hy hh.2, hh.1, hh.2, q _ (.bl _)⟩
  · cases he
theorem opD_ne : OpD K (rNeD K) neD := by
  intro S H x y d e o Q hS hx hy he q
  unfold neD at he
  split at he
  · rename_i hh
    cases he
    exact ⟨d, e, shaped_dp hS hx hh.1, shaped_dp hS hy hh.2, hh.1, hh.2, q _ (.bl _)⟩
  · cases he
def isB : D → D → Option O := fun x y => match x, y with
  | .bool a, .bool b => some (.d (.bool (decide (a = b))))
  | _, _ => none
def notIsB : D → D → Option O := fun x y => match x, y with
  | .bool a, .bool b => some (.d (.bool (!decide (a = b))))
  | _, _ => none
theorem opD_isB : OpD K rIsB isB := by
  intro S H x y d e o Q hS hx hy he q
  cases d <;> first
    | (cases he; done)
    | skip
  cases e <;> first
    | (cases he; done)
    | skip
  cases he
  exact ⟨_, _, hx.bool, hy.bool, q _ (.bl _)⟩
theorem opD_notB : OpD K rNotB notIsB := by
  intro S H x y d e o Q hS hx hy he q
  cases d <;> first
    | (cases he; done)
    | skip
  cases e <;> first
    | (cases he; done)
    | skip
  cases he
  exact ⟨_, _, hx.bool, hy.bool, q _ (.bl _)⟩
/-- x is None -/
def isNon : D → Bool
  | .none => true
  | _ => false
def isND : D → D → Option O := fun x y => match y with
  | .none => some (.d (.bool (isNon x)))
  | _ => none
def notND : D → D → Option O := fun x y => match y with
  | .none => some (.d (.bool (!isNon x)))
  | _ => none
theorem vw_non {S H : Hp} {x : V} {d : D} (hx : Vw K S H x d) : isNon d = decide (x = .non) := by
  rcases hx with h | ⟨a, vs, xs, rfl, rfl, _, _⟩ | ⟨a, vs, xs, rfl, rfl, _, _⟩ | ⟨a, vs, xs, rfl, rfl, _, _⟩
  · cases h <;> rfl
  all_goals rfl
theorem opD_isN : OpD K (fun x y H Q => y = .non ∧ Q (.bl (decide (x = .non))) H) isND := by
  intro S H x y d e o Q hS hx hy he q
  cases e <;> first
    | (cases he; done)
    | skip
  cases he
  refine ⟨hy.none, q _ ?_⟩
  rw [← vw_non hx]
  exact .bl _
theorem opD_notN : OpD K (fun x y H Q => y = .non ∧ Q (.bl (!decide (x = .non))) H) notND := by
  intro S H x y d e o Q hS hx hy he q
  cases e <;> first
    | (cases he; done)
    | skip
  cases he
  refine ⟨hy.none, q _ ?_⟩
  rw [← vw_non hx]
  exact .bl _
def flatS : D → Bool
  | .none => true
  | .bool _ => true
  | .int _ => true
  | .str _ => true
  | _ => false
theorem flat_v {S H : Hp} {x : V} {d : D} (hx : Vw K S H x d) (h : flatS d = true) : flatV x = true ∧ Dq K S x d := by
  rcases hx with q | ⟨a, vs, xs, rfl, rfl, _, _⟩ | ⟨a, vs, xs, rfl, rfl, _, _⟩ | ⟨a, vs, xs, rfl, rfl, _, _⟩
  · refine ⟨?_, q⟩
    cases q <;> first
      | rfl
      | cases h
  all_goals cases h
theorem flat_all {S : Hp} : ∀ {vs : List V} {ds : List D}, DqAll K S vs ds → ds.all flatS = true → vs.all flatV = true
  | _, _, .nil, _ => rfl
  | _, _, .cons h t, q => by
    simp only [List.all_cons, Bool.and_eq_true] at q ⊢
    exact ⟨(flat_v (H := S) (.inl h) q.1).1, flat_all t q.2⟩
theorem eqV_eqv {S : Hp} {x y : V} {d e : D} (hx : Dq K S x d) (hy : Dq K S y e) (h1 : flatS d = true) (h2 : flatS e = true) : eqV x y = PyData.eqv d e := by
  cases hx <;> cases hy <;> first
    | cases h1; done
    | cases h2; done
    | simp [eqV, PyData.eqv]
theorem inV_any {S : Hp} {x : V} {d : D} (hx : Dq K S x d) (h1 : flatS d = true) : ∀ {vs : List V} {ds : List D}, DqAll K S vs ds → ds.all flatS = true → inV x vs = ds.any fun z => PyData.eqv z d
  | _, _, .nil, _ => rfl
  | _, _, .cons h t, q => by
    simp only [List.all_cons, Bool.and_eq_true] at q
    have ih := inV_any hx h1 t q.2
    unfold inV at ih ⊢
    simp only [List.any_cons, ih, eqV_eqv h hx q.1 h1]
def inD (neg : Bool) : D → D → Option O := fun x y => match y with
  | .tuple ds => if flatS x = true ∧ ds.all flatS = true then some (.d (.bool (if neg then !(ds.any fun z => PyData.eqv z x) else ds.any fun z => PyData.eqv z x))) else none
  | .list ds => if flatS x = true ∧ ds.all flatS = true then some (.d (.bool (if neg then !(ds.any fun z => PyData.eqv z x) else ds.any fun z => PyData.eqv z x))) else none
  | _ => none
theorem opD_in {neg : Bool} : OpD K (rIn K neg) (inD neg) := by
  intro S H x y d e o Q hS hx hy he q
  cases e <;> first
    | (cases he; done)
    | skip
  · rename_i ds
    have he : (if flatS d = true ∧ ds.all flatS = true then some (O.d (.bool (if neg then !(ds.any fun z => PyData.eqv z d) else ds.any fun z => PyData.eqv z d))) else none) = some o := he
    split at he
    · rename_i hh
      cases he
      obtain ⟨a, vs, rfl, h1, h2⟩ := hy.list hS
      obtain ⟨f1, f2⟩ := flat_v hx hh.1
      refine ⟨a, vs, rfl, .inl h1.seq, f1, flat_all h2 hh.2, ?_⟩
      rw [inV_any f2 hh.1 h2 hh.2]
      exact q _ (.bl _)
    · cases he
  · rename_i ds
    have he : (if flatS d = true ∧ ds.all flatS = true then some (O.d (.bool (if neg then !(ds.any fun z => PyData.eqv z d) else ds.any fun z => PyData.eqv z d))) else none) = some o := he
    split at he
    · rename_i hh
      cases he
      obtain ⟨a, vs, rfl, h1, h2⟩ := hy.tup hS
      obtain ⟨f1, f2⟩ := flat_v hx hh.1
      refine ⟨a, vs, rfl, .inr h1, f1, flat_all h2 hh.2, ?_⟩
      rw [inV_any f2 hh.1 h2 hh.2]
      exact q _ (.bl _)
    · cases he
/-! ### items, slices, + -/
def ixD : D → D → Option O := fun x y => match x, y with
  | .list xs, .int i => (atI xs i).map .d
  | .tuple xs, .int i => (atI xs i).map .d
  | .str z, .int i => if z.length ≤ sizeLine then (atI z.cps.toList i).map fun c => .d (.str ⟨#[c]⟩) else none
  | _, _ => none
theorem atI_get {S : Hp} {vs : List V} {ds : List D} {i : Int} {d : D} (h : DqAll K S vs ds) (e : atI ds i = some d) : ∃ v, atI vs i = some v ∧ Dq K S v d := by
  unfold atI at e ⊢
  rw [DqAll.length h]
  cases q : ixN ds.length i with
  | none => rw [q] at e; cases e
  | some j =>
    rw [q] at e
    exact DqAll.get h e
theorem opD_ix : OpD K (rIx K) ixD := by
  intro S H x y d e o Q hS hx hy he q
  cases d <;> first
    | (cases he; done)
    | skip
  · cases e <;> first
      | (cases he; done)
      | skip
    rename_i z i
    have he : (if z.length ≤ sizeLine then (atI z.cps.toList i).map fun c => O.d (.str ⟨#[c]⟩) else none) = some o := he
    split at he
    · rename_i hz
      cases e1 : atI z.cps.toList i with
      | none => rw [e1] at he; cases he
      | some c =>
        rw [e1] at he
        cases he
        exact .inr (.inr ⟨z, i, c, hx.str, hy.int, hz, e1, q _ (.str _)⟩)
    · cases he
  · cases e <;> first
      | (cases he; done)
      | skip
    rename_i xs i
    have he : (atI xs i).map O.d = some o := he
    cases e1 : atI xs i with
    | none => rw [e1] at he; cases he
    | some z =>
      rw [e1] at he
      cases he
      obtain ⟨a, vs, rfl, h1, h2⟩ := hx.list hS
      obtain ⟨v, w1, w2⟩ := atI_get h2 e1
      exact .inl ⟨a, vs, i, v, rfl, hy.int, h1.seq, w1, q _ w2⟩
  · cases e <;> first
      | (cases he; done)
      | skip
    rename_i xs i
    have he : (atI xs i).map O.d = some o := he
    cases e1 : atI xs i with
    | none => rw [e1] at he; cases he
    | some z =>
      rw [e1] at he
      cases he
      obtain ⟨a, vs, rfl, h1, h2⟩ := hx.tup hS
      obtain ⟨v, w1, w2⟩ := atI_get h2 e1
      exact .inr (.inl ⟨a, vs, i, v, rfl, hy.int, h1, w1, q _ w2⟩)
def cutD (xs : List D) (lo hi : Option Int) : List D := (xs.drop (HT.sIx xs.length 0 lo)).take (HT.sIx xs.length xs.length hi - HT.sIx xs.length 0 lo)
theorem cut_all {S : Hp} {vs : List V} {ds : List D} {lo hi : Option Int} (h : DqAll K S vs ds) : DqAll K S (cutV vs lo hi) (cutD ds lo hi) := by
  unfold cutV cutD
  rw [DqAll.length h]
  exact DqAll.take _ (DqAll.drop _ h)
def slLD : D → Option Int → Option Int → Option O := fun x lo hi => match x with
  | .list xs => some (.l (cutD xs lo hi))
  | _ => none
theorem slD_list : SlD K (rSlL K) slLD := by
  intro S H x d lo hi w Q hS hx he q
  cases d <;> first
    | (cases he; done)
    | skip
  cases he
  obtain ⟨a, vs, rfl, h1, h2⟩ := hx.list hS
  exact ⟨a, vs, rfl, h1.seq, fun p hp => q p _ hp (cut_all h2)⟩
/-- a tuple's slice: the whole of it is itself -/
def slTD : D → Option Int → Option Int → Option O := fun x lo hi => match x with
  | .tuple xs => if HT.sIx xs.length 0 lo = 0 ∧ HT.sIx xs.length xs.length hi = xs.length then some (.d (.tuple xs)) else some (.t (cutD xs lo hi))
  | _ => none
theorem vw_tup_dq {S H : Hp} {x : V} {xs : List D} (h : Vw K S H x (.tuple xs)) : Dq K S x (.tuple xs) := by
  rcases h with h | ⟨_, _, _, _, q, _⟩ | ⟨_, _, _, _, q, _⟩ | ⟨_, _, _, _, q, _⟩
  · exact h
  all_goals cases q
theorem slD_tup : SlD K (rSlA K) slTD := by
  intro S H x d lo hi w Q hS hx he q
  cases d <;> first
    | (cases he; done)
    | skip
  rename_i xs
  have he : (if HT.sIx xs.length 0 lo = 0 ∧ HT.sIx xs.length xs.length hi = xs.length then some (O.d (.tuple xs)) else some (O.t (cutD xs lo hi))) = some w := he
  have dq := vw_tup_dq hx
  obtain ⟨a, vs, rfl, h1, h2⟩ := hx.tup hS
  refine ⟨a, vs, rfl, h1, fun hc => ?_, fun hc => ?_⟩
  · rw [DqAll.length h2] at hc
    rw [if_pos hc] at he
    cases he
    exact q _ dq
  · rw [DqAll.length h2] at hc
    rw [if_neg hc] at he
    cases he
    exact fun p hp => q p _ hp (cut_all h2)
/-- list + list, the read ones may be frozen -/
def rCatR (K : Kx) : R2 := fun x y H Q => ∃ l b xs zs, x = .ref l ∧ y = .ref b ∧ Ls K H l xs ∧ Ls K H b zs ∧ xs.length + zs.length ≤ sizeLine ∧ ∀ p, H p = none → Q (.ref p) (upd H p (.lst (xs ++ zs)))
theorem op_catR : OpR X (binaryOp .Add) (rCatR (kx X)) := by
  intro pins s σ H x y v u Q I rx ry h
  obtain ⟨l, b, xs, zs, rfl, rfl, hH, hB, hz, q⟩ := h
  cases rx
  cases ry
  obtain ⟨z, its, n, r, e⟩ := hH.obj I
  obtain ⟨z2, its2, n2, r2, e2⟩ := hB.obj I
  have hl := r.length
  have hl2 := r2.length
  refine PySem.P.add_list e e2 ?_ (by rw [List.size_toArray, List.size_toArray]; omega)
  have ea : its.toArray ++ its2.toArray = (its ++ its2).toArray := by simp
  rw [ea]
  exact ⟨.ref _, _, I.lnew (t' := s.toks) (r.append r2) (by rw [List.length_append]; omega), rfl, q _ I.fresh⟩
/-- + of ints, texts, lists, tuples -/
def rAddA (K : Kx) : R2 := fun x y H Q => rI0 (fun i j => .int (i + j)) x y H Q ∨ (∃ i j, x = .str i ∧ y = .str j ∧ i.length + j.length ≤ sizeLine ∧ Q (.str (i ++ j)) H) ∨ rCatR K x y H Q ∨ rCatA K x y H Q
theorem op_addA : OpR X (binaryOp .Add) (rAddA (kx X)) := by
  intro pins s σ H x y v u Q I rx ry h
  rcases h with h | h | h | h
  · exact op_add pins s σ H x y v u Q I rx ry h
  · exact op_add_str pins s σ H x y v u Q I rx ry h
  · exact op_catR pins s σ H x y v u Q I rx ry h
  · exact op_catA pins s σ H x y v u Q I rx ry h
def addA : D → D → Option O := fun x y => match x, y with
  | .int i, .int j => some (.d (.int (i + j)))
  | .str i, .str j => if i.length + j.length ≤ sizeLine then some (.d (.str (i ++ j))) else none
  | .list xs, .list ys => if xs.length + ys.length < 1000000 then some (.l (xs ++ ys)) else none
  | .tuple xs, .tuple ys => if xs.length + ys.length < 1000000 then (if xs.isEmpty then some (.d (.tuple ys)) else if ys.isEmpty then some (.d (.tuple xs)) else some (.t (xs ++ ys))) else none
  | _, _ => none
theorem small6 {n : Nat} (h : n < 1000000) : n ≤ sizeLine := Nat.le_of_lt (Nat.lt_of_lt_of_le h (by decide))
theorem opD_addA : OpD K (rAddA K) addA := by
  intro S H x y d e o Q hS hx hy he q
  cases d <;> first
    | (cases he; done)
    | (cases e <;> cases he; done)
    | skip
  · cases e <;> first
      | (cases he; done)
      | skip
    cases he
    exact .inl ⟨_, _, hx.int, hy.int, q _ (.int _)⟩
  · cases e <;> first
      | (cases he; done)
      | skip
    rename_i i j
    have he : (if i.length + j.length ≤ sizeLine then some (O.d (.str (i ++ j))) else none) = some o := he
    split at he
    · rename_i hl
      cases he
      exact .inr (.inl ⟨_, _, hx.str, hy.str, hl, q _ (.str _)⟩)
    · cases he
  · cases e <;> first
      | (cases he; done)
      | skip
    rename_i xs ys
    have he : (if xs.length + ys.length < 1000000 then some (O.l (xs ++ ys)) else none) = some o := he
    split at he
    · rename_i hl
      cases he
      obtain ⟨a, vs, rfl, h1, h2⟩ := hx.list hS
      obtain ⟨b, ws, rfl, h3, h4⟩ := hy.list hS
      exact .inr (.inr (.inl ⟨a, b, vs, ws, rfl, rfl, h1, h3, by rw [DqAll.length h2, DqAll.length h4]; exact small6 hl, fun p hp => q p _ hp (DqAll.append h2 h4)⟩))
    · cases he
  · cases e <;> first
      | (cases he; done)
      | skip
    rename_i xs ys
    have he : (if xs.length + ys.length < 1000000 then (if xs.isEmpty then some (O.d (.tuple ys)) else if ys.isEmpty then some (.d (.tuple xs)) else some (.t (xs ++ ys))) else none) = some o := he
    split at he
    · rename_i hl
      have d1 := vw_tup_dq hx
      have d2 := vw_tup_dq hy
      obtain ⟨a, vs, rfl, h1, h2⟩ := hx.tup hS
      obtain ⟨b, ws, rfl, h3, h4⟩ := hy.tup hS
      refine .inr (.inr (.inr ⟨a, b, vs, ws, rfl, rfl, h1, h3, by rw [DqAll.length h2, DqAll.length h4]; exact small6 hl, fun e => ?_, fun n e => ?_, fun n n2 p hp => ?_⟩))
      · subst e
        cases h2
        cases he
        exact q _ d2
      · subst e
        cases h4
        cases h2 with
        | nil => exact absurd rfl n
        | cons _ _ =>
          cases he
          exact q _ d1
      · cases h2 with
        | nil => exact absurd rfl n
        | cons x1 x2 =>
          cases h4 with
          | nil => exact absurd rfl n2
          | cons y1 y2 =>
            cases he
            exact q p _ hp (DqAll.append (.cons x1 x2) (.cons y1 y2))
    · cases he
end
end Ly
set_option maxRecDepth 100000
namespace Ly
open PySem L2

section
variable {K : Kx} {X : Cx}
/-! ### built-in calls -/
theorem vwAll0 {S H : Hp} {vs : List V} (h : VwAll K S H vs []) : vs = [] := by
  cases vs with
  | nil => rfl
  | cons _ _ => exact h.elim
def absI : List D → Option O := fun ds => match ds with
  | [.int i] => some (.d (.int (if i < 0 then -i else i)))
  | _ => none
theorem clD_abs : ClD K (fun xs H Q => ∃ i, xs = [.int i] ∧ Q (.int (if i < 0 then -i else i)) H) absI := by
  intro S H vs ds o Q hS hv he q
  unfold absI at he
  split at he
  · cases he
    obtain ⟨v, rfl, w⟩ := vwAll1 hv
    exact ⟨_, by rw [w.int], q _ (.int _)⟩
  · cases he
def max2I : List D → Option O := fun ds => match ds with
  | [.int i, .int j] => some (.d (.int (if j > i then j else i)))
  | _ => none
def min2I : List D → Option O := fun ds => match ds with
  | [.int i, .int j] => some (.d (.int (if j < i then j else i)))
  | _ => none
theorem clD_max2 : ClD K (fun xs H Q => ∃ i j, xs = [.int i, .int j] ∧ Q (.int (if j > i then j else i)) H) max2I := by
  intro S H vs ds o Q hS hv he q
  unfold max2I at he
  split at he
  · cases he
    obtain ⟨v, w, rfl, h1, h2⟩ := vwAll2 hv
    exact ⟨_, _, by rw [h1.int, h2.int], q _ (.int _)⟩
  · cases he
theorem clD_min2 : ClD K (fun xs H Q => ∃ i j, xs = [.int i, .int j] ∧ Q (.int (if j < i then j else i)) H) min2I := by
  intro S H vs ds o Q hS hv he q
  unfold min2I at he
  split at he
  · cases he
    obtain ⟨v, w, rfl, h1, h2⟩ := vwAll2 hv
    exact ⟨_, _, by rw [h1.int, h2.int], q _ (.int _)⟩
  · cases he
def intC : List D → Option O := fun ds => match ds with
  | [.int i] => some (.d (.int i))
  | [.bool b] => some (.d (.int (if b then 1 else 0)))
  | _ => none
theorem clD_int : ClD K (fun xs H Q => (∃ i, xs = [.int i] ∧ Q (.int i) H) ∨ ∃ k, xs = [.bl k] ∧ Q (.int (if k then 1 else 0)) H) intC := by
  intro S H vs ds o Q hS hv he q
  unfold intC at he
  split at he
  · cases he
    obtain ⟨v, rfl, w⟩ := vwAll1 hv
    exact .inl ⟨_, by rw [w.int], q _ (.int _)⟩
  · cases he
    obtain ⟨v, rfl, w⟩ := vwAll1 hv
    exact .inr ⟨_, by rw [w.bool], q _ (.int _)⟩
  · cases he
def lenC : List D → Option O := fun ds => match ds with
  | [.list xs] => some (.d (.int xs.length))
  | [.tuple xs] => some (.d (.int xs.length))
  | [.str z] => if z.length ≤ sizeLine then some (.d (.int z.length)) else none
  | _ => none
theorem clD_len : ClD K (fun xs H Q => ∃ x n, xs = [x] ∧ LenV K x H n ∧ Q (.int n) H) lenC := by
  intro S H vs ds o Q hS hv he q
  unfold lenC at he
  split at he
  · cases he
    obtain ⟨v, rfl, w⟩ := vwAll1 hv
    obtain ⟨a, us, rfl, h1, h2⟩ := w.list hS
    exact ⟨_, us.length, rfl, .inl ⟨us, h1.seq, rfl⟩, by rw [DqAll.length h2]; exact q _ (.int _)⟩
  · cases he
    obtain ⟨v, rfl, w⟩ := vwAll1 hv
    obtain ⟨a, us, rfl, h1, h2⟩ := w.tup hS
    exact ⟨_, us.length, rfl, .inr ⟨us, h1, rfl⟩, by rw [DqAll.length h2]; exact q _ (.int _)⟩
  · split at he
    · rename_i hl
      cases he
      obtain ⟨v, rfl, w⟩ := vwAll1 hv
      rw [w.str]
      exact ⟨_, _, rfl, ⟨hl, rfl⟩, q _ (.int _)⟩
    · cases he
  · cases he
def tupC : List D → Option O := fun ds => match ds with
  | [.list xs] => some (.t xs)
  | [.tuple xs] => some (.d (.tuple xs))
  | _ => none
theorem clD_tuple : ClD K (fun xs H Q => ∃ p ys, xs = [.ref p] ∧ ((SqL K H p ys ∧ ∀ l, H l = none → Q (.ref l) (upd H l (.tup ys))) ∨ (SqT K H p ys ∧ Q (.ref p) H))) tupC := by
  intro S H vs ds o Q hS hv he q
  unfold tupC at he
  split at he
  · cases he
    obtain ⟨v, rfl, w⟩ := vwAll1 hv
    obtain ⟨a, us, rfl, h1, h2⟩ := w.list hS
    exact ⟨a, us, rfl, .inl ⟨h1.seq, fun l hl => q l us hl h2⟩⟩
  · cases he
    obtain ⟨v, rfl, w⟩ := vwAll1 hv
    have dq := vw_tup_dq w
    obtain ⟨a, us, rfl, h1, h2⟩ := w.tup hS
    exact ⟨a, us, rfl, .inr ⟨h1, q _ dq⟩⟩
  · cases he
def listC : List D → Option O := fun ds => match ds with
  | [.list xs] => some (.l xs)
  | [.tuple xs] => some (.l xs)
  | _ => none
theorem clD_list : ClD K (fun xs H Q => ∃ p ys, xs = [.ref p] ∧ (SqL K H p ys ∨ SqT K H p ys) ∧ ∀ l, H l = none → Q (.ref l) (upd H l (.lst ys))) listC := by
  intro S H vs ds o Q hS hv he q
  unfold listC at he
  split at he
  · cases he
    obtain ⟨v, rfl, w⟩ := vwAll1 hv
    obtain ⟨a, us, rfl, h1, h2⟩ := w.list hS
    exact ⟨a, us, rfl, .inl h1.seq, fun l hl => q l us hl h2⟩
  · cases he
    obtain ⟨v, rfl, w⟩ := vwAll1 hv
    obtain ⟨a, us, rfl, h1, h2⟩ := w.tup hS
    exact ⟨a, us, rfl, .inr h1, fun l hl => q l us hl h2⟩
  · cases he
/-! all, any of truths; sum of ints -/
def asBs : List D → Option (List Bool)
  | [] => some []
  | .bool b :: ds => (asBs ds).map (b :: ·)
  | _ :: _ => none
theorem asBs_ok {S : Hp} : ∀ {vs : List V} {ds : List D} {bs : List Bool}, DqAll K S vs ds → asBs ds = some bs → vs = bs.map V.bl
  | _, _, _, .nil, e => by cases e; rfl
  | v :: vs, d :: ds, bs, .cons h t, e => by
    cases d <;> first
      | (cases e; done)
      | skip
    have e : (asBs ds).map (_ :: ·) = some bs := e
    cases q : asBs ds with
    | none => rw [q] at e; cases e
    | some cs =>
      rw [q] at e
      cases e
      cases h
      rw [asBs_ok t q]
      rfl
def asIs : List D → Option (List Int)
  | [] => some []
  | .int b :: ds => (asIs ds).map (b :: ·)
  | _ :: _ => none
theorem asIs_ok {S : Hp} : ∀ {vs : List V} {ds : List D} {bs : List Int}, DqAll K S vs ds → asIs ds = some bs → vs = bs.map V.int
  | _, _, _, .nil, e => by cases e; rfl
  | v :: vs, d :: ds, bs, .cons h t, e => by
    cases d <;> first
      | (cases e; done)
      | skip
    have e : (asIs ds).map (_ :: ·) = some bs := e
    cases q : asIs ds with
    | none => rw [q] at e; cases e
    | some cs =>
      rw [q] at e
      cases e
      cases h
      rw [asIs_ok t q]
      rfl
def allC : List D → Option O := fun ds => match ds with
  | [.list xs] => (asBs xs).map fun bs => .d (.bool (bs.all id))
  | _ => none
def anyC : List D → Option O := fun ds => match ds with
  | [.list xs] => (asBs xs).map fun bs => .d (.bool (bs.any id))
  | _ => none
theorem clD_all : ClD K (rAll K) allC := by
  intro S H vs ds o Q hS hv he q
  unfold allC at he
  split at he
  · rename_i xs
    cases e : asBs xs with
    | none => rw [e] at he; cases he
    | some bs =>
      rw [e] at he
      cases he
      obtain ⟨v, rfl, w⟩ := vwAll1 hv
      obtain ⟨a, us, rfl, h1, h2⟩ := w.list hS
      have := asBs_ok h2 e
      subst this
      exact ⟨a, bs, rfl, h1.seq, q _ (.bl _)⟩
  · cases he
theorem clD_any : ClD K (rAny K) anyC := by
  intro S H vs ds o Q hS hv he q
  unfold anyC at he
  split at he
  · rename_i xs
    cases e : asBs xs with
    | none => rw [e] at he; cases he
    | some bs =>
      rw [e] at he
      cases he
      obtain ⟨v, rfl, w⟩ := vwAll1 hv
      obtain ⟨a, us, rfl, h1, h2⟩ := w.list hS
      have := asBs_ok h2 e
      subst this
      exact ⟨a, bs, rfl, h1.seq, q _ (.bl _)⟩
  · cases he
def sumC : List D → Option O := fun ds => match ds with
  | [.list xs] => (asIs xs).map fun bs => .d (.int bs.sum)
  | _ => none
theorem clD_sum : ClD K (rSum K) sumC := by
  intro S H vs ds o Q hS hv he q
  unfold sumC at he
  split at he
  · rename_i xs
    cases e : asIs xs with
    | none => rw [e] at he; cases he
    | some bs =>
      rw [e] at he
      cases he
      obtain ⟨v, rfl, w⟩ := vwAll1 hv
      obtain ⟨a, us, rfl, h1, h2⟩ := w.list hS
      have := asIs_ok h2 e
      subst this
      exact ⟨a, bs, rfl, h1.seq, q _ (.int _)⟩
  · cases he
/-! sorted of a list of ints -/
def insI (x : Int) : List Int → List Int
  | [] => [x]
  | y :: ys => if x ≤ y then x :: y :: ys else y :: insI x ys
def sortI : List Int → List Int
  | [] => []
  | x :: xs => insI x (sortI xs)
theorem insI_perm (x : Int) : ∀ ys : List Int, (insI x ys).Perm (x :: ys)
  | [] => .refl _
  | y :: ys => by
    unfold insI
    split
    · exact .refl _
    · exact (List.Perm.cons y (insI_perm x ys)).trans (List.Perm.swap x y ys)
theorem insI_sorted (x : Int) : ∀ {ys : List Int}, ys.Pairwise (· ≤ ·) → (insI x ys).Pairwise (· ≤ ·)
  | [], _ => by simp [insI]
  | y :: ys, h => by
    unfold insI
    split
    · rename_i hl
      refine List.Pairwise.cons (fun z hz => ?_) h
      rcases List.mem_cons.mp hz with e | hz
      · rw [e]; exact hl
      · exact Int.le_trans hl ((List.pairwise_cons.mp h).1 z hz)
    · rename_i hl
      obtain ⟨h1, h2⟩ := List.pairwise_cons.mp h
      refine List.Pairwise.cons (fun z hz => ?_) (insI_sorted x h2)
      rcases List.mem_cons.mp ((insI_perm x ys).mem_iff.mp hz) with e | hz
      · rw [e]; omega
      · exact h1 z hz
theorem sortI_perm : ∀ xs : List Int, (sortI xs).Perm xs
  | [] => .refl _
  | x :: xs => (insI_perm x _).trans (List.Perm.cons x (sortI_perm xs))
theorem sortI_sorted : ∀ xs : List Int, (sortI xs).Pairwise (· ≤ ·)
  | [] => List.Pairwise.nil
  | x :: xs => insI_sorted x (sortI_sorted xs)
theorem sorted_uniq : ∀ {xs ys : List Int}, xs.Perm ys → xs.Pairwise (· ≤ ·) → ys.Pairwise (· ≤ ·) → xs = ys
  | [], ys, p, _, _ => (List.Perm.nil_eq p)
  | x :: xs, [], p, _, _ => absurd p.length_eq (by simp)
  | x :: xs, y :: ys, p, h1, h2 => by
    obtain ⟨a1, a2⟩ := List.pairwise_cons.mp h1
    obtain ⟨b1, b2⟩ := List.pairwise_cons.mp h2
    have e : x = y := by
      have m1 : x ∈ y :: ys := p.mem_iff.mp (by simp)
      have m2 : y ∈ x :: xs := p.mem_iff.mpr (by simp)
      rcases List.mem_cons.mp m1 with e | m1
      · exact e
      · rcases List.mem_cons.mp m2 with e | m2
        · exact e.symm
        · have := b1 x m1
          have := a1 y m2
          omega
    subst e
    rw [sorted_uniq (List.Perm.cons_inv p) a2 b2]
theorem ints_all {S : Hp} : ∀ (ns : List Int), DqAll K S (ns.map V.int) (ns.map PyData.int)
  | [] => .nil
  | n :: ns => .cons (.int n) (ints_all ns)
/-! isinstance -/
def tyN : D → String
  | .none => "NoneType"
  | .bool _ => "bool"
  | .int _ => "int"
  | .str _ => "str"
  | .list _ => "list"
  | .tuple _ => "tuple"
  | .dict _ => "dict"
/-- a value's type; a dict with tuples as keys too -/
def TyY (K : Kx) (H : Hp) (v : V) (t : Value) : Prop := TyX K.fr H v t ∨ ∃ a xs, v = .ref a ∧ H a = some (DRO K a xs) ∧ t = .type "dict"
theorem kit_Y {X : Cx} {pins : List (Addr × Obj)} {σ : L2.St} {H : Hp} {s : Shared} {x : V} {u t : Value} (I : Inv X pins σ H s) (rx : RelV x u) (ty : TyY (kx X) H x t) : ∃ P : Heap → Prop, PySem.W.KitX X.K u t P ∧ P s.heap ∧ u ≠ .builtin "__main__.__loader__#opaque" := by
  rcases ty with ty | ⟨a, xs, rfl, ea, rfl⟩
  · exact kit_of I rx ty
  · cases (show u = Value.ref a from rx)
    obtain ⟨⟨_, _, _, ys, _, o, es, ep, w1, w2, _⟩, _, _⟩ := (show ObjOk X.prog X.w H s.heap a (DRO (kx X) a xs) from I.hok a _ ea)
    exact ⟨_, PySem.W.kitx_dict, ⟨o, w1, w2.1⟩, fun z => nomatch z⟩
def rIsY (K : Kx) : List V → Hp → VK → Prop := fun xs H Q => ∃ (x c : V) (t u : Value) (b : Bool), xs = [x, c] ∧ ClsV c u ∧ TyY K H x t ∧ PySem.W.kitOne K.fr t u = some b ∧ Q (.bl b) H
theorem cr_isY {X : Cx} : CallR X (.builtin "isinstance") (rIsY (kx X)) := by
  intro pins s σ H xs us Q I r h
  obtain ⟨x, c, t, u, b, rfl, k, ty, e, q⟩ := h
  cases r with
  | cons r1 r' =>
    cases r' with
    | cons r2 r3 =>
      cases r3
      have e2 := k.eq r2
      subst e2
      obtain ⟨P, Z, p, hx⟩ := kit_Y I r1 ty
      exact PySem.W.kia_one Z I.kIn p e hx fun tk => ⟨.bl b, H, I.tok tk, rfl, q⟩
theorem ty_x {S H : Hp} {v : V} {d : D} (e : Same S H) (h : Vw K S H v d) : TyY K H v (.type (tyN d)) := by
  cases h.dq e with
  | dix hr _ => exact .inr ⟨_, _, rfl, hr, rfl⟩
  | non => exact .inl <| .base .non
  | bl b => exact .inl <| .base (.bl b)
  | int i => exact .inl <| .base (.int i)
  | str x => exact .inl <| .base (.str x)
  | lst hr _ =>
    rcases hr with (hr | ⟨o, hr⟩) | ⟨its, n, hk, _, _⟩
    · exact .inl <| .base (.lst hr)
    · exact .inl <| .base (.frz hr)
    · exact .inl <| .kList hk rfl
  | tup hr _ =>
    rcases hr with (hr | ⟨o, hr⟩) | ⟨o, its, n, hk, hc, _⟩
    · exact .inl <| .base (.tup hr)
    · exact .inl <| .fTuple hr
    · exact .inl <| .kTuple hk hc
  | dic hr _ =>
    rcases hr with hr | ⟨o, hr⟩
    · exact .inl <| .base (.dK hr)
    · exact .inl <| .fDict hr
/-- isinstance(x, T), T a built-in type -/
def isiF (T : String) (f : EF) : EF := fun Γ => (f Γ).bind fun r Γ1 => match view Γ1 r with
  | some d => match kitB (tyN d) T with
    | some b => .ok (.d (.bool b)) Γ1
    | none => .no
  | none => .no
theorem px_isi {T : String} {e : Expr} {f : EF} {x : Str} {p p2 pos : Pos} (hg : Gl X "isinstance") (hm : X.mg "isinstance" = none) (hgT : Gl X x) (hmT : X.mg x = none) (hvT : bootBuiltins x = some (.type T)) (pe : PX X e f)
    (hnT : x ≠ "__name__" := by decide) (hdT : (x == ("__debug__" : Str)) = false := by decide)
    (he : starEach [e, .Name x p2] X.env = (false, eval e X.env) :: starEach [.Name x p2] X.env := by rfl) (he2 : starEach [.Name x p2] X.env = (false, eval (.Name x p2) X.env) :: starEach [] X.env := by rfl) (hpl : (backTo pos (starEach [.Name x p2] X.env)).any (·.1) = false := by rfl)
    (hv : bootBuiltins "isinstance" = some (.builtin "isinstance") := by decide +kernel) : PX X (.Call (.Name "isinstance" p) [e, .Name x p2] [] pos) (isiF T f) := by
  refine ⟨fun W tk S H σ Γ Q E G => tW_of (pe_callB cr_isY hg hm hv (pa_cons pe_w (pa_cons (pe_bltn (v := .ty T) hgT hmT hvT rfl hnT hdT) pa_nil he2) he) (hpl := hpl) (he := he)) (seq1 tk pe E G fun S2 H2 Γ2 v r1 F E2 R G => ?_)⟩
  cases e1 : view Γ2 r1 with
  | none => rw [e1] at G; exact G.elim
  | some d =>
    rw [e1] at G
    dsimp only at G
    cases e2 : kitB (tyN d) T with
    | none => rw [e2] at G; exact G.elim
    | some b =>
      rw [e2] at G
      exact ⟨v, .ty T, .type (tyN d), .type T, b, rfl, .ty T, ty_x E2.sub (R.vw E2 e1), kit_ty e2, G S2 H2 _ F E2 (.bl b)⟩
/-! xs[::-1], {} -/
def revL (f : EF) : EF := fun Γ => (f Γ).bind fun r Γ1 => match view Γ1 r with
  | some (.list xs) => .ok (.l xs.reverse) Γ1
  | _ => .no
theorem px_revL {e : Expr} {f : EF} {k : Nat} {p1 p2 p3 pos : Pos} (pe : PX X e f) : PX X (.Subscript e (.Slice none none (some (.UnaryOp .USub (.Constant (.int 1) k p1) p2)) p3) pos) (revL f) := by
  refine ⟨fun W tk S H σ Γ Q E G => tW_of (pe_revL pe_w) (seq1 tk pe E G fun S2 H2 Γ2 v r1 F E2 R G => ?_)⟩
  cases e1 : view Γ2 r1 with
  | none => rw [e1] at G; exact G.elim
  | some d =>
    rw [e1] at G
    cases d <;> first
      | exact G.elim
      | skip
    rename_i xs
    obtain ⟨a, us, rfl, h1, h2⟩ := (R.vw E2 e1).list E2.sub
    exact ⟨a, us, rfl, h1.seq, fun p hp => fin_of E2 (o := .l xs.reverse) (EG.shift F G) p _ hp (DqAll.reverse h2)⟩
def dic0 : EF := fun Γ => .ok (.d (.dict [])) Γ
theorem px_dic0 {pos : Pos} : PX X (.Dict [] [] pos) dic0 := by
  refine ⟨fun W tk S H σ Γ Q E G => tW_of pe_dnewK fun p hp => ?_⟩
  exact G _ _ _ (.pushD E hp _) (E.pushD hp _) (.dic (.inl upd_same) .nil)
/-! zip of two lists, of two tuples -/
def zipD : List D → List D → List D
  | x :: xs, y :: ys => .tuple [x, y] :: zipD xs ys
  | _, _ => []
theorem zipD_get : ∀ {xs ys : List D} {i : Nat} {d : D}, (zipD xs ys)[i]? = some d → ∃ x y, xs[i]? = some x ∧ ys[i]? = some y ∧ d = .tuple [x, y]
  | [], _, _, _, h => by simp [zipD] at h
  | _ :: _, [], _, _, h => by simp [zipD] at h
  | x :: xs, y :: ys, 0, d, h => by
    simp only [zipD, List.getElem?_cons_zero, Option.some.injEq] at h
    exact ⟨x, y, rfl, rfl, h.symm⟩
  | x :: xs, y :: ys, i + 1, d, h => by
    simp only [zipD, List.getElem?_cons_succ] at h
    obtain ⟨a, b, h1, h2, h3⟩ := zipD_get h
    exact ⟨a, b, by simpa using h1, by simpa using h2, h3⟩
theorem zipD_len : ∀ {xs ys : List D} {i : Nat}, (zipD xs ys).length ≤ i → xs.length ≤ i ∨ ys.length ≤ i
  | [], _, _, _ => .inl (Nat.zero_le _)
  | _ :: _, [], _, _ => .inr (Nat.zero_le _)
  | x :: xs, y :: ys, 0, h => by simp [zipD] at h
  | x :: xs, y :: ys, i + 1, h => by
    simp only [zipD, List.length_cons, Nat.add_le_add_iff_right] at h ⊢
    exact zipD_len h
theorem new_pair {S H : Hp} {T : Addr} {x y : V} {d e : D} (hS : Same S H) (hT : H T = none) (hx : Dq K S x d) (hy : Dq K S y e) :
    ∃ S', Same S S' ∧ Same H (upd H T (.tup [x, y])) ∧ Same S' (upd H T (.tup [x, y])) ∧ (∀ b, S b = none → H b ≠ none → S' b = none) ∧ Dq K S' (.ref T) (.tuple [d, e]) := by
  have hs : S T = none := Same.free hS hT
  refine ⟨upd S T (.tup [x, y]), Same.upd hs, Same.upd hT, fun b o h => ?_, fun b h n => ?_, dp_tup upd_same (.cons (Same.dp (Same.upd hs) hx) (.cons (Same.dp (Same.upd hs) hy) .nil))⟩
  · by_cases e : b = T
    · subst e
      rw [upd_same] at h ⊢
      exact h
    · rw [upd_ne e] at h ⊢
      exact hS b o h
  · rw [upd_ne (fun e : b = T => n (by rw [e]; exact hT))]
    exact h
theorem itd_zip {S : Hp} {a b : Addr} {vs ws : List V} {xs ys : List D} (h1 : Ls K S a vs) (h2 : DqAll K S vs xs) (h3 : Ls K S b ws) (h4 : DqAll K S ws ys) : ItD K S (Itz K a b) (zipD xs ys) := by
  intro i S1 H e1 e2
  have q1 : SqL K H a vs := (Same.ls (e1.trans e2) h1).seq
  have q2 : SqL K H b ws := (Same.ls (e1.trans e2) h3).seq
  refine ⟨fun d hd => ?_, fun hl => ⟨vs, ws, q1, q2, by rw [DqAll.length h2, DqAll.length h4]; exact zipD_len hl⟩⟩
  obtain ⟨x, y, g1, g2, rfl⟩ := zipD_get hd
  obtain ⟨v, v1, v2⟩ := DqAll.get h2 g1
  obtain ⟨w, w1, w2⟩ := DqAll.get h4 g2
  refine ⟨⟨vs, ws, v, w, q1, q2, v1, w1⟩, fun u H' ⟨T, x', y', e3, nT, e4, f1, f2⟩ => ?_⟩
  subst e3 e4
  have z1 := f1 vs q1
  have z2 := f2 ws q2
  rw [v1] at z1
  rw [w1] at z2
  cases z1
  cases z2
  exact new_pair e2 nT (Same.dp e1 v2) (Same.dp e1 w2)
theorem itd_zipT {S : Hp} {a b : Addr} {vs ws : List V} {xs ys : List D} (h1 : SqT K S a vs) (h2 : DqAll K S vs xs) (h3 : SqT K S b ws) (h4 : DqAll K S ws ys) : ItD K S (RZ.ItzT K a b) (zipD xs ys) := by
  intro i S1 H e1 e2
  have q1 : SqT K H a vs := Same.seqT (e1.trans e2) h1
  have q2 : SqT K H b ws := Same.seqT (e1.trans e2) h3
  refine ⟨fun d hd => ?_, fun hl => ⟨vs, ws, q1, q2, by rw [DqAll.length h2, DqAll.length h4]; exact zipD_len hl⟩⟩
  obtain ⟨x, y, g1, g2, rfl⟩ := zipD_get hd
  obtain ⟨v, v1, v2⟩ := DqAll.get h2 g1
  obtain ⟨w, w1, w2⟩ := DqAll.get h4 g2
  refine ⟨⟨vs, ws, v, w, q1, q2, v1, w1⟩, fun u H' ⟨T, x', y', e3, nT, e4, f1, f2⟩ => ?_⟩
  subst e3 e4
  have z1 := f1 vs q1
  have z2 := f2 ws q2
  rw [v1] at z1
  rw [w1] at z2
  cases z1
  cases z2
  exact new_pair e2 nT (Same.dp e1 v2) (Same.dp e1 w2)
def zipF (t : Ge → Out (List R)) : LF := fun Γ => (t Γ).bind fun rs Γ1 => match rs with
  | [.d (.list xs), .d (.list ys)] => .ok (zipD xs ys) Γ1
  | [.d (.tuple xs), .d (.tuple ys)] => .ok (zipD xs ys) Γ1
  | _ => .no
theorem rok2 {S : Sx} {H0 H : Hp} {σ : L2.St} {vs : List V} {r1 r2 : R} (h : ROkAll K σ S0 H0 S H vs [r1, r2]) : ∃ v w, vs = [v, w] ∧ ROk K S0 H0 S H σ v r1 ∧ ROk K S0 H0 S H σ w r2 := by
  match vs, h with
  | [v, w], h => exact ⟨v, w, rfl, h.1, h.2.1⟩
theorem pix_zip {e e2 : Expr} {t : Ge → Out (List R)} {p pos tpos : Pos} {elts : List Expr} {kk : Nat} (hg : Gl X "zip") (hm : X.mg "zip" = none) (pa : PAx X [e, e2] t)
    (hs : starEach [e, e2] X.env = (false, eval e X.env) :: starEach [e2] X.env := by rfl) (hpl : (backTo pos (starEach [e2] X.env)).any (·.1) = false := by rfl) :
    PIx X (.Tuple elts kk tpos) (.Call (.Name "zip" p) [e, e2] [] pos) (zipF t) := by
  refine ⟨fun W tk S H σ Γ R' E G => tWI_of (RZ.pi_zipA hg hm pa_w hs hpl) ?_⟩
  refine tWA_mono (pa.run W tk S H σ Γ _ E (OG.bind G)) fun vs H2 ⟨S2, rs, Γ2, _, F, E2, R2, G2⟩ => ?_
  split at G2
  · rename_i xs ys
    obtain ⟨v, w, rfl, h1, h2⟩ := rok2 R2
    cases h1 with
    | lst a1 a2 =>
      cases h2 with
      | lst b1 b2 => exact ⟨_, _, _, _, rfl, .inl ⟨(Same.ls E2.sub a1).seq, (Same.ls E2.sub b1).seq, G2 S2 H2 _ F E2 (itd_zip a1 a2 b1 b2)⟩⟩
  · rename_i xs ys
    obtain ⟨v, w, rfl, h1, h2⟩ := rok2 R2
    cases h1 with
    | tup a1 a2 =>
      cases h2 with
      | tup b1 b2 => exact ⟨_, _, _, _, rfl, .inr ⟨Same.seqT E2.sub a1, Same.seqT E2.sub b1, G2 S2 H2 _ F E2 (itd_zipT a1 a2 b1 b2)⟩⟩
  · exact G2.elim
end
/-! ### comprehensions, as rules -/
section
variable {X : Cx} {tg iter elt : Expr} {ifs : List Expr} {scope : Scope} {own : List (Str × Nat)} {pos spos : Pos} {it : LF} {g : GF} {u : BF} {f : EF}
theorem px_lc (hc : X.calm = true) (hN : X.N.Nodup) (hi : PIx X tg iter it) (ok : BlkOk X.N X.env.scope scope own)
    (hg : ∀ (s : Shared) (H : Hp) (C : Addr) (cl : List (Str × Addr)) (fp : List Addr), PGc (X.blk s H scope (compEnvC scope cl C X.env) fp) (own.map (·.2)) tg g) (hx : NoEx g)
    (ht : ∀ (s : Shared) (H : Hp) (C : Addr) (cl : List (Str × Addr)) (fp : List Addr), PTsx (X.blk s H scope (compEnvC scope cl C X.env) fp) ifs u)
    (he : ∀ (s : Shared) (H : Hp) (C : Addr) (cl : List (Str × Addr)) (fp : List Addr), PX (X.blk s H scope (compEnvC scope cl C X.env) fp) elt f) (hs : ∀ x, foldedSetIterable iter X.env x = pure x := by intro _; rfl) :
    PX X (.ListComp elt [⟨tg, iter, ifs, 0⟩] scope pos) (lcF it g u f (own.map (·.2))) :=
  ⟨fun W tk S H σ Γ Q E G => tW_of (pe_lc hc hN pi_w ok (g := gAll X scope tg) (tt := tAll X scope ifs) (te := eAll X scope elt)
    (fun s H C cl fp => ⟨fun pins sh σ H' v u Q I r h => h s H C cl fp pins sh u I r⟩) (fun s H C cl fp => ⟨fun pins sh σ H' Q I h => h s H C cl fp pins sh I⟩) (fun s H C cl fp => ⟨fun pins sh σ H' Q I h => h s H C cl fp pins sh I⟩) hs)
    (lc_run tk hi hg hx ht he E G)⟩
/-- name = [..] -/
theorem psx_setLc {i : Nat} {y : Str} {py : Pos} (hc : X.calm = true) (hN : X.N.Nodup) (hy : X.N[i]? = some y) (hyl : X.env.scope.names.lookup y = some .local) (hsw : swapsWith (.ListComp elt [⟨tg, iter, ifs, 0⟩] scope pos) (some (.Name y py)) spos.line X.env = pure true)
    (hi : PIx X tg iter it) (ok : BlkOk X.N X.env.scope scope own)
    (hg : ∀ (s : Shared) (H : Hp) (C : Addr) (cl : List (Str × Addr)) (fp : List Addr), PGc (X.blk s H scope (compEnvC scope cl C X.env) fp) (own.map (·.2)) tg g) (hx : NoEx g)
    (ht : ∀ (s : Shared) (H : Hp) (C : Addr) (cl : List (Str × Addr)) (fp : List Addr), PTsx (X.blk s H scope (compEnvC scope cl C X.env) fp) ifs u)
    (he : ∀ (s : Shared) (H : Hp) (C : Addr) (cl : List (Str × Addr)) (fp : List Addr), PX (X.blk s H scope (compEnvC scope cl C X.env) fp) elt f) (hs : ∀ x, foldedSetIterable iter X.env x = pure x := by intro _; rfl) :
    PSx X (.Assign [.Name y py] (.ListComp elt [⟨tg, iter, ifs, 0⟩] scope pos) spos) (setF (gN i) (lcF it g u f (own.map (·.2)))) := by
  refine ⟨fun W tk S H σ Γ Z E G => tWS_of (ps_setLc hc hN hy hyl hsw pi_w ok (g := gAll X scope tg) (tt := tAll X scope ifs) (te := eAll X scope elt)
    (fun s H C cl fp => ⟨fun pins sh σ H' v u Q I r h => h s H C cl fp pins sh u I r⟩) (fun s H C cl fp => ⟨fun pins sh σ H' Q I h => h s H C cl fp pins sh I⟩) (fun s H C cl fp => ⟨fun pins sh σ H' Q I h => h s H C cl fp pins sh I⟩) hs)
    (lc_run (Q := fun v H1 => gName i v σ H1 Z.nx) tk hi hg hx ht he E ?_)⟩
  have G1 := SG.bind (rel := fun S' H' Γ' v r => ROk (kx X) S H S' H' σ v r) G
  revert G1
  cases lcF it g u f (own.map (·.2)) Γ with
  | no => exact fun z => z
  | ex _ _ => exact fun z => z
  | ok r Γ' =>
    intro z S' H' v F' E' R'
    obtain ⟨S2, r2, Γ2, e2, F2, E2, R2, G2⟩ := z S' H' v F' E' R'
    cases e2
    exact setN_ok F2 E2 R2 (UG_of_SG G2 fun x Γ' => noex_name _ _ _ _)
end
end Ly
set_option maxRecDepth 100000
set_option maxHeartbeats 4000000
/-! sorted(t), t a tuple of ints -/
namespace SrtT
open PySem PyProof.Rows Srt SrtO
section
variable {pr : Program} {w : World} {A : Around} {E : Value → Shared → Prop} {s : Shared}
theorem gather_tup {t : Addr} {us : List Value} {R : List Value → Shared → Prop} (ht : IsTup s.heap t us.toArray) (hz : us.length ≤ sizeLine)
    (k : R us { s with heap := (s.heap.push (seqObj "list" #[] 0)).update s.heap.objs.size (Obj.mapSeq (· ++ us.toArray)) }) : wpAny (model pr w) A (collect (.ref t)) R E s := by
  obtain ⟨b, hb, cb, m, db⟩ := ht
  unfold collect; refine wpAny_bind (wpAny_runValue (codeAny_builtin entry_proto_collect' ?_))
  show wpAny _ _ (do again (.builtin "list.__iadd__" ⟨[← newList [], .ref t], []⟩)) _ _ s
  refine wpAny_bind (wpAny_newList (wpAny_pure ⟨(Code.quiet_builtin _ (by decide +kernel)), (codeAny_builtin entry_list_iadd' ?_)⟩))
  show wpAny _ _ (Builtin.List.listExtendWith (.ref s.heap.objs.size) (.ref t) (.ref s.heap.objs.size)) _ _ { s with heap := s.heap.push (seqObj "list" #[] 0) }
  unfold Builtin.List.listExtendWith; have hb' : (s.heap.push (seqObj "list" #[] 0)).get? t = some b := Heap.get?_push_of_some _ hb
  refine wpAny_bind (wpAny_typeOf (T := "tuple") ⟨b, hb', cb⟩ ?_)
  have tt : (Value.type "tuple" == Value.type "tuple") = true := by rfl
  rw [if_pos (by rw [tt]; simp)]; refine wpAny_bind (listItems_at hb' db ?_)
  refine wpAny_bind (listItems_at (n := 0) (xs := #[]) (Heap.get?_push_size _ rfl) rfl ?_); rw [if_neg (by simp)]
  refine wpAny_bind (listUpdate_at (n := 0) (xs := #[]) (Heap.get?_push_size _ rfl) rfl ?_ (Nat.zero_le _) (by show (#[] ++ us.toArray).size ≤ sizeLine + 1; rw [Array.size_append, List.size_toArray]; simp only [List.size_toArray, List.length_nil]; omega))
  refine wpAny_pure ?_
  refine wpAny_bind (wpAny_load (get?_update_seq (Heap.get?_push_size _ rfl) _) ?_)
  show wpAny _ _ (pure ((#[] : Array Value) ++ us.toArray).toList) R E _
  have e : ((#[] : Array Value) ++ us.toArray).toList = us := by simp
  rw [e]; exact wpAny_pure k
theorem sorted_tup {t : Addr} {us : List Value} {lt : Value → Value → Bool} {R : Value → Shared → Prop} (O : Swo lt) (ht : IsTup s.heap t us.toArray) (hz : us.length ≤ sizeLine)
    (hS : 2 ≤ us.length → ∀ (h₁ : Heap) (a : Addr), SortableO pr w A.in1.in1 { s with heap := h₁ } a us lt)
    (k : ∀ out : List Value, Srtd lt out → Stb lt out us → R (.ref (s.heap.objs.size + 1)) { s with heap := sortedAll s.heap us out.toArray }) :
    wpAny (model pr w) A (call (.builtin "sorted") [.ref t]) R E s := by
  refine Calls.call_function_entry kind_sorted plain_sorted entry_sorted (args_sorted1 _) ?_; unfold Builtin.«sorted»
  refine wpAny_bind (m := checkCount "sorted" 1 1 _) (wpAny_pure (wpAny_bind (gather_tup ht hz ?_))); refine wpAny_bind (wpAny_newList ?_ hz)
  have sz : ((s.heap.push (seqObj "list" #[] 0)).update s.heap.objs.size (Obj.mapSeq (· ++ us.toArray))).objs.size = s.heap.objs.size + 1 := by rw [Heap.size_update, size_push']
  have hL : (((s.heap.push (seqObj "list" #[] 0)).update s.heap.objs.size (Obj.mapSeq (· ++ us.toArray))).push (seqObj "list" us.toArray 0)).get? (s.heap.objs.size + 1) = some (seqObj "list" us.toArray 0) := by rw [← sz]; exact Heap.get?_push_size _ rfl
  show wpAny _ _ _ _ _ { s with heap := ((s.heap.push (seqObj "list" #[] 0)).update s.heap.objs.size (Obj.mapSeq (· ++ us.toArray))).push (seqObj "list" us.toArray 0) }
  rw [sz]
  exact wpAny_bind (wpAny_holding (wpAny_call_entry slot_list_sort ⟨_, hL, rfl⟩ entry_list_sort (list_sort_ord O hL hz (fun h2 => hS h2 _ _) fun out hs hb => ⟨_, rfl, wpAny_pure ⟨_, rfl, k out hs hb⟩⟩) (args_list_sort _)))
end
end SrtT
namespace Ly
open PySem L2 PySem.Spec PyProof.Rows
section
variable {K : Kx} {X : Cx}
/-- sorted of a list or a tuple of ints -/
def rSortedA (K : Kx) : List V → Hp → VK → Prop := fun vs H Q => ∃ (a : Addr) (ns : List Int), vs = [V.ref a] ∧ (SqL K H a (ns.map V.int) ∨ SqT K H a (ns.map V.int)) ∧ ∀ (m : List Int) (p : Addr), m.Perm ns → m.Pairwise (· ≤ ·) → H p = none → Q (.ref p) (upd H p (.lst (m.map V.int)))
theorem cr_sortedA : CallR X (.builtin "sorted") (rSortedA (kx X)) := by
  intro pins s σ H vs us Q I r h
  obtain ⟨a, ns, rfl, hs, q⟩ := h
  rcases hs with hs | hs
  · exact cr_sortedI pins s σ H _ us Q I r ⟨a, ns, rfl, hs, q⟩
  · obtain ⟨its, rv, hl, hz⟩ := I.tuple hs
    rw [Vals.ref1 r]
    have hi := rv.ints
    refine SrtT.sorted_tup SrtO.swo_int hl (by rw [← rv.length]; exact hz) (fun h2 h₁ a' => SrtO.ints_sortable hi h2) fun out h1 h2 => ?_
    obtain ⟨k1, k2, k3⟩ := SrtO.ints_out hi h1 h2
    obtain ⟨ep, e2⟩ := PyProof.Rows.sortedAll_at s.heap its out.toArray
    have hm : ((out.map SrtO.iv).map V.int).length ≤ sizeLine := by
      rw [List.length_map] at hz ⊢
      rw [k2.length_eq]; exact hz
    exact ⟨.ref _, upd H (s.heap.objs.size + 1) (.lst ((out.map SrtO.iv).map V.int)), (I.laid (t' := s.toks) (fun _ _ => PyProof.Rows.sortedAll_old) (Nat.le_succ _) ⟨hm, out, ep, vals_of_ints k1, e2⟩), rfl, (q _ _ k2 k3 (I.hok.fresh (Nat.le_succ _)))⟩
def sortedC : List D → Option O := fun ds => match ds with
  | [.list xs] => (asIs xs).map fun bs => .l ((sortI bs).map .int)
  | [.tuple xs] => (asIs xs).map fun bs => .l ((sortI bs).map .int)
  | _ => none
theorem clD_sortedA : ClD K (rSortedA K) sortedC := by
  intro S H vs ds o Q hS hv he q
  unfold sortedC at he
  split at he
  · rename_i xs
    cases e : asIs xs with
    | none => rw [e] at he; cases he
    | some bs =>
      rw [e] at he
      cases he
      obtain ⟨v, rfl, w⟩ := vwAll1 hv
      obtain ⟨a, us, rfl, h1, h2⟩ := w.list hS
      have := asIs_ok h2 e
      subst this
      refine ⟨a, bs, rfl, .inl h1.seq, fun m p hp hs hn => ?_⟩
      have : m = sortI bs := sorted_uniq (hp.trans (sortI_perm bs).symm) hs (sortI_sorted bs)
      subst this
      exact q p _ hn (ints_all _)
  · rename_i xs
    cases e : asIs xs with
    | none => rw [e] at he; cases he
    | some bs =>
      rw [e] at he
      cases he
      obtain ⟨v, rfl, w⟩ := vwAll1 hv
      obtain ⟨a, us, rfl, h1, h2⟩ := w.tup hS
      have := asIs_ok h2 e
      subst this
      refine ⟨a, bs, rfl, .inr h1, fun m p hp hs hn => ?_⟩
      have : m = sortI bs := sorted_uniq (hp.trans (sortI_perm bs).symm) hs (sortI_sorted bs)
      subst this
      exact q p _ hn (ints_all _)
  · cases he
end
end Ly
set_option maxRecDepth 100000
namespace Ly
open PySem L2

/-! ### the end of a law -/
theorem Ls.of_seq {K : Kx} {H : Hp} {a : Addr} {xs : List V} {vs : List Value} (h : SqL K.fr H a xs) (hx : ∀ o, K.fr.lookup a = some o → o = { cls := .type "list", data := .seq vs.toArray }) : Ls K H a xs := by
  rcases h with h | ⟨o, its, n, hk, _, _, hd, hz, rv⟩
  · exact .inl h
  · have e := hx o hk
    subst e
    cases hd
    refine .inr ⟨vs, _, hk, by simpa using rv, ?_⟩
    have := rv.length
    simp only [Array.length_toList, List.size_toArray] at this hz
    omega
theorem law_end {l : PySem.W.OpenLaw} {n k : Nat} {q : Program} {loose : List Str} {XP : (Str → Option Value) → Heap → Prop} {YP : World → Heap → Prop} {d : DefRec} {K : Params → PySem.W.Frag} {M : World → (Str → Option Value) → FM} {x : Str}
    (hn : l.most = some n) (hz : n ≤ sizeLine) (hdf : d.params.defaults = []) (hr : Room k callerA) (hY : ∀ (w : World) (h : Heap), YP w h → (K w.params).In h)
    (F : ∀ (w : World) (mg : Str → Option Value) (fa : Addr) (h : Heap), (K w.params).In h → h.Ns mainGlobals mg → mg d.name = some (.ref fa) → ∃ fd : FuncData, (∀ (s : Shared) (u : Value), BindsTo s fd ⟨[u], []⟩ [(x, u)]) ∧
      ∀ base : Heap, (K w.params).In base → base.Ns mainGlobals mg → FnOk l.prog w (K w.params) mg base (L2.CX l.prog w) k fa fd [x] (spM ⟨K w.params, l.prog, w, clOf mg⟩ mg 1 (M w mg)))
    (hM : ∀ (w : World) (mg : Str → Option Value) (ns : List Int), ns.length ≤ n → ∃ Γ, M w mg [.d (.list (ns.map .int))] = .ok (.d (.bool true)) Γ) :
    PySem.W.WalkO q loose XP YP l.row.toRowW d [] (fun f vs => PySem.call f vs) := by
  refine Att.attach_call hn hdf fun w s₀ s₁ mg mb fa o pm cd doc a vs ns G Y ho hd hcd hmg hobj hints hlen hg => ?_
  have KX := hY w _ Y
  obtain ⟨fd, hb, hF⟩ := F w mg fa _ KX G.T.g hmg
  refine law_call KX G.T.g G.T.b G.T.builtins G.T.nolimit hg hobj hints (Nat.le_trans hlen hz) hr hF hb (fun H hO hS => ?_) fun H e s' hc => ?_
  · have ls : Ls ⟨K w.params, l.prog, w, clOf mg⟩ H a (ns.map V.int) := Ls.of_seq (vs := vs) hS fun o' hk => by
      have e := KX a o' hk
      rw [hobj] at e
      exact (Option.some.inj e).symm
    obtain ⟨Γ, hm⟩ := hM w mg ns hlen
    refine ⟨⟨H, fun _ => []⟩, [.d (.list (ns.map .int))], rfl, ⟨rfl, Same.refl H, fun i sl h => ?_, fun _ _ => rfl, fun i j b h1 _ => by simp at h1⟩, fun i sl h => ?_, ?_⟩
    · cases i with
      | zero => cases h; exact ⟨_, rfl, rfl, .ref a, rfl, .lst ls (ints_all ns)⟩
      | succ i => simp at h
    · cases i with
      | zero => cases h; trivial
      | succ i => simp at h
    · rw [hm]
      intro S' H' v _ _ hv
      cases hv
      rfl
  · obtain ⟨_, _, _, _, _, _, _, _, _, _, _, _, z⟩ := hc
    exact z.elim
end Ly
set_option maxRecDepth 100000
namespace Ly
open PySem L2 PySem.Spec PyProof.Rows

/-! ### t[::-1] -/
section
variable {prog : Program} {w : World} {A : Around} {E : Value → Shared → Prop} {s : Shared}
theorem applied_rev {sl : Addr} {vl vu vs : Value} {n : Nat} {Q : Int × Int × Nat → Shared → Prop} (hs : s.heap.IsSliceOf sl vl vu vs) (pl : IsPart vl none) (pu : IsPart vu none) (ps : IsPart vs (some (-1)))
    (h : Q ((n : Int) - 1, -1, n) s) : wpAny (model prog w) A (Builtin.Slice.sliceApplied (.ref sl) (pure (n : Int))) Q E s := by
  obtain ⟨os, ho, _, hd⟩ := hs
  unfold Builtin.Slice.sliceApplied Builtin.Slice.sliceFields
  refine wpAny_bind (wpAny_bind (wpAny_field ho hd (x := vl) rfl (wpAny_bind (wpAny_field ho hd (x := vu) rfl (wpAny_bind (wpAny_field ho hd (x := vs) rfl (wpAny_pure ?_)))))))
  refine wpAny_bind (HT.slicePart_ ps ?_)
  show wpAny _ _ (if ((-1 : Int) == 0) = true then _ else _) _ _ s
  rw [if_neg (by decide)]
  refine wpAny_bind (HT.slicePart_ pl (wpAny_bind (HT.slicePart_ pu (wpAny_bind (wpAny_pure ?_)))))
  have e1 : Builtin.Slice.sliceAdjust none none (-1) (n : Int) = ((n : Int) - 1, -1) := by simp [Builtin.Slice.sliceAdjust]
  have e2 : Builtin.Slice.slicePlaces ((n : Int) - 1) (-1) (-1) = n := by
    unfold Builtin.Slice.slicePlaces
    rw [if_neg (by decide)]
    by_cases h0 : n = 0
    · subst h0; simp
    · rw [if_pos (by omega)]
      have e : -(-1 : Int) = 1 := rfl
      simp only [e]
      omega
  show wpAny _ _ (match Builtin.Slice.sliceAdjust none none (-1) (n : Int) with | (lo, hi) => pure (lo, (-1 : Int), Builtin.Slice.slicePlaces lo hi (-1))) _ _ s
  rw [e1]
  show wpAny _ _ (pure ((n : Int) - 1, (-1 : Int), Builtin.Slice.slicePlaces ((n : Int) - 1) (-1) (-1))) _ _ s
  rw [e2]
  exact wpAny_pure h
theorem pick_rev (xs : Array Value) : ((List.range xs.size).filterMap fun (m : Nat) => xs[(((xs.size : Int) - 1) + (m : Int) * (-1)).toNat]?).toArray = xs.toList.reverse.toArray := by
  congr 1
  have key : ∀ (l : List Value), (List.range l.length).filterMap (fun (m : Nat) => l[(((l.length : Int) - 1) + (m : Int) * (-1)).toNat]?) = l.reverse := fun l => by
    have h : ∀ (m : Nat), m < l.length → l[(((l.length : Int) - 1) + (m : Int) * (-1)).toNat]? = l.reverse[m]? := fun m hm => by
      rw [List.getElem?_reverse hm]
      congr 1
      omega
    have e : (List.range l.length).filterMap (fun (m : Nat) => l[(((l.length : Int) - 1) + (m : Int) * (-1)).toNat]?) = (List.range l.reverse.length).filterMap (fun m => l.reverse[m]?) := by
      rw [List.length_reverse]
      have congr : ∀ (ks : List Nat), (∀ m ∈ ks, m < l.length) → ks.filterMap (fun (m : Nat) => l[(((l.length : Int) - 1) + (m : Int) * (-1)).toNat]?) = ks.filterMap (fun m => l.reverse[m]?) := fun ks => by
        induction ks with
        | nil => intro _; rfl
        | cons k ks ih =>
          intro hk
          rw [List.filterMap_cons, List.filterMap_cons, h k (hk k (by simp)), ih (fun m hm => hk m (List.mem_cons_of_mem _ hm))]
      exact congr _ fun m hm => List.mem_range.mp hm
    rw [e]
    have all : ∀ (r : List Value), (List.range r.length).filterMap (fun m => r[m]?) = r := fun r => by
      induction r with
      | nil => rfl
      | cons x r ih =>
        rw [List.length_cons, List.range_succ_eq_map, List.filterMap_cons]
        simp only [List.getElem?_cons_zero, List.filterMap_map]
        congr 1
    exact all _
  have := key xs.toList
  simpa using this
theorem get_tup_rev {t sl : Addr} {items : Array Value} {vl vu vs : Value} {Q : Value → Shared → Prop} (ht : IsTup s.heap t items) (hs : s.heap.IsSliceOf sl vl vu vs) (pl : IsPart vl none) (pu : IsPart vu none) (ps : IsPart vs (some (-1)))
    (hz : items.size ≤ sizeLine) (h : Q (.ref s.heap.objs.size) { s with heap := s.heap.push { cls := .type "tuple", data := .seq items.toList.reverse.toArray } }) : wpAny (model prog w) A (getItem (.ref t) (.ref sl)) Q E s := by
  have hTs : s.TypeIs (.ref sl) "slice" := let ⟨os, hos, hcs, _⟩ := hs; ⟨os, hos, hcs⟩
  have fits : sizeOk (.seq items.toList.reverse.toArray) := by
    show items.toList.reverse.toArray.size ≤ sizeLine
    simpa using hz
  unfold getItem
  try with_reducible refine wpAny_holding ?_
  first | refine wpAny_bind (wpAny_pure ?_) | skip
  refine wpAny_bind (wpAny_sequenceKey ht.typeIs (by decide) ?_)
  refine wpAny_bind (wpAny_callSpecial?_slot (name := Str.ofString "__getitem__") ht.typeIs slot_tuple_getitem (wpAny_call_entry slot_tuple_getitem ht.typeIs entry_tuple_getitem ?_ (args_tuple_getitem _ _)))
  show wpAny _ _ (Builtin.Tuple.tupleItemsOf (.ref t) >>= _) _ _ s
  refine wpAny_bind (tupleItemsOf_ ht (wpAny_bind (wpAny_typeOf hTs ?_)))
  rw [if_pos (by decide)]
  refine wpAny_bind (applied_rev hs pl pu ps ?_)
  have hno : ¬ ((((items.size : Int) - 1) == 0 && (-1 : Int) == 1 && items.size == items.size) = true) := by simp
  show wpAny _ _ (if (((items.size : Int) - 1) == 0 && (-1 : Int) == 1 && items.size == items.size) = true then _ else _) _ _ s
  rw [if_neg hno, pick_rev items]
  first
    | exact wpAny_bind (m := Builtin.Tuple.tupleExact _) (wpAny_newObj_type (wpAny_pure ⟨_, rfl, wpAny_pure h⟩) fits)
    | exact wpAny_bind (wpAny_bind (m := Builtin.Tuple.tupleExact _) (wpAny_newObj_type (wpAny_pure ⟨_, rfl, wpAny_pure h⟩) fits))
    | exact wpAny_bind (m := Builtin.Tuple.tupleExact _) (wpAny_newObj_type (wpAny_bind (wpAny_pure (wpAny_pure ⟨_, rfl, wpAny_pure h⟩))) fits)
    | exact wpAny_bind (wpAny_bind (m := Builtin.Tuple.tupleExact _) (wpAny_newObj_type (wpAny_pure (wpAny_pure ⟨_, rfl, wpAny_pure h⟩)) fits))
end

/-! ### further operations -/
section
variable {X : Cx} {K : Kx} {e : Expr} {f : EF} {pos : Pos}
def tRevT (K : Kx) (te : TE) : TE := fun σ H Q => te σ H fun x H1 => ∃ a xs, x = V.ref a ∧ SqT K H1 a xs ∧ ∀ p, H1 p = none → Q (V.ref p) (upd H1 p (.tup xs.reverse))
theorem pe_revT {te : TE} {k : Nat} {p1 p2 p3 : Pos} (he : PE X e te) : PE X (.Subscript e (.Slice none none (some (.UnaryOp .USub (.Constant (.int 1) k p1) p2)) p3) pos) (tRevT (kx X) te) := by
  refine ⟨fun pins s σ H Q I h => Subscript_ (thn (he.run pins s σ H _ I h) fun v s1 ⟨x, H1, I1, r1, a, xs, ex, hx, q⟩ => ?_)⟩
  subst ex
  cases r1
  refine wpAny_Slice (thn (po_none.run pins s1 σ H1 (fun o G => o = none ∧ G = H1) I1 ⟨rfl, rfl⟩) fun vl s2 ⟨o2, H2, I2, pl, w2, z2⟩ => ?_)
  subst w2 z2
  refine thn (po_none.run pins s2 σ H2 (fun o G => o = none ∧ G = H2) I2 ⟨rfl, rfl⟩) fun vu s3 ⟨o3, H3, I3, pu, w3, z3⟩ => ?_
  subst w3 z3
  refine thn ((po_some (pe_un un_neg pe_int)).run pins s3 σ H3 (fun o G => o = some (-1) ∧ G = H3) I3 ⟨1, rfl, -1, rfl, rfl, rfl⟩) fun vs s4 ⟨o4, H4, I4, ps, w4, z4⟩ => ?_
  subst w4 z4
  have I5 := I4.kept (t' := s4.toks) (h' := s4.heap.push { cls := .type "slice", data := .fields #[vl, vu, vs] }) fun b ob z => Heap.get?_push_of_some _ z
  obtain ⟨its, r, ht, hz⟩ := I5.tuple hx
  have hlen := r.length
  have fits : its.toArray.size ≤ sizeLine := by rw [List.size_toArray]; omega
  refine tail_any (ops := [.ref a, .ref s4.heap.objs.size]) ht.typeIs slot_tuple_getitem.lookup (get_tup_rev ht (Heap.IsSliceOf.new _ vl vu vs) pl pu ps fits ?_) (by with_unfolding_all rfl)
  have new : ObjOk X.prog X.w (upd H4 (s4.heap.push { cls := .type "slice", data := .fields #[vl, vu, vs] }).objs.size (.tup xs.reverse)) ((s4.heap.push { cls := .type "slice", data := .fields #[vl, vu, vs] }).push { cls := .type "tuple", data := .seq its.reverse.toArray }) _ (.tup xs.reverse) :=
    ⟨by rw [List.length_reverse]; exact hz, _, r.reverse, ⟨_, Heap.get?_push_size _ rfl, rfl, _, rfl⟩⟩
  have e : its.toArray.toList.reverse.toArray = its.reverse.toArray := by simp
  rw [e]
  exact ⟨.ref _, _, I5.laid (t' := s4.toks) (fun b ob z => Heap.get?_push_of_some _ z) (Nat.le_refl _) new, rfl, q _ (I5.hok.fresh (Nat.le_refl _))⟩
/-- x[::-1] -/
def revA (f : EF) : EF := fun Γ => (f Γ).bind fun r Γ1 => match view Γ1 r with
  | some (.list xs) => .ok (.l xs.reverse) Γ1
  | some (.tuple xs) => .ok (.d (.tuple xs.reverse)) Γ1
  | _ => .no
theorem px_rev {k : Nat} {p1 p2 p3 : Pos} (pe : PX X e f) : PX X (.Subscript e (.Slice none none (some (.UnaryOp .USub (.Constant (.int 1) k p1) p2)) p3) pos) (revA f) := by
  refine ⟨fun W tk S H σ Γ Q E G => ?_⟩
  have G0 := G
  unfold revA at G0
  cases e0 : f Γ with
  | no => rw [e0] at G0; exact G0.elim
  | ex y Γ1 =>
    refine tW_of (pe_revL pe_w) (tW_mono (pe.run W tk S H σ Γ (fun _ _ => False) E ?_) fun _ _ z => z.elim)
    rw [e0] at G0 ⊢
    exact G0
  | ok r Γ1 =>
    rw [e0] at G0
    have G0 : EG (kx X) X.mg W S H σ Γ Q (match view Γ1 r with | some (.list xs) => .ok (.l xs.reverse) Γ1 | some (.tuple xs) => .ok (.d (.tuple xs.reverse)) Γ1 | _ => .no) := G0
    split at G0
    · rename_i xs ev
      refine tW_of (pe_revL pe_w) (pe.run W tk S H σ Γ _ E ?_)
      rw [e0]
      intro S2 H2 v F E2 R2
      obtain ⟨a, us, rfl, h1, h2⟩ := (R2.vw E2 ev).list E2.sub
      exact ⟨a, us, rfl, h1.seq, fun p hp => fin_of E2 (o := .l xs.reverse) (EG.shift F G0) p _ hp (DqAll.reverse h2)⟩
    · rename_i xs ev
      refine tW_of (pe_revT pe_w) (pe.run W tk S H σ Γ _ E ?_)
      rw [e0]
      intro S2 H2 v F E2 R2
      obtain ⟨a, us, rfl, h1, h2⟩ := (R2.vw E2 ev).tup E2.sub
      exact ⟨a, us, rfl, h1, fun p hp => fin_of E2 (o := .t xs.reverse) (EG.shift F G0) p _ hp (DqAll.reverse h2)⟩
    · exact G0.elim
/-! slices of either kind -/
def rSlAny (K : Kx) : V → Option Int → Option Int → Hp → VK → Prop := fun x lo hi H Q => rSlL K x lo hi H Q ∨ rSlA K x lo hi H Q
theorem sl_any : SlR X (rSlAny (kx X)) := by
  intro pins s σ H x v vl vu lo hi sl Q I rx hs pl pu h
  rcases h with h | h
  · exact sl_list pins s σ H x v vl vu lo hi sl Q I rx hs pl pu h
  · exact sl_tupA pins s σ H x v vl vu lo hi sl Q I rx hs pl pu h
def slAD : D → Option Int → Option Int → Option O := fun x lo hi => match x with
  | .list xs => some (.l (cutD xs lo hi))
  | .tuple xs => if HT.sIx xs.length 0 lo = 0 ∧ HT.sIx xs.length xs.length hi = xs.length then some (.d (.tuple xs)) else some (.t (cutD xs lo hi))
  | _ => none
theorem slD_any : SlD K (rSlAny K) slAD := by
  intro S H x d lo hi w Q hS hx he q
  cases d <;> first
    | (cases he; done)
    | skip
  · exact .inl (slD_list S H x _ lo hi w Q hS hx he q)
  · exact .inr (slD_tup S H x _ lo hi w Q hS hx he q)
/-! products: ints; a tuple's repetition -/
def rMulA (K : Kx) : R2 := fun x y H Q => rI CMul (fun i j => .int (i * j)) x y H Q ∨ rI CMulW (fun i j => .int (i * j)) x y H Q ∨ rRepT K x y H Q
theorem op_mulA : OpR X (binaryOp .Mult) (rMulA (kx X)) := by
  intro pins s σ H x y v u Q I rx ry h
  rcases h with h | h | h
  · exact op_mul pins s σ H x y v u Q I rx ry h
  · exact op_mulW pins s σ H x y v u Q I rx ry h
  · exact op_repT pins s σ H x y v u Q I rx ry h
def wideI (i : Int) : Bool := decide (i.natAbs < 2 ^ 2000)
def mulA : D → D → Option O := fun x y => match x, y with
  | .int i, .int j => if CMul i j then some (.d (.int (i * j))) else if wideI i && wideI j then some (.d (.int (i * j))) else none
  | .tuple xs, .int k => if 2 ≤ k ∧ k ≤ 1000 ∧ xs.length ≤ 1000 ∧ xs.isEmpty = false then some (.t (List.replicate k.toNat xs).flatten) else none
  | _, _ => none
theorem DqAll.rep {S : Hp} {vs : List V} {ds : List D} (h : DqAll K S vs ds) : ∀ n : Nat, DqAll K S (List.replicate n vs).flatten (List.replicate n ds).flatten
  | 0 => .nil
  | n + 1 => by
    rw [List.replicate_succ, List.replicate_succ, List.flatten_cons, List.flatten_cons]
    exact DqAll.append h (DqAll.rep h n)
theorem opD_mulA : OpD K (rMulA K) mulA := by
  intro S H x y d e o Q hS hx hy he q
  cases d <;> first
    | (cases e <;> cases he; done)
    | skip
  · cases e <;> first
      | (cases he; done)
      | skip
    rename_i i j
    have he : (if CMul i j then some (O.d (.int (i * j))) else if wideI i && wideI j then some (O.d (.int (i * j))) else none) = some o := he
    split at he
    · rename_i hc
      cases he
      exact .inl ⟨i, j, hx.int, hy.int, hc, q _ (.int _)⟩
    · split at he
      · rename_i hc
        cases he
        rw [Bool.and_eq_true] at hc
        exact .inr (.inl ⟨i, j, hx.int, hy.int, wide_mul (of_decide_eq_true hc.1) (of_decide_eq_true hc.2) (by decide) (by decide) (by decide), q _ (.int _)⟩)
      · cases he
  · cases e <;> first
      | (cases he; done)
      | skip
    rename_i xs k
    have he : (if 2 ≤ k ∧ k ≤ 1000 ∧ xs.length ≤ 1000 ∧ xs.isEmpty = false then some (O.t (List.replicate k.toNat xs).flatten) else none) = some o := he
    split at he
    · rename_i hc
      cases he
      obtain ⟨a, vs, rfl, h1, h2⟩ := hx.tup hS
      refine .inr (.inr ⟨a, k, vs, rfl, hy.int, h1, fun z => ?_, hc.1, hc.2.1, by rw [DqAll.length h2]; exact hc.2.2.1, fun p hp => q p _ hp (DqAll.rep h2 _)⟩)
      subst z
      cases h2
      exact absurd hc.2.2.2 (by simp)
    · cases he
/-! // by a positive divisor -/
def divA := iI fun i j => if 0 < j ∧ j < 1606938044258990275541962092341162602522202993782792835301376 then some (.int (i / j)) else none
theorem opD_divA : OpD K (rI CDivW fun i j => .int (i / j)) divA := opD_I fun i j d h => by
  split at h
  · rename_i hc
    cases h
    refine ⟨wide_div hc.1 (b := 200) ?_ (by decide) (by decide), fun S => .int _⟩
    have e : ((2 ^ 200 : Nat) : Int) = 1606938044258990275541962092341162602522202993782792835301376 := by simp
    have e2 : (j.natAbs : Int) = j := by have := hc.1; omega
    exact Int.ofNat_lt.mp (by rw [e, e2]; exact hc.2)
  · cases h
/-! {1: 2} -/
def dic1 (a b : Int) : EF := fun Γ => .ok (.d (.dict [(.int a, .int b)])) Γ
theorem px_dic1 {a b : Int} {k1 k2 : Nat} {p1 p2 : Pos} : PX X (.Dict [some (.Constant (.int a) k1 p1)] [.Constant (.int b) k2 p2] pos) (dic1 a b) := by
  refine ⟨fun W tk S H σ Γ Q E G => tW_of (pe_disp (pps_cons pe_int pe_int pps_nil) rfl rfl (by simp) (by simp)) fun p hp => ?_⟩
  refine ⟨upd_same, [(.inl a, .int b)], rfl, by simp, ?_⟩
  rw [upd_upd]
  exact G _ _ _ (.pushD E hp _) (E.pushD hp _) (.dic (ks := [(.inl a, .int b)]) (.inl upd_same) (.cons (.int b) .nil))
/-! len(set(t)), t a tuple of ints -/
theorem nodup_len {α : Type} [DecidableEq α] : ∀ {xs ys : List α}, xs.Nodup → ys.Nodup → (∀ k, k ∈ xs ↔ k ∈ ys) → xs.length = ys.length
  | [], ys, _, _, h => by
    cases ys with
    | nil => rfl
    | cons y ys => exact absurd ((h y).mpr (by simp)) (by simp)
  | x :: xs, ys, hx, hy, h => by
    have hm : x ∈ ys := (h x).mp (by simp)
    have hx' := List.nodup_cons.mp hx
    have he : (ys.erase x).Nodup := hy.erase x
    have ih := nodup_len hx'.2 he fun k => by
      constructor
      · intro hk
        have ne : k ≠ x := fun e => hx'.1 (e ▸ hk)
        exact (List.mem_erase_of_ne ne).mpr ((h k).mp (by simp [hk]))
      · intro hk
        have ne : k ≠ x := fun e => by
          subst e
          exact absurd hk (hy.not_mem_erase)
        have := (h k).mpr ((List.mem_erase_of_ne ne).mp hk)
        rcases List.mem_cons.mp this with e | e
        · exact absurd e ne
        · exact e
    rw [List.length_cons, ih, List.length_erase_of_mem hm]
    have : 0 < ys.length := List.length_pos_of_mem hm
    omega
def distinct : List Int → List Int
  | [] => []
  | x :: xs => if x ∈ xs then distinct xs else x :: distinct xs
theorem mem_distinct : ∀ {xs : List Int} {k : Int}, k ∈ distinct xs ↔ k ∈ xs
  | [], _ => by simp [distinct]
  | x :: xs, k => by
    unfold distinct
    split
    · rename_i h
      rw [mem_distinct, List.mem_cons]
      constructor
      · exact .inr
      · rintro (e | e)
        · rw [e]; exact h
        · exact e
    · rw [List.mem_cons, List.mem_cons, mem_distinct]
theorem nodup_distinct : ∀ xs : List Int, (distinct xs).Nodup
  | [] => by simp [distinct]
  | x :: xs => by
    unfold distinct
    split
    · exact nodup_distinct xs
    · rename_i h
      exact List.nodup_cons.mpr ⟨fun q => h (mem_distinct.mp q), nodup_distinct xs⟩
def lenSetF (f : EF) : EF := fun Γ => (f Γ).bind fun r Γ1 => match view Γ1 r with
  | some (.tuple xs) => match asIs xs with
    | some ns => if ns.length ≤ 1000 then .ok (.d (.int (distinct ns).length)) Γ1 else .no
    | none => .no
  | _ => .no
theorem px_lenSet {p p2 q : Pos} (hg : Gl X "len") (hm : X.mg "len" = none) (hg2 : Gl X "set") (hm2 : X.mg "set" = none) (pe : PX X e f) (hc : X.calm = true := by rfl) (na : starEach [e] X.env = (false, eval e X.env) :: starEach [] X.env := by rfl)
    (hv : bootBuiltins "set" = some (.type "set") := by decide +kernel) : PX X (.Call (.Name "len" p) [.Call (.Name "set" p2) [e] [] q] [] pos) (lenSetF f) := by
  refine ⟨fun W tk S H σ Γ Q E G pins s I => ?_⟩
  refine Call_ (ld_blt I hg hm boot_len (callWith_builtin1 (args_cons ?_ rfl) rfl rfl))
  refine Call_ (ld_blt I hg2 hm2 hv (callWith_type1 (args_cons ?_ na) na rfl))
  refine thn (seq1 tk pe E G (R1' := fun v H' => ∃ (l : Addr) (ns : List Int), v = .ref l ∧ SqT X.K H' l (ns.map V.int) ∧ ns.length ≤ 1000 ∧ Q (.int (distinct ns).length) H') (fun S2 H2 Γ2 v r1 F E2 R G => ?_) pins s I) fun u s1 ⟨v, H1, I1, r1, l, ns, ev, hq, hl, q1⟩ => args_nil ?_
  · cases e1 : view Γ2 r1 with
    | none => rw [e1] at G; exact G.elim
    | some d =>
      rw [e1] at G
      cases d <;> first
        | exact G.elim
        | skip
      rename_i xs
      dsimp only at G
      cases e2 : asIs xs with
      | none => rw [e2] at G; exact G.elim
      | some ns =>
        rw [e2] at G
        dsimp only at G
        split at G
        · rename_i hl
          obtain ⟨a, us, rfl, h1, h2⟩ := (R.vw E2 e1).tup E2.sub
          have := asIs_ok h2 e2
          subst this
          exact ⟨a, ns, rfl, h1, hl, G S2 H2 _ F E2 (.int _)⟩
        · exact G.elim
  · subst ev
    cases r1
    obtain ⟨its, r, pl, hz⟩ := I1.tuple hq
    refine call_set_tupI ns (I1.ok.hd hc) pl (by simpa using ints_of_vals r) (by unfold scanBound; omega) fun h' tk' c hS hcl hk => args_nil ?_
    obtain ⟨o, es, ep, t, ho, hex, hd, hgd, hnd, hmem, hsb, hf, hn, _⟩ := hS
    have I2 : Inv X pins σ H1 { s1 with heap := h', toks := tk' } := I1.kept hk
    have hlen : es.size = (distinct ns).length := by
      have := nodup_len hnd (nodup_distinct ns) fun k => by rw [mem_distinct, ← hmem k, decide_eq_true_iff]
      rw [← this, List.length_map, Array.length_toList]
    exact call_len_set ho hex hd hf (by rw [hn]; omega) ⟨.int _, H1, I2.tok _, ⟨_, by rw [hlen]⟩, q1⟩
end
end Ly
set_option maxRecDepth 100000
namespace Ly
open PySem L2

/-! ### what an outcome satisfies -/
def sat {α : Type} (o : Out α) (Q : α → Ge → Prop) : Prop := match o with
  | .ok a Γ => Q a Γ
  | _ => False
section
variable {α β : Type} {o : Out α} {k : α → Ge → Out β} {Q Q' : α → Ge → Prop} {R' : β → Ge → Prop} {Γ Γ' : Ge} {a : α}
theorem sat_of (e : o = .ok a Γ) (h : Q a Γ) : sat o Q := by rw [e]; exact h
theorem sat_iff : sat o Q ↔ ∃ a Γ, o = .ok a Γ ∧ Q a Γ := by
  cases o with
  | ok a Γ => exact ⟨fun h => ⟨a, Γ, rfl, h⟩, fun ⟨a', Γ', e, h⟩ => by cases e; exact h⟩
  | ex _ _ => exact ⟨fun h => h.elim, fun ⟨_, _, e, _⟩ => nomatch e⟩
  | no => exact ⟨fun h => h.elim, fun ⟨_, _, e, _⟩ => nomatch e⟩
theorem sat_mono (h : sat o Q) (m : ∀ a Γ, Q a Γ → Q' a Γ) : sat o Q' := by
  cases o with
  | ok a Γ => exact m a Γ h
  | ex _ _ => exact h
  | no => exact h
theorem sat_bind (h : sat o (fun a Γ => sat (k a Γ) R')) : sat (o.bind k) R' := by
  cases o with
  | ok a Γ => exact h
  | ex _ _ => exact h
  | no => exact h
theorem sat_bindE (e : o = .ok a Γ) (h : sat (k a Γ) R') : sat (o.bind k) R' := by rw [e]; exact h
end
section
variable {p q : SF} {u : BF} {f g : EF} {gf : GF} {Γ Γ' : Ge} {Q : Fl → Ge → Prop} {b : Bool} {r : R}
def thenQ (q : SF) (Q : Fl → Ge → Prop) : Fl → Ge → Prop := fun fl Γ => match fl with
  | .nx => sat (q Γ) Q
  | fl => Q fl Γ
theorem s_seq (h : sat (p Γ) (thenQ q Q)) : sat (seqF p q Γ) Q := by
  unfold seqF
  refine sat_bind (sat_mono h fun fl Γ1 z => ?_)
  cases fl <;> exact z
theorem s_if (h : sat (u Γ) fun b Γ1 => (b = true → sat (p Γ1) Q) ∧ (b = false → sat (q Γ1) Q)) : sat (ifF u p q Γ) Q := by
  refine sat_bind (sat_mono h fun b Γ1 z => ?_)
  cases b with
  | true => exact z.1 rfl
  | false => exact z.2 rfl
theorem s_ifE (e : u Γ = .ok b Γ') (h1 : b = true → sat (p Γ') Q) (h2 : b = false → sat (q Γ') Q) : sat (ifF u p q Γ) Q := s_if (by rw [e]; exact ⟨h1, h2⟩)
theorem s_set (h : sat (f Γ) fun r Γ1 => sat (gf r Γ1) fun _ Γ2 => Q .nx Γ2) : sat (setF gf f Γ) Q := sat_bind (sat_mono h fun r Γ1 z => sat_bind (sat_mono z fun _ _ y => y))
theorem s_ret (h : sat (f Γ) fun r Γ1 => (∀ i, r ≠ .s i) ∧ Q (.rt r) Γ1) : sat (retF f Γ) Q := by
  refine sat_bind (sat_mono h fun r Γ1 z => ?_)
  cases r with
  | s i => exact absurd rfl (z.1 i)
  | d x => exact z.2
  | l x => exact z.2
  | o x => exact z.2
theorem s_skip (h : Q .nx Γ) : sat (skipF Γ) Q := h
end

/-! ### computing: each construct at a known environment -/
section
variable {α β : Type} {a : α} {Γ Γ1 : Ge} {k : α → Ge → Out β} {x : Xn} {f g h : EF} {p q : SF} {u v : BF} {gf : GF} {o o' : D → D → Option O} {t : Ge → Out (List R)} {it : LF} {M : FM} {i j : Nat} {r r1 r2 : R} {d e : D} {ds xs ys : List D}
@[simp] theorem bind_ok : (Out.ok a Γ).bind k = k a Γ := id rfl
@[simp] theorem bind_ex : (Out.ex x Γ).bind k = .ex x Γ := id rfl
@[simp] theorem bind_no : (Out.no : Out α).bind k = .no := id rfl
def bodyK (ps : Ge) : Out Fl → Out R
  | .ok .nx Γ => .ok (.d .none) (outPs ps Γ)
  | .ok (.rt (.d x)) Γ => .ok (.d x) (outPs ps Γ)
  | .ok (.rt (.l x)) Γ => .ok (.l x) (outPs ps Γ)
  | .ok (.rt (.o x)) Γ => .ok (.o x) (outPs ps Γ)
  | .ex x Γ => .ex x (outPs ps Γ)
  | _ => .no
theorem bodyM_eq {N : Nat} {ps : Ge} : bodyM N p ps = bodyK ps (p (ps ++ List.replicate (N - ps.length) .un)) := by
  unfold bodyM bodyK
  rfl
@[simp] theorem bodyK_nx {ps : Ge} : bodyK ps (.ok .nx Γ) = .ok (.d .none) (outPs ps Γ) := id rfl
@[simp] theorem bodyK_d {ps : Ge} : bodyK ps (.ok (.rt (.d d)) Γ) = .ok (.d d) (outPs ps Γ) := id rfl
@[simp] theorem bodyK_l {ps : Ge} : bodyK ps (.ok (.rt (.l xs)) Γ) = .ok (.l xs) (outPs ps Γ) := id rfl
@[simp] theorem bodyK_o {ps : Ge} {tr : T} : bodyK ps (.ok (.rt (.o tr)) Γ) = .ok (.o tr) (outPs ps Γ) := id rfl
@[simp] theorem bodyK_ex {ps : Ge} : bodyK ps (.ex x Γ) = .ex x (outPs ps Γ) := id rfl
@[simp] theorem outPs_b {ps : Ge} {s : Sl} : outPs (.b xs :: ps) (s :: Γ) = s :: outPs ps Γ := id rfl
@[simp] theorem outPs_p {ps : Ge} {s : Sl} {tr : T} : outPs (.p tr :: ps) (s :: Γ) = s :: outPs ps Γ := id rfl
@[simp] theorem outPs_d {ps : Ge} {s : Sl} : outPs (.d d :: ps) (s :: Γ) = .d d :: outPs ps Γ := id rfl
@[simp] theorem outPs_nil : outPs [] Γ = [] := by cases Γ <;> rfl
/-- a body, by what it satisfies -/
theorem sat_body {N : Nat} {ps : Ge} {Q : R → Ge → Prop} (h : sat (p (ps ++ List.replicate (N - ps.length) .un)) fun fl Γ => match fl with
    | .nx => Q (.d .none) (outPs ps Γ)
    | .rt (.d x) => Q (.d x) (outPs ps Γ)
    | .rt (.l x) => Q (.l x) (outPs ps Γ)
    | .rt (.o x) => Q (.o x) (outPs ps Γ)
    | _ => False) : sat (bodyM N p ps) Q := by
  rw [bodyM_eq]
  cases e : p (ps ++ List.replicate (N - ps.length) .un) with
  | no => rw [e] at h; exact h
  | ex _ _ => rw [e] at h; exact h
  | ok fl Γ =>
    rw [e] at h
    cases fl with
    | nx => exact h
    | bk => exact h.elim
    | ct => exact h.elim
    | rt r =>
      cases r with
      | d x => exact h
      | l x => exact h
      | s i => exact h.elim
      | o _ => exact h
def seqK (q : SF) : Fl → SF := fun fl Γ => match fl with
  | .nx => q Γ
  | fl => .ok fl Γ
@[simp] theorem seqF_eq : seqF p q Γ = (p Γ).bind (seqK q) := id rfl
@[simp] theorem seqK_nx : seqK q .nx Γ = q Γ := id rfl
@[simp] theorem seqK_rt : seqK q (.rt r) Γ = .ok (.rt r) Γ := id rfl
@[simp] theorem seqK_bk : seqK q .bk Γ = .ok .bk Γ := id rfl
@[simp] theorem seqK_ct : seqK q .ct Γ = .ok .ct Γ := id rfl
def ifK (p q : SF) : Bool → SF := fun b Γ => if b = true then p Γ else q Γ
@[simp] theorem ifF_eq : ifF u p q Γ = (u Γ).bind (ifK p q) := id rfl
@[simp] theorem ifK_t : ifK p q true Γ = p Γ := id rfl
@[simp] theorem ifK_f : ifK p q false Γ = q Γ := id rfl
def set2 : Unit → SF := fun _ Γ => .ok .nx Γ
def setK (gf : GF) : R → SF := fun r Γ => (gf r Γ).bind set2
@[simp] theorem setF_eq : setF gf f Γ = (f Γ).bind (setK gf) := id rfl
@[simp] theorem setK_eq : setK gf r Γ = (gf r Γ).bind set2 := id rfl
@[simp] theorem set2_eq {u : Unit} : set2 u Γ = .ok .nx Γ := id rfl
def gNs (sl : Option Sl) (i : Nat) (r : R) (Γ : Ge) : Out Unit := match sl with
  | none => .no
  | some sl => if notB' sl = true then putR i r Γ else .no
@[simp] theorem gN_eq : gN i r Γ = gNs Γ[i]? i r Γ := by unfold gN gNs; cases Γ[i]? <;> rfl
@[simp] theorem gNs_un : gNs (some .un) i r Γ = putR i r Γ := id rfl
@[simp] theorem gNs_d : gNs (some (.d d)) i r Γ = putR i r Γ := id rfl
@[simp] theorem gNs_l : gNs (some (.l xs)) i r Γ = putR i r Γ := id rfl
@[simp] theorem gNs_o {tr : T} : gNs (some (.o tr)) i r Γ = putR i r Γ := id rfl
@[simp] theorem putR_d : putR i (.d d) Γ = .ok () (Γ.set i (.d d)) := id rfl
@[simp] theorem putR_l : putR i (.l xs) Γ = .ok () (Γ.set i (.l xs)) := id rfl
@[simp] theorem putR_o {tr : T} : putR i (.o tr) Γ = .ok () (Γ.set i (.o tr)) := id rfl
variable {tf : List D → Ge → Out Unit} {n : Nat}
@[simp] theorem gsN_eq : gsN [] Γ = .ok () Γ := id rfl
def gsK (tf : List D → Ge → Out Unit) (ds : List D) : Unit → Ge → Out Unit := fun _ Γ => tf ds Γ
@[simp] theorem gsC_eq : gsC gf tf (d :: ds) Γ = (gf (.d d) Γ).bind (gsK tf ds) := id rfl
@[simp] theorem gsK_eq {u : Unit} : gsK tf ds u Γ = tf ds Γ := id rfl
@[simp] theorem gTp_eq : gTp n tf (.d (.tuple xs)) Γ = if xs.length = n then tf xs Γ else .no := id rfl
def retK : R → SF := fun r Γ => match r with
  | .s _ => .no
  | r => .ok (.rt r) Γ
@[simp] theorem retF_eq : retF f Γ = (f Γ).bind retK := by
  unfold retF
  cases f Γ with
  | ok r Γ => cases r <;> rfl
  | ex _ _ => rfl
  | no => rfl
@[simp] theorem retK_d : retK (.d d) Γ = .ok (.rt (.d d)) Γ := id rfl
@[simp] theorem retK_l : retK (.l xs) Γ = .ok (.rt (.l xs)) Γ := id rfl
@[simp] theorem retK_o {tr : T} : retK (.o tr) Γ = .ok (.rt (.o tr)) Γ := id rfl
@[simp] theorem retN_eq : retN Γ = .ok (.rt (.d .none)) Γ := id rfl
def retVs (sl : Option Sl) (i : Nat) (Γ : Ge) : Out Fl := match sl with
  | some (.d x) => .ok (.rt (.d x)) Γ
  | some (.l xs) => .ok (.rt (.l xs)) (Γ.set i .un)
  | some (.o tr) => .ok (.rt (.o tr)) (Γ.set i .un)
  | _ => .no
@[simp] theorem retV_eq : retV i Γ = retVs Γ[i]? i Γ := id rfl
@[simp] theorem retVs_d : retVs (some (.d d)) i Γ = .ok (.rt (.d d)) Γ := id rfl
@[simp] theorem retVs_l : retVs (some (.l xs)) i Γ = .ok (.rt (.l xs)) (Γ.set i .un) := id rfl
@[simp] theorem retVs_o {tr : T} : retVs (some (.o tr)) i Γ = .ok (.rt (.o tr)) (Γ.set i .un) := id rfl
def expK : R → SF := fun _ Γ => .ok .nx Γ
@[simp] theorem expF_eq : expF f Γ = (f Γ).bind expK := id rfl
@[simp] theorem expK_eq : expK r Γ = .ok .nx Γ := id rfl
@[simp] theorem skipF_eq : skipF Γ = .ok .nx Γ := id rfl
@[simp] theorem brkF_eq : brkF Γ = .ok .bk Γ := id rfl
@[simp] theorem ctnF_eq : ctnF Γ = .ok .ct Γ := id rfl
/-! names, constants -/
def svars (sl : Option Sl) (i : Nat) (Γ : Ge) : Out R := match sl with
  | some (.d x) => .ok (.d x) Γ
  | some (.l _) => .ok (.s i) Γ
  | some (.b _) => .ok (.s i) Γ
  | some (.o _) => .ok (.s i) Γ
  | some (.p _) => .ok (.s i) Γ
  | _ => .no
@[simp] theorem svar_eq : svar i Γ = svars Γ[i]? i Γ := id rfl
@[simp] theorem svars_d : svars (some (.d d)) i Γ = .ok (.d d) Γ := id rfl
@[simp] theorem svars_l : svars (some (.l xs)) i Γ = .ok (.s i) Γ := id rfl
@[simp] theorem svars_b : svars (some (.b xs)) i Γ = .ok (.s i) Γ := id rfl
@[simp] theorem svars_o {tr : T} : svars (some (.o tr)) i Γ = .ok (.s i) Γ := id rfl
@[simp] theorem svars_p {tr : T} : svars (some (.p tr)) i Γ = .ok (.s i) Γ := id rfl
def dvars (sl : Option Sl) (i : Nat) (Γ : Ge) : Out R := match sl with
  | some (.d x) => .ok (.d x) Γ
  | some (.l xs) => .ok (.d (.list xs)) (Γ.set i (.d (.list xs)))
  | _ => .no
@[simp] theorem dvar_eq : dvar i Γ = dvars Γ[i]? i Γ := id rfl
@[simp] theorem dvars_d : dvars (some (.d d)) i Γ = .ok (.d d) Γ := id rfl
@[simp] theorem dvars_l : dvars (some (.l xs)) i Γ = .ok (.d (.list xs)) (Γ.set i (.d (.list xs))) := id rfl
@[simp] theorem cst_eq : cst d Γ = .ok (.d d) Γ := id rfl
def slotDs : Option Sl → Option D
  | some (.d x) => some x
  | some (.l xs) => some (.list xs)
  | some (.b xs) => some (.list xs)
  | some (.o tr) => flatT tr
  | some (.p tr) => flatT tr
  | _ => none
@[simp] theorem view_d : view Γ (.d d) = some d := id rfl
@[simp] theorem view_l : view Γ (.l xs) = some (.list xs) := id rfl
@[simp] theorem view_s : view Γ (.s i) = slotDs Γ[i]? := id rfl
@[simp] theorem view_o {tr : T} : view Γ (.o tr) = flatT tr := id rfl
@[simp] theorem slotDs_o {tr : T} : slotDs (some (.o tr)) = flatT tr := id rfl
@[simp] theorem slotDs_p {tr : T} : slotDs (some (.p tr)) = flatT tr := id rfl
@[simp] theorem slotDs_d : slotDs (some (.d d)) = some d := id rfl
@[simp] theorem slotDs_l : slotDs (some (.l xs)) = some (.list xs) := id rfl
@[simp] theorem slotDs_b : slotDs (some (.b xs)) = some (.list xs) := id rfl
def slotLs : Option Sl → Option (List D)
  | some (.l xs) => some xs
  | some (.b xs) => some xs
  | _ => none
@[simp] theorem slotL_eq : slotL Γ i = slotLs Γ[i]? := id rfl
@[simp] theorem slotLs_l : slotLs (some (.l xs)) = some xs := id rfl
@[simp] theorem slotLs_b : slotLs (some (.b xs)) = some xs := id rfl
def putLs (sl : Option Sl) (Γ : Ge) (i : Nat) (ys : List D) : Ge := match sl with
  | some (.b _) => Γ.set i (.b ys)
  | _ => Γ.set i (.l ys)
@[simp] theorem putL_eq' : putL Γ i ys = putLs Γ[i]? Γ i ys := id rfl
@[simp] theorem putLs_l : putLs (some (.l xs)) Γ i ys = Γ.set i (.l ys) := id rfl
@[simp] theorem putLs_b : putLs (some (.b xs)) Γ i ys = Γ.set i (.b ys) := id rfl
/-! operations -/
@[simp] theorem outO_d : outO Γ (some (.d d)) = .ok (.d d) Γ := id rfl
@[simp] theorem outO_l : outO Γ (some (.l xs)) = .ok (.l xs) Γ := id rfl
@[simp] theorem outO_t : outO Γ (some (.t xs)) = .ok (.d (.tuple xs)) Γ := id rfl
def binK1 (o : D → D → Option O) (g : EF) : R → EF := fun r1 Γ => (g Γ).bind (fun r2 Γ2 => op2 o r1 r2 Γ2)
def binK2 (o : D → D → Option O) (r1 : R) : R → EF := fun r2 Γ2 => op2 o r1 r2 Γ2
@[simp] theorem binF_eq : binF o f g Γ = (f Γ).bind (binK1 o g) := id rfl
@[simp] theorem binK1_eq : binK1 o g r1 Γ = (g Γ).bind (binK2 o r1) := id rfl
def op2v (o : D → D → Option O) (a b : Option D) (Γ : Ge) : Out R := match a, b with
  | some x, some y => outO Γ (o x y)
  | _, _ => .no
@[simp] theorem binK2_eq : binK2 o r1 r2 Γ = op2v o (view Γ r1) (view Γ r2) Γ := id rfl
@[simp] theorem op2_eq : op2 o r1 r2 Γ = op2v o (view Γ r1) (view Γ r2) Γ := id rfl
@[simp] theorem op2v_eq : op2v o (some d) (some e) Γ = outO Γ (o d e) := id rfl
variable {o1 : D → Option O} {oN : List D → Option O}
def unK (o : D → Option O) : R → EF := fun r Γ => op1 o r Γ
@[simp] theorem unF_eq : unF o1 f Γ = (f Γ).bind (unK o1) := id rfl
def op1v (o : D → Option O) (a : Option D) (Γ : Ge) : Out R := match a with
  | some x => outO Γ (o x)
  | _ => .no
@[simp] theorem unK_eq : unK o1 r Γ = op1v o1 (view Γ r) Γ := id rfl
@[simp] theorem op1v_eq : op1v o1 (some d) Γ = outO Γ (o1 d) := id rfl
def argK1 (t : Ge → Out (List R)) : R → Ge → Out (List R) := fun r Γ1 => (t Γ1).bind fun rs Γ2 => .ok (r :: rs) Γ2
def argK2 (r : R) : List R → Ge → Out (List R) := fun rs Γ2 => .ok (r :: rs) Γ2
@[simp] theorem argN_eq : argN Γ = .ok [] Γ := id rfl
@[simp] theorem argC_eq : argC f t Γ = (f Γ).bind (argK1 t) := id rfl
@[simp] theorem argK1_eq : argK1 t r Γ = (t Γ).bind (argK2 r) := id rfl
variable {rs : List R}
@[simp] theorem argK2_eq : argK2 r rs Γ = .ok (r :: rs) Γ := id rfl
def viewsO (a : Option D) (b : Option (List D)) : Option (List D) := match a, b with
  | some d, some ds => some (d :: ds)
  | _, _ => none
@[simp] theorem views_nil : views Γ [] = some [] := id rfl
@[simp] theorem views_cons : views Γ (r :: rs) = viewsO (view Γ r) (views Γ rs) := id rfl
@[simp] theorem viewsO_eq : viewsO (some d) (some ds) = some (d :: ds) := id rfl
def callNK (o : List D → Option O) : List R → EF := fun rs Γ => opN o rs Γ
def opNv (o : List D → Option O) (a : Option (List D)) (Γ : Ge) : Out R := match a with
  | some x => outO Γ (o x)
  | _ => .no
@[simp] theorem callN_eq : callN oN t Γ = (t Γ).bind (callNK oN) := id rfl
@[simp] theorem callNK_eq : callNK oN rs Γ = opNv oN (views Γ rs) Γ := id rfl
@[simp] theorem opNv_eq : opNv oN (some ds) Γ = outO Γ (oN ds) := id rfl
@[simp] theorem frzF_eq : frzF f Γ = (f Γ).bind frz := id rfl
@[simp] theorem frz_d : frz (.d d) Γ = .ok (.d d) Γ := id rfl
@[simp] theorem frz_l : frz (.l xs) Γ = .ok (.d (.list xs)) Γ := id rfl
def frzO (a : Option D) (Γ : Ge) : Out R := match a with
  | some d => .ok (.d d) Γ
  | none => .no
@[simp] theorem frz_o {tr : T} : frz (.o tr) Γ = frzO (datT tr) Γ := id rfl
@[simp] theorem frzO_s : frzO (some d) Γ = .ok (.d d) Γ := id rfl
@[simp] theorem allD_nil : allD [] = some [] := id rfl
@[simp] theorem allD_cons : allD (.d d :: rs) = (allD rs).map (d :: ·) := id rfl
def mkK (o : List D → O) : List R → EF := fun rs Γ1 => match allD rs with
  | some ds => if ds.length ≤ 1000 then outO Γ1 (some (o ds)) else .no
  | none => .no
def mkv (o : List D → O) (a : Option (List D)) (Γ : Ge) : Out R := match a with
  | some ds => if ds.length ≤ 1000 then outO Γ (some (o ds)) else .no
  | none => .no
variable {om : List D → O}
@[simp] theorem mkF_eq : mkF om t Γ = (t Γ).bind (mkK om) := id rfl
@[simp] theorem mkK_eq : mkK om rs Γ = mkv om (allD rs) Γ := id rfl
@[simp] theorem mkv_eq : mkv om (some ds) Γ = if ds.length ≤ 1000 then outO Γ (some (om ds)) else .no := id rfl
/-! tests -/
@[simp] theorem tstB_eq : tstB f Γ = (f Γ).bind asB := id rfl
@[simp] theorem asB_eq {b : Bool} : asB (.d (.bool b)) Γ = .ok b Γ := id rfl
def tstK : R → Ge → Out Bool := fun r Γ1 => match view Γ1 r with
  | some d => match truD d with
    | some b => .ok b Γ1
    | none => .no
  | none => .no
def tsts (a : Option D) (Γ : Ge) : Out Bool := match a with
  | some d => match truD d with
    | some b => .ok b Γ
    | none => .no
  | none => .no
@[simp] theorem tstF_eq : tstF f Γ = (f Γ).bind tstK := id rfl
@[simp] theorem tstK_eq : tstK r Γ = tsts (view Γ r) Γ := id rfl
@[simp] theorem tsts_b {b : Bool} : tsts (some (.bool b)) Γ = .ok b Γ := id rfl
@[simp] theorem tsts_i {i : Int} : tsts (some (.int i)) Γ = .ok (i != 0) Γ := id rfl
@[simp] theorem tsts_l : tsts (some (.list xs)) Γ = .ok (!xs.isEmpty) Γ := id rfl
@[simp] theorem tsts_t : tsts (some (.tuple xs)) Γ = .ok (!xs.isEmpty) Γ := id rfl
def andBK (v : BF) : Bool → BF := fun b Γ1 => if b = true then v Γ1 else .ok false Γ1
@[simp] theorem andB_eq : andB u v Γ = (u Γ).bind (andBK v) := id rfl
@[simp] theorem andBK_t : andBK v true Γ = v Γ := id rfl
@[simp] theorem andBK_f : andBK v false Γ = .ok false Γ := id rfl
def orBK (v : BF) : Bool → BF := fun b Γ1 => if b = true then .ok true Γ1 else v Γ1
@[simp] theorem orB_eq : orB u v Γ = (u Γ).bind (orBK v) := id rfl
@[simp] theorem orBK_t : orBK v true Γ = .ok true Γ := id rfl
@[simp] theorem orBK_f : orBK v false Γ = v Γ := id rfl
def notBK : Bool → BF := fun b Γ1 => .ok (!b) Γ1
@[simp] theorem notB_eq : notB u Γ = (u Γ).bind notBK := id rfl
@[simp] theorem notBK_eq {b : Bool} : notBK b Γ = .ok (!b) Γ := id rfl
def andVK (g : EF) : R → EF := fun r Γ1 => match r with
  | .d (.bool true) => g Γ1
  | .d (.bool false) => .ok (.d (.bool false)) Γ1
  | _ => .no
theorem andV_bind : andV f g Γ = (f Γ).bind (andVK g) := rfl
@[simp] theorem andV_eq : andV f g Γ = (f Γ).bind (andVK g) := id rfl
@[simp] theorem andVK_t : andVK g (.d (.bool true)) Γ = g Γ := id rfl
@[simp] theorem andVK_f : andVK g (.d (.bool false)) Γ = .ok (.d (.bool false)) Γ := id rfl
def orVK (g : EF) : R → EF := fun r Γ1 => match r with
  | .d (.bool true) => .ok (.d (.bool true)) Γ1
  | .d (.bool false) => g Γ1
  | _ => .no
@[simp] theorem orV_eq : orV f g Γ = (f Γ).bind (orVK g) := id rfl
@[simp] theorem orVK_t : orVK g (.d (.bool true)) Γ = .ok (.d (.bool true)) Γ := id rfl
@[simp] theorem orVK_f : orVK g (.d (.bool false)) Γ = g Γ := id rfl
def notVK : R → EF := fun r Γ1 => match r with
  | .d (.bool b) => .ok (.d (.bool !b)) Γ1
  | _ => .no
@[simp] theorem notV_eq : notV f Γ = (f Γ).bind notVK := id rfl
@[simp] theorem notVK_eq {b : Bool} : notVK (.d (.bool b)) Γ = .ok (.d (.bool !b)) Γ := id rfl
def ifEK (f g : EF) : Bool → EF := fun b Γ1 => if b = true then f Γ1 else g Γ1
@[simp] theorem ifE_eq : ifE u f g Γ = (u Γ).bind (ifEK f g) := id rfl
@[simp] theorem ifEK_t : ifEK f g true Γ = f Γ := id rfl
@[simp] theorem ifEK_f : ifEK f g false Γ = g Γ := id rfl
def chainK1 (o o' : D → D → Option O) (g h : EF) : R → EF := fun r1 Γ1 => (g Γ1).bind fun r2 Γ2 => match op2 o r1 r2 Γ2 with
  | .ok (.d (.bool true)) Γ3 => (h Γ3).bind fun r3 Γ4 => op2 o' r2 r3 Γ4
  | .ok (.d (.bool false)) Γ3 => .ok (.d (.bool false)) Γ3
  | _ => .no
def chainK3 (o' : D → D → Option O) (h : EF) (r2 : R) : Out R → Out R
  | .ok (.d (.bool true)) Γ3 => (h Γ3).bind (binK2 o' r2)
  | .ok (.d (.bool false)) Γ3 => .ok (.d (.bool false)) Γ3
  | _ => .no
def chainK2 (o o' : D → D → Option O) (h : EF) (r1 : R) : R → EF := fun r2 Γ2 => chainK3 o' h r2 (op2 o r1 r2 Γ2)
@[simp] theorem chainF_eq : chainF o o' f g h Γ = (f Γ).bind (chainK1 o o' g h) := id rfl
@[simp] theorem chainK1_eq : chainK1 o o' g h r1 Γ = (g Γ).bind (chainK2 o o' h r1) := by
  unfold chainK1 chainK2 chainK3
  rfl
@[simp] theorem chainK2_eq : chainK2 o o' h r1 r2 Γ = chainK3 o' h r2 (op2v o (view Γ r1) (view Γ r2) Γ) := id rfl
@[simp] theorem chainK3_t : chainK3 o' h r2 (.ok (.d (.bool true)) Γ) = (h Γ).bind (binK2 o' r2) := id rfl
@[simp] theorem chainK3_f : chainK3 o' h r2 (.ok (.d (.bool false)) Γ) = .ok (.d (.bool false)) Γ := id rfl
theorem chainK3_if {b : Bool} : chainK3 o' h r2 (.ok (.d (.bool b)) Γ) = if b = true then (h Γ).bind (binK2 o' r2) else .ok (.d (.bool false)) Γ := by cases b <;> rfl
/-! slices, places -/
@[simp] theorem partN_eq : partN Γ = .ok none Γ := id rfl
def partK : R → Ge → Out (Option Int) := fun r Γ1 => match view Γ1 r with
  | some (.int i) => .ok (some i) Γ1
  | _ => .no
def parts (a : Option D) (Γ : Ge) : Out (Option Int) := match a with
  | some (.int i) => .ok (some i) Γ
  | _ => .no
@[simp] theorem partF_eq : partF f Γ = (f Γ).bind partK := id rfl
@[simp] theorem partK_eq : partK r Γ = parts (view Γ r) Γ := id rfl
@[simp] theorem parts_eq {i : Int} : parts (some (.int i)) Γ = .ok (some i) Γ := id rfl
variable {os : D → Option Int → Option Int → Option O} {lo hi : IF} {a1 a2 : Option Int}
def slK3 (os : D → Option Int → Option Int → Option O) (r : R) (i : Option Int) : Option Int → EF := fun j Γ3 => match view Γ3 r with
  | some d => outO Γ3 (os d i j)
  | none => .no
def sls (os : D → Option Int → Option Int → Option O) (a : Option D) (i j : Option Int) (Γ : Ge) : Out R := match a with
  | some d => outO Γ (os d i j)
  | none => .no
def slK2 (os : D → Option Int → Option Int → Option O) (hi : IF) (r : R) : Option Int → EF := fun i Γ2 => (hi Γ2).bind (slK3 os r i)
def slK1 (os : D → Option Int → Option Int → Option O) (lo hi : IF) : R → EF := fun r Γ1 => (lo Γ1).bind (slK2 os hi r)
@[simp] theorem slF_eq : slF os f lo hi Γ = (f Γ).bind (slK1 os lo hi) := id rfl
@[simp] theorem slK1_eq : slK1 os lo hi r Γ = (lo Γ).bind (slK2 os hi r) := id rfl
@[simp] theorem slK2_eq : slK2 os hi r a1 Γ = (hi Γ).bind (slK3 os r a1) := id rfl
@[simp] theorem slK3_eq : slK3 os r a1 a2 Γ = sls os (view Γ r) a1 a2 Γ := id rfl
@[simp] theorem sls_eq : sls os (some d) a1 a2 Γ = outO Γ (os d a1 a2) := id rfl
def revK : R → EF := fun r Γ1 => match view Γ1 r with
  | some (.list xs) => .ok (.l xs.reverse) Γ1
  | some (.tuple xs) => .ok (.d (.tuple xs.reverse)) Γ1
  | _ => .no
def revs (a : Option D) (Γ : Ge) : Out R := match a with
  | some (.list xs) => .ok (.l xs.reverse) Γ
  | some (.tuple xs) => .ok (.d (.tuple xs.reverse)) Γ
  | _ => .no
@[simp] theorem revA_eq : revA f Γ = (f Γ).bind revK := id rfl
@[simp] theorem revK_eq : revK r Γ = revs (view Γ r) Γ := id rfl
@[simp] theorem revs_l : revs (some (.list xs)) Γ = .ok (.l xs.reverse) Γ := id rfl
@[simp] theorem revs_t : revs (some (.tuple xs)) Γ = .ok (.d (.tuple xs.reverse)) Γ := id rfl
def isiK (T : String) : R → EF := fun r Γ1 => match view Γ1 r with
  | some d => match kitB (tyN d) T with
    | some b => .ok (.d (.bool b)) Γ1
    | none => .no
  | none => .no
def isis (T : String) (a : Option D) (Γ : Ge) : Out R := match a with
  | some d => match kitB (tyN d) T with
    | some b => .ok (.d (.bool b)) Γ
    | none => .no
  | none => .no
variable {T : String}
@[simp] theorem isiF_eq : isiF T f Γ = (f Γ).bind (isiK T) := id rfl
@[simp] theorem isiK_eq : isiK T r Γ = isis T (view Γ r) Γ := id rfl
def isKind (T : String) (d : D) : Bool := decide (tyN d = T) || (decide (tyN d = "bool") && decide (T = "int"))
theorem isis_of {b : Bool} (h : kitB (tyN d) T = some b) : isis T (some d) Γ = .ok (.d (.bool b)) Γ := by
  unfold isis
  dsimp only
  rw [h]
@[simp] theorem isi_int_NoneType : isis "int" (some (PyData.none)) Γ = .ok (.d (.bool false)) Γ := isis_of (show kitB "NoneType" "int" = some false by decide +kernel)
@[simp] theorem isi_int_bool {b : Bool} : isis "int" (some (.bool b)) Γ = .ok (.d (.bool true)) Γ := isis_of (show kitB "bool" "int" = some true by decide +kernel)
@[simp] theorem isi_int_int {n : Int} : isis "int" (some (.int n)) Γ = .ok (.d (.bool true)) Γ := isis_of (show kitB "int" "int" = some true by decide +kernel)
@[simp] theorem isi_int_str {z : Str} : isis "int" (some (.str z)) Γ = .ok (.d (.bool false)) Γ := isis_of (show kitB "str" "int" = some false by decide +kernel)
@[simp] theorem isi_int_list {l : List D} : isis "int" (some (.list l)) Γ = .ok (.d (.bool false)) Γ := isis_of (show kitB "list" "int" = some false by decide +kernel)
@[simp] theorem isi_int_tuple {l : List D} : isis "int" (some (.tuple l)) Γ = .ok (.d (.bool false)) Γ := isis_of (show kitB "tuple" "int" = some false by decide +kernel)
@[simp] theorem isi_int_dict {m : List (D × D)} : isis "int" (some (.dict m)) Γ = .ok (.d (.bool false)) Γ := isis_of (show kitB "dict" "int" = some false by decide +kernel)
@[simp] theorem isi_bool_NoneType : isis "bool" (some (PyData.none)) Γ = .ok (.d (.bool false)) Γ := isis_of (show kitB "NoneType" "bool" = some false by decide +kernel)
@[simp] theorem isi_bool_bool {b : Bool} : isis "bool" (some (.bool b)) Γ = .ok (.d (.bool true)) Γ := isis_of (show kitB "bool" "bool" = some true by decide +kernel)
@[simp] theorem isi_bool_int {n : Int} : isis "bool" (some (.int n)) Γ = .ok (.d (.bool false)) Γ := isis_of (show kitB "int" "bool" = some false by decide +kernel)
@[simp] theorem isi_bool_str {z : Str} : isis "bool" (some (.str z)) Γ = .ok (.d (.bool false)) Γ := isis_of (show kitB "str" "bool" = some false by decide +kernel)
@[simp] theorem isi_bool_list {l : List D} : isis "bool" (some (.list l)) Γ = .ok (.d (.bool false)) Γ := isis_of (show kitB "list" "bool" = some false by decide +kernel)
@[simp] theorem isi_bool_tuple {l : List D} : isis "bool" (some (.tuple l)) Γ = .ok (.d (.bool false)) Γ := isis_of (show kitB "tuple" "bool" = some false by decide +kernel)
@[simp] theorem isi_bool_dict {m : List (D × D)} : isis "bool" (some (.dict m)) Γ = .ok (.d (.bool false)) Γ := isis_of (show kitB "dict" "bool" = some false by decide +kernel)
@[simp] theorem isi_str_NoneType : isis "str" (some (PyData.none)) Γ = .ok (.d (.bool false)) Γ := isis_of (show kitB "NoneType" "str" = some false by decide +kernel)
@[simp] theorem isi_str_bool {b : Bool} : isis "str" (some (.bool b)) Γ = .ok (.d (.bool false)) Γ := isis_of (show kitB "bool" "str" = some false by decide +kernel)
@[simp] theorem isi_str_int {n : Int} : isis "str" (some (.int n)) Γ = .ok (.d (.bool false)) Γ := isis_of (show kitB "int" "str" = some false by decide +kernel)
@[simp] theorem isi_str_str {z : Str} : isis "str" (some (.str z)) Γ = .ok (.d (.bool true)) Γ := isis_of (show kitB "str" "str" = some true by decide +kernel)
@[simp] theorem isi_str_list {l : List D} : isis "str" (some (.list l)) Γ = .ok (.d (.bool false)) Γ := isis_of (show kitB "list" "str" = some false by decide +kernel)
@[simp] theorem isi_str_tuple {l : List D} : isis "str" (some (.tuple l)) Γ = .ok (.d (.bool false)) Γ := isis_of (show kitB "tuple" "str" = some false by decide +kernel)
@[simp] theorem isi_str_dict {m : List (D × D)} : isis "str" (some (.dict m)) Γ = .ok (.d (.bool false)) Γ := isis_of (show kitB "dict" "str" = some false by decide +kernel)
@[simp] theorem isi_tuple_NoneType : isis "tuple" (some (PyData.none)) Γ = .ok (.d (.bool false)) Γ := isis_of (show kitB "NoneType" "tuple" = some false by decide +kernel)
@[simp] theorem isi_tuple_bool {b : Bool} : isis "tuple" (some (.bool b)) Γ = .ok (.d (.bool false)) Γ := isis_of (show kitB "bool" "tuple" = some false by decide +kernel)
@[simp] theorem isi_tuple_int {n : Int} : isis "tuple" (some (.int n)) Γ = .ok (.d (.bool false)) Γ := isis_of (show kitB "int" "tuple" = some false by decide +kernel)
@[simp] theorem isi_tuple_str {z : Str} : isis "tuple" (some (.str z)) Γ = .ok (.d (.bool false)) Γ := isis_of (show kitB "str" "tuple" = some false by decide +kernel)
@[simp] theorem isi_tuple_list {l : List D} : isis "tuple" (some (.list l)) Γ = .ok (.d (.bool false)) Γ := isis_of (show kitB "list" "tuple" = some false by decide +kernel)
@[simp] theorem isi_tuple_tuple {l : List D} : isis "tuple" (some (.tuple l)) Γ = .ok (.d (.bool true)) Γ := isis_of (show kitB "tuple" "tuple" = some true by decide +kernel)
@[simp] theorem isi_tuple_dict {m : List (D × D)} : isis "tuple" (some (.dict m)) Γ = .ok (.d (.bool false)) Γ := isis_of (show kitB "dict" "tuple" = some false by decide +kernel)
@[simp] theorem isi_list_NoneType : isis "list" (some (PyData.none)) Γ = .ok (.d (.bool false)) Γ := isis_of (show kitB "NoneType" "list" = some false by decide +kernel)
@[simp] theorem isi_list_bool {b : Bool} : isis "list" (some (.bool b)) Γ = .ok (.d (.bool false)) Γ := isis_of (show kitB "bool" "list" = some false by decide +kernel)
@[simp] theorem isi_list_int {n : Int} : isis "list" (some (.int n)) Γ = .ok (.d (.bool false)) Γ := isis_of (show kitB "int" "list" = some false by decide +kernel)
@[simp] theorem isi_list_str {z : Str} : isis "list" (some (.str z)) Γ = .ok (.d (.bool false)) Γ := isis_of (show kitB "str" "list" = some false by decide +kernel)
@[simp] theorem isi_list_list {l : List D} : isis "list" (some (.list l)) Γ = .ok (.d (.bool true)) Γ := isis_of (show kitB "list" "list" = some true by decide +kernel)
@[simp] theorem isi_list_tuple {l : List D} : isis "list" (some (.tuple l)) Γ = .ok (.d (.bool false)) Γ := isis_of (show kitB "tuple" "list" = some false by decide +kernel)
@[simp] theorem isi_list_dict {m : List (D × D)} : isis "list" (some (.dict m)) Γ = .ok (.d (.bool false)) Γ := isis_of (show kitB "dict" "list" = some false by decide +kernel)
@[simp] theorem isi_dict_NoneType : isis "dict" (some (PyData.none)) Γ = .ok (.d (.bool false)) Γ := isis_of (show kitB "NoneType" "dict" = some false by decide +kernel)
@[simp] theorem isi_dict_bool {b : Bool} : isis "dict" (some (.bool b)) Γ = .ok (.d (.bool false)) Γ := isis_of (show kitB "bool" "dict" = some false by decide +kernel)
@[simp] theorem isi_dict_int {n : Int} : isis "dict" (some (.int n)) Γ = .ok (.d (.bool false)) Γ := isis_of (show kitB "int" "dict" = some false by decide +kernel)
@[simp] theorem isi_dict_str {z : Str} : isis "dict" (some (.str z)) Γ = .ok (.d (.bool false)) Γ := isis_of (show kitB "str" "dict" = some false by decide +kernel)
@[simp] theorem isi_dict_list {l : List D} : isis "dict" (some (.list l)) Γ = .ok (.d (.bool false)) Γ := isis_of (show kitB "list" "dict" = some false by decide +kernel)
@[simp] theorem isi_dict_tuple {l : List D} : isis "dict" (some (.tuple l)) Γ = .ok (.d (.bool false)) Γ := isis_of (show kitB "tuple" "dict" = some false by decide +kernel)
@[simp] theorem isi_dict_dict {m : List (D × D)} : isis "dict" (some (.dict m)) Γ = .ok (.d (.bool true)) Γ := isis_of (show kitB "dict" "dict" = some true by decide +kernel)
def lenSetK : R → EF := fun r Γ1 => match view Γ1 r with
  | some (.tuple xs) => match asIs xs with
    | some ns => if ns.length ≤ 1000 then .ok (.d (.int (distinct ns).length)) Γ1 else .no
    | none => .no
  | _ => .no
def lenSets (a : Option D) (Γ : Ge) : Out R := match a with
  | some (.tuple xs) => match asIs xs with
    | some ns => if ns.length ≤ 1000 then .ok (.d (.int (distinct ns).length)) Γ else .no
    | none => .no
  | _ => .no
@[simp] theorem lenSetF_eq : lenSetF f Γ = (f Γ).bind lenSetK := id rfl
@[simp] theorem lenSetK_eq : lenSetK r Γ = lenSets (view Γ r) Γ := id rfl
@[simp] theorem dic0_eq : dic0 Γ = .ok (.d (.dict [])) Γ := id rfl
@[simp] theorem dic1_eq {x y : Int} : dic1 x y Γ = .ok (.d (.dict [(.int x, .int y)])) Γ := id rfl
/-! lists of one's own -/
def setIxK (i : Nat) (k : EF) : R → SF := fun r Γ1 => match r with
  | .d x => setIx1 i x k Γ1
  | _ => .no
@[simp] theorem setIx_eq : setIx i f g Γ = (f Γ).bind (setIxK i g) := id rfl
def setIx1s (a : Option (List D)) (i : Nat) (x : D) (k : EF) (Γ : Ge) : Out Fl := match a with
  | some _ => (k Γ).bind (setIx2 i x)
  | none => .no
@[simp] theorem setIxK_eq : setIxK i g (.d d) Γ = setIx1s (slotLs Γ[i]?) i d g Γ := id rfl
@[simp] theorem setIx1s_eq : setIx1s (some xs) i d g Γ = (g Γ).bind (setIx2 i d) := id rfl
def setIx2s (a : Option D) (b : Option (List D)) (i : Nat) (x : D) (Γ : Ge) : Out Fl := match a, b with
  | some (.int j), some xs => match ixN xs.length j with
    | some n => .ok .nx (putL Γ i (xs.set n x))
    | none => .no
  | _, _ => .no
@[simp] theorem setIx2_eq : setIx2 i d r Γ = setIx2s (view Γ r) (slotLs Γ[i]?) i d Γ := id rfl
def setIx3 (a : Option Nat) (xs : List D) (i : Nat) (x : D) (Γ : Ge) : Out Fl := match a with
  | some n => .ok .nx (putL Γ i (xs.set n x))
  | none => .no
@[simp] theorem setIx2s_eq {j : Int} : setIx2s (some (.int j)) (some xs) i d Γ = setIx3 (ixN xs.length j) xs i d Γ := id rfl
@[simp] theorem setIx3_eq : setIx3 (some n) xs i d Γ = .ok .nx (putL Γ i (xs.set n d)) := id rfl
variable {om2 : List D → List D → Option (List D × D)}
def mutK (i : Nat) (o : List D → List D → Option (List D × D)) : List R → EF := fun rs Γ1 => match slotL Γ1 i, allD rs with
  | some xs, some ds => match o xs ds with
    | some (ys, r) => .ok (.d r) (putL Γ1 i ys)
    | none => .no
  | _, _ => .no
def mut0 (a : Option (List D)) (i : Nat) (o : List D → List D → Option (List D × D)) (t : Ge → Out (List R)) (Γ : Ge) : Out R := match a with
  | none => .no
  | some _ => (t Γ).bind (mutK i o)
@[simp] theorem mutF_eq : mutF i om2 t Γ = mut0 (slotLs Γ[i]?) i om2 t Γ := id rfl
@[simp] theorem mut0_eq : mut0 (some xs) i om2 t Γ = (t Γ).bind (mutK i om2) := id rfl
def mut1 (a b : Option (List D)) (i : Nat) (o : List D → List D → Option (List D × D)) (Γ : Ge) : Out R := match a, b with
  | some xs, some ds => match o xs ds with
    | some (ys, r) => .ok (.d r) (putL Γ i ys)
    | none => .no
  | _, _ => .no
@[simp] theorem mutK_eq : mutK i om2 rs Γ = mut1 (slotLs Γ[i]?) (allD rs) i om2 Γ := id rfl
def mut2 (a : Option (List D × D)) (i : Nat) (Γ : Ge) : Out R := match a with
  | some (ys, r) => .ok (.d r) (putL Γ i ys)
  | none => .no
@[simp] theorem mut1_eq : mut1 (some xs) (some ds) i om2 Γ = mut2 (om2 xs ds) i Γ := id rfl
@[simp] theorem mut2_eq : mut2 (some (ys, d)) i Γ = .ok (.d d) (putL Γ i ys) := id rfl
@[simp] theorem appendM_eq : appendM xs [d] = if xs.length < 1000000 then some (xs ++ [d], .none) else none := id rfl
/-! calls -/
def callK (M : FM) : List R → EF := fun rs Γ => callM M rs Γ
@[simp] theorem callF_eq : callF M t Γ = (t Γ).bind (callK M) := id rfl
@[simp] theorem callK_eq : callK M rs Γ = callM M rs Γ := id rfl
/-- a call with data alone -/
def dps : List R → Option Ge
  | [] => some []
  | .d x :: rs => (dps rs).map (.d x :: ·)
  | _ => none
theorem bparams_dps : ∀ {rs : List R} {ps : Ge}, dps rs = some ps → bparams Γ rs = some ps ∧ slotsOf rs = [] ∧ ∀ qs, wback Γ rs qs = Γ
  | [], _, h => by cases h; exact ⟨rfl, rfl, fun qs => by cases qs <;> rfl⟩
  | .d x :: rs, ps, h => by
    have h : (dps rs).map (Sl.d x :: ·) = some ps := h
    cases e : dps rs with
    | none => rw [e] at h; cases h
    | some us =>
      rw [e] at h
      cases h
      obtain ⟨h1, h2, h3⟩ := bparams_dps e
      refine ⟨?_, h2, fun qs => ?_⟩
      · show (bparams Γ rs).map (Sl.d x :: ·) = _
        rw [h1]
        rfl
      · cases qs with
        | nil => rfl
        | cons q qs => exact h3 qs
  | .l _ :: _, _, h => by cases h
  | .s _ :: _, _, h => by cases h
theorem callM_d {ps qs : Ge} (h : dps rs = some ps) (e : M ps = .ok (.d d) qs) : callM M rs Γ = .ok (.d d) Γ := by
  obtain ⟨h1, h2, h3⟩ := bparams_dps (Γ := Γ) h
  unfold callM
  rw [h1, h2]
  dsimp only
  rw [if_pos List.nodup_nil, e]
  dsimp only
  rw [h3]
theorem callM_l {ps qs : Ge} (h : dps rs = some ps) (e : M ps = .ok (.l xs) qs) : callM M rs Γ = .ok (.l xs) Γ := by
  obtain ⟨h1, h2, h3⟩ := bparams_dps (Γ := Γ) h
  unfold callM
  rw [h1, h2]
  dsimp only
  rw [if_pos List.nodup_nil, e]
  dsimp only
  rw [h3]
/-- a call, by what the def satisfies -/
theorem sat_call {ps : Ge} {Q : R → Ge → Prop} (hb : bparams Γ rs = some ps) (hn : (slotsOf rs).Nodup) (h : sat (M ps) fun r qs => (∀ i, r ≠ .s i) ∧ Q r (wback Γ rs qs)) : sat (callM M rs Γ) Q := by
  unfold callM
  rw [hb]
  dsimp only
  rw [if_pos hn]
  cases e : M ps with
  | no => rw [e] at h; exact h
  | ex _ _ => rw [e] at h; exact h
  | ok r qs =>
    rw [e] at h
    cases r with
    | d x => exact h.2
    | l x => exact h.2
    | o x => exact h.2
    | s i => exact absurd rfl (h.1 i)
/-! loops -/
def itK : R → LF := fun r Γ1 => match r with
  | .d (.list xs) => .ok xs Γ1
  | .d (.tuple xs) => .ok xs Γ1
  | _ => .no
@[simp] theorem itF_eq : itF f Γ = (f Γ).bind itK := id rfl
@[simp] theorem itK_l : itK (.d (.list xs)) Γ = .ok xs Γ := id rfl
@[simp] theorem itK_t : itK (.d (.tuple xs)) Γ = .ok xs Γ := id rfl
def rng1s (a : Option (List D)) (Γ : Ge) : Out (List D) := match a with
  | some [.int j] => if -(2 ^ 62) ≤ j ∧ j < 2 ^ 62 then .ok (rngD 0 j.toNat) Γ else .no
  | _ => .no
def rng1K : List R → LF := fun rs Γ => rng1s (views Γ rs) Γ
@[simp] theorem rng1F_eq : rng1F t Γ = (t Γ).bind rng1K := id rfl
@[simp] theorem rng1K_eq : rng1K rs Γ = rng1s (views Γ rs) Γ := id rfl
@[simp] theorem rng1s_eq {j : Int} : rng1s (some [.int j]) Γ = if -(2 ^ 62) ≤ j ∧ j < 2 ^ 62 then .ok (rngD 0 j.toNat) Γ else .no := id rfl
def rng2s (a : Option (List D)) (Γ : Ge) : Out (List D) := match a with
  | some [.int i, .int j] => if -(2 ^ 62) ≤ i ∧ i < 2 ^ 62 ∧ -(2 ^ 62) ≤ j ∧ j < 2 ^ 62 then .ok (rngD i (j - i).toNat) Γ else .no
  | _ => .no
def rng2K : List R → LF := fun rs Γ => rng2s (views Γ rs) Γ
@[simp] theorem rng2F_eq : rng2F t Γ = (t Γ).bind rng2K := id rfl
@[simp] theorem rng2K_eq : rng2K rs Γ = rng2s (views Γ rs) Γ := id rfl
@[simp] theorem rng2s_eq {i j : Int} : rng2s (some [.int i, .int j]) Γ = if -(2 ^ 62) ≤ i ∧ i < 2 ^ 62 ∧ -(2 ^ 62) ≤ j ∧ j < 2 ^ 62 then .ok (rngD i (j - i).toNat) Γ else .no := id rfl
def zipK : List R → LF := fun rs Γ1 => match rs with
  | [.d (.list xs), .d (.list ys)] => .ok (zipD xs ys) Γ1
  | [.d (.tuple xs), .d (.tuple ys)] => .ok (zipD xs ys) Γ1
  | _ => .no
@[simp] theorem zipF_eq : zipF t Γ = (t Γ).bind zipK := id rfl
@[simp] theorem zipK_l : zipK [.d (.list xs), .d (.list ys)] Γ = .ok (zipD xs ys) Γ := id rfl
@[simp] theorem zipK_t : zipK [.d (.tuple xs), .d (.tuple ys)] Γ = .ok (zipD xs ys) Γ := id rfl
def forK (gf : GF) (p : SF) : List D → SF := fun ds Γ => loopF gf p ds Γ
@[simp] theorem forF_eq : forF it gf p Γ = (it Γ).bind (forK gf p) := id rfl
@[simp] theorem forK_eq : forK gf p ds Γ = loopF gf p ds Γ := id rfl
@[simp] theorem loopF_nil : loopF gf p [] Γ = .ok .nx Γ := id rfl
def turn2 (k : Ge → Out Fl) : Fl → SF := fun fl Γ2 => match fl with
  | .nx => k Γ2
  | .ct => k Γ2
  | .bk => .ok .nx Γ2
  | .rt r => .ok (.rt r) Γ2
def turn1 (p : SF) (k : Ge → Out Fl) : Unit → SF := fun _ Γ => (p Γ).bind (turn2 k)
theorem loopF_cons : loopF gf p (d :: ds) Γ = (gf (.d d) Γ).bind (turn1 p (loopF gf p ds)) := rfl
@[simp] theorem turn1_eq {k : Ge → Out Fl} {u : Unit} : turn1 p k u Γ = (p Γ).bind (turn2 k) := id rfl
@[simp] theorem turn2_nx {k : Ge → Out Fl} : turn2 k .nx Γ = k Γ := id rfl
@[simp] theorem turn2_ct {k : Ge → Out Fl} : turn2 k .ct Γ = k Γ := id rfl
@[simp] theorem turn2_bk {k : Ge → Out Fl} : turn2 k .bk Γ = .ok .nx Γ := id rfl
@[simp] theorem turn2_rt {k : Ge → Out Fl} : turn2 k (.rt r) Γ = .ok (.rt r) Γ := id rfl
def lcEnd (Γ1 : Ge) (vs : List Nat) : Out (List D) → Out R
  | .ok xs Γ2 => .ok (.l xs) (restG Γ1 Γ2 vs)
  | _ => .no
variable {vs : List Nat}
def lcK (g : GF) (u : BF) (e : EF) (vs : List Nat) : List D → EF := fun ds Γ1 => if plainAt Γ1 vs = true then lcEnd Γ1 vs (lcLoop g u e vs ds [] (wipeG Γ1 vs)) else .no
@[simp] theorem lcF_eq : lcF it gf u f vs Γ = (it Γ).bind (lcK gf u f vs) := by
  unfold lcF lcK lcEnd
  rfl
@[simp] theorem lcK_eq : lcK gf u f vs ds Γ = if plainAt Γ vs = true then lcEnd Γ vs (lcLoop gf u f vs ds [] (wipeG Γ vs)) else .no := id rfl
@[simp] theorem lcEnd_ok : lcEnd Γ1 vs (.ok xs Γ) = .ok (.l xs) (restG Γ1 Γ vs) := id rfl
/-- a comprehension whose element is always so -/
theorem sat_lcEnd {Q : R → Ge → Prop} {o : Out (List D)} (h : sat o fun xs Γ2 => Q (.l xs) (restG Γ1 Γ2 vs)) : sat (lcEnd Γ1 vs o) Q := by
  cases o with
  | ok xs Γ2 => exact h
  | ex _ _ => exact h
  | no => exact h
end

/-! ### operations at known data -/
section
variable {i j : Int} {x y : Str} {xs ys : List D} {a b : Bool} {d e : D}
@[simp] theorem addI_i : addI (.int i) (.int j) = some (.d (.int (i + j))) := id rfl
@[simp] theorem subI_i : subI (.int i) (.int j) = some (.d (.int (i - j))) := id rfl
@[simp] theorem modI_i : modI (.int i) (.int j) = if 0 < j then some (.d (.int (i % j))) else none := by
  unfold modI iI
  dsimp only
  split <;> rfl
@[simp] theorem divA_i : divA (.int i) (.int j) = if 0 < j ∧ j < 1606938044258990275541962092341162602522202993782792835301376 then some (.d (.int (i / j))) else none := by
  unfold divA iI
  dsimp only
  split <;> rfl
@[simp] theorem powI_i : powI (.int i) (.int j) = if CPow i j then some (.d (.int (i ^ j.toNat))) else none := by
  unfold powI iI
  dsimp only
  split <;> rfl
@[simp] theorem mulA_i : mulA (.int i) (.int j) = if CMul i j then some (.d (.int (i * j))) else if wideI i && wideI j then some (.d (.int (i * j))) else none := id rfl
@[simp] theorem addA_i : addA (.int i) (.int j) = some (.d (.int (i + j))) := id rfl
@[simp] theorem ltI_i : ltI (.int i) (.int j) = some (.d (.bool (decide (i < j)))) := id rfl
@[simp] theorem leI_i : leI (.int i) (.int j) = some (.d (.bool (decide (i ≤ j)))) := id rfl
@[simp] theorem gtI_i : gtI (.int i) (.int j) = some (.d (.bool (decide (j < i)))) := id rfl
@[simp] theorem geI_i : geI (.int i) (.int j) = some (.d (.bool (decide (j ≤ i)))) := id rfl
@[simp] theorem negI_i : negI (.int i) = some (.d (.int (-i))) := id rfl
@[simp] theorem absI_i : absI [.int i] = some (.d (.int (if i < 0 then -i else i))) := id rfl
@[simp] theorem max2_i : max2I [.int i, .int j] = some (.d (.int (if j > i then j else i))) := id rfl
@[simp] theorem min2_i : min2I [.int i, .int j] = some (.d (.int (if j < i then j else i))) := id rfl
@[simp] theorem intC_i : intC [.int i] = some (.d (.int i)) := id rfl
@[simp] theorem intC_b : intC [.bool a] = some (.d (.int (if a then 1 else 0))) := id rfl
@[simp] theorem lenC_l : lenC [.list xs] = some (.d (.int xs.length)) := id rfl
@[simp] theorem lenC_t : lenC [.tuple xs] = some (.d (.int xs.length)) := id rfl
@[simp] theorem tupC_l : tupC [.list xs] = some (.t xs) := id rfl
@[simp] theorem tupC_t : tupC [.tuple xs] = some (.d (.tuple xs)) := id rfl
@[simp] theorem listC_l : listC [.list xs] = some (.l xs) := id rfl
@[simp] theorem listC_t : listC [.tuple xs] = some (.l xs) := id rfl
@[simp] theorem allC_l : allC [.list xs] = (asBs xs).map fun bs => .d (.bool (bs.all id)) := id rfl
@[simp] theorem sumC_l : sumC [.list xs] = (asIs xs).map fun bs => .d (.int bs.sum) := id rfl
@[simp] theorem sortedC_t : sortedC [.tuple xs] = (asIs xs).map fun bs => .l ((sortI bs).map .int) := id rfl
@[simp] theorem sortedC_l : sortedC [.list xs] = (asIs xs).map fun bs => .l ((sortI bs).map .int) := id rfl
@[simp] theorem ixD_l : ixD (.list xs) (.int i) = (atI xs i).map .d := id rfl
@[simp] theorem ixD_t : ixD (.tuple xs) (.int i) = (atI xs i).map .d := id rfl
@[simp] theorem slAD_l {lo hi : Option Int} : slAD (.list xs) lo hi = some (.l (cutD xs lo hi)) := id rfl
theorem slAD_t {lo hi : Option Int} : slAD (.tuple xs) lo hi = if HT.sIx xs.length 0 lo = 0 ∧ HT.sIx xs.length xs.length hi = xs.length then some (.d (.tuple xs)) else some (.t (cutD xs lo hi)) := rfl
/-- a tuple's slice, the whole of it or not, is data -/
@[simp] theorem out_slT {Γ : Ge} {lo hi : Option Int} : outO Γ (slAD (.tuple xs) lo hi) = .ok (.d (.tuple (cutD xs lo hi))) Γ := by
  rw [slAD_t]
  split
  · rename_i h
    have : cutD xs lo hi = xs := by
      unfold cutD
      rw [h.1, h.2]
      simp
    rw [this]
    rfl
  · rfl
@[simp] theorem sls_t {Γ : Ge} {lo hi : Option Int} : sls slAD (some (.tuple xs)) lo hi Γ = .ok (.d (.tuple (cutD xs lo hi))) Γ := out_slT
@[simp] theorem addA_l : addA (.list xs) (.list ys) = if xs.length + ys.length < 1000000 then some (.l (xs ++ ys)) else none := id rfl
/-- tuple + tuple is data -/
theorem out_addT {Γ : Ge} (h : xs.length + ys.length < 1000000) : outO Γ (addA (.tuple xs) (.tuple ys)) = .ok (.d (.tuple (xs ++ ys))) Γ := by
  have e : addA (.tuple xs) (.tuple ys) = if xs.length + ys.length < 1000000 then (if xs.isEmpty then some (.d (.tuple ys)) else if ys.isEmpty then some (.d (.tuple xs)) else some (.t (xs ++ ys))) else none := rfl
  rw [e, if_pos h]
  cases xs with
  | nil => rfl
  | cons x xs =>
    cases ys with
    | nil => simp
    | cons y ys => rfl
@[simp] theorem eqD_i : eqD (.int i) (.int j) = some (.d (.bool (decide (i = j)))) := by
  unfold eqD
  rw [if_pos ⟨rfl, rfl⟩]
  simp [PyData.eqv, Bool.beq_eq_decide_eq]
@[simp] theorem neD_i : neD (.int i) (.int j) = some (.d (.bool (!decide (i = j)))) := by
  unfold neD
  rw [if_pos ⟨rfl, rfl⟩]
  simp [PyData.eqv, Bool.beq_eq_decide_eq]
@[simp] theorem eqD_b : eqD (.bool a) (.bool b) = some (.d (.bool (a == b))) := by
  unfold eqD
  rw [if_pos ⟨rfl, rfl⟩]
  simp [PyData.eqv]
@[simp] theorem isB_b : isB (.bool a) (.bool b) = some (.d (.bool (decide (a = b)))) := id rfl
@[simp] theorem notIsB_b : notIsB (.bool a) (.bool b) = some (.d (.bool (!decide (a = b)))) := id rfl
end
end Ly
set_option maxRecDepth 100000
namespace Ly
open PySem L2
section
variable {gf : GF} {p : SF} {u : BF} {f : EF} {vs : List Nat} {Γw Γ : Ge} {φ : D → D} {ds acc : List D}
/-- a comprehension without a state -/
theorem lc_map (hl : acc.length + ds.length ≤ 1000000) (h : ∀ d ∈ ds, ∃ Γ1 Γ2, gf (.d d) Γw = .ok () Γ1 ∧ u Γ1 = .ok true Γ1 ∧ f Γ1 = .ok (.d (φ d)) Γ2 ∧ wipeG Γ2 vs = Γw) :
    lcLoop gf u f vs ds acc Γw = .ok (acc ++ ds.map φ) Γw := by
  induction ds generalizing acc with
  | nil => simp [lcLoop]
  | cons d ds ih =>
    obtain ⟨Γ1, Γ2, h1, h2, h3, h4⟩ := h d (by simp)
    rw [List.length_cons] at hl
    unfold lcLoop
    rw [h1]
    dsimp only
    rw [h2]
    dsimp only
    rw [h3]
    dsimp only
    rw [if_pos (by omega), h4, ih (by rw [List.length_append, List.length_singleton]; omega) fun d hd => h d (List.mem_cons_of_mem _ hd)]
    simp
/-- a comprehension with a state: each turn keeps Inv and gives an item of which P holds -/
theorem sat_lc {Inv : Ge → Prop} {P : D → Prop} (hl : acc.length + ds.length ≤ 1000000) (ha : ∀ d ∈ acc, P d) (h0 : Inv Γ)
    (h : ∀ d ∈ ds, ∀ Γ, Inv Γ → sat (gf (.d d) Γ) fun _ Γ1 => sat (u Γ1) fun b Γ2 => b = true ∧ sat (f Γ2) fun r Γ3 => ∃ y, r = .d y ∧ P y ∧ Inv (wipeG Γ3 vs)) :
    sat (lcLoop gf u f vs ds acc Γ) fun xs Γ' => Inv Γ' ∧ xs.length = acc.length + ds.length ∧ ∀ d ∈ xs, P d := by
  induction ds generalizing acc Γ with
  | nil => exact ⟨h0, by simp, ha⟩
  | cons d ds ih =>
    rw [List.length_cons] at hl
    obtain ⟨u1, Γ1, e1, h1⟩ := sat_iff.mp (h d (by simp) Γ h0)
    obtain ⟨b, Γ2, e2, hb, h2⟩ := sat_iff.mp h1
    obtain ⟨r, Γ3, e3, y, hr, hy, hi⟩ := sat_iff.mp h2
    subst hb hr
    unfold lcLoop
    rw [e1]
    dsimp only
    rw [e2]
    dsimp only
    rw [e3]
    dsimp only
    rw [if_pos (by omega)]
    refine sat_mono (ih (acc := acc ++ [y]) (by rw [List.length_append, List.length_singleton]; omega) (fun z hz => ?_) hi fun d hd => h d (List.mem_cons_of_mem _ hd)) fun xs Γ' ⟨q1, q2, q3⟩ => ⟨q1, ?_, q3⟩
    · rcases List.mem_append.mp hz with z' | z'
      · exact ha z z'
      · rw [List.mem_singleton.mp z']
        exact hy
    · rw [q2, List.length_append, List.length_singleton, List.length_cons]
      omega
/-- .. with a test: some are left out -/
theorem sat_lcIf {Inv : Ge → Prop} {P : D → Prop} (hl : acc.length + ds.length ≤ 1000000) (ha : ∀ d ∈ acc, P d) (h0 : Inv Γ)
    (h : ∀ d ∈ ds, ∀ Γ, Inv Γ → sat (gf (.d d) Γ) fun _ Γ1 => sat (u Γ1) fun b Γ2 => (b = false → Inv (wipeG Γ2 vs)) ∧ (b = true → sat (f Γ2) fun r Γ3 => r = .d d ∧ P d ∧ Inv (wipeG Γ3 vs))) :
    sat (lcLoop gf u f vs ds acc Γ) fun xs Γ' => Inv Γ' ∧ ∃ zs, xs = acc ++ zs ∧ zs.Sublist ds ∧ ∀ d ∈ xs, P d := by
  induction ds generalizing acc Γ with
  | nil => exact ⟨h0, [], by simp, List.Sublist.refl _, ha⟩
  | cons d ds ih =>
    rw [List.length_cons] at hl
    obtain ⟨u1, Γ1, e1, h1⟩ := sat_iff.mp (h d (by simp) Γ h0)
    obtain ⟨b, Γ2, e2, hf, ht⟩ := sat_iff.mp h1
    unfold lcLoop
    rw [e1]
    dsimp only
    rw [e2]
    cases b with
    | false =>
      exact sat_mono (ih (by omega) ha (hf rfl) fun d hd => h d (List.mem_cons_of_mem _ hd)) fun xs Γ' ⟨q1, zs, q2, q3, q4⟩ => ⟨q1, zs, q2, q3.cons d, q4⟩
    | true =>
      obtain ⟨r, Γ3, e3, hr, hy, hi⟩ := sat_iff.mp (ht rfl)
      subst hr
      dsimp only
      rw [e3]
      dsimp only
      rw [if_pos (by omega)]
      refine sat_mono (ih (acc := acc ++ [d]) (by rw [List.length_append, List.length_singleton]; omega) (fun z hz => ?_) hi fun d hd => h d (List.mem_cons_of_mem _ hd)) fun xs Γ' ⟨q1, zs, q2, q3, q4⟩ => ⟨q1, d :: zs, by rw [q2]; simp, q3.cons_cons d, q4⟩
      rcases List.mem_append.mp hz with z' | z'
      · exact ha z z'
      · rw [List.mem_singleton.mp z']
        exact hy
/-- a loop that searches: it goes on while P, else it hands back r0 -/
theorem sat_search {Inv : Ge → Prop} {P : D → Bool} {r0 : R} (h : ∀ d ∈ ds, ∀ Γ, Inv Γ → sat (gf (.d d) Γ) fun _ Γ1 => sat (p Γ1) fun fl Γ' => Inv Γ' ∧ fl = if P d then .nx else .rt r0) (h0 : Inv Γ) :
    sat (loopF gf p ds Γ) fun fl Γ' => Inv Γ' ∧ fl = if ds.all P then .nx else .rt r0 := by
  induction ds generalizing Γ with
  | nil => exact ⟨h0, rfl⟩
  | cons d ds ih =>
    obtain ⟨u1, Γ1, e1, h1⟩ := sat_iff.mp (h d (by simp) Γ h0)
    obtain ⟨fl, Γ2, e2, q1, q2⟩ := sat_iff.mp h1
    have e : loopF gf p (d :: ds) Γ = turn2 (loopF gf p ds) fl Γ2 := by
      rw [loopF_cons, e1, bind_ok, turn1_eq, e2, bind_ok]
    rw [e, List.all_cons]
    cases hp : P d with
    | true =>
      rw [hp] at q2
      subst q2
      rw [Bool.true_and]
      exact ih (fun d hd => h d (List.mem_cons_of_mem _ hd)) q1
    | false =>
      rw [hp] at q2
      subst q2
      exact ⟨q1, rfl⟩
end
end Ly
namespace Ly
open PySem L2
variable {K : Ctx} {Γ : Ge}
@[simp] theorem atI_nn {α : Type} {xs : List α} {i : Int} (h : 0 ≤ i) : atI xs i = xs[i.toNat]? := by
  unfold atI ixN
  rw [if_pos h]
  by_cases q : i < xs.length
  · rw [if_pos q]; rfl
  · rw [if_neg q]
    exact (List.getElem?_eq_none (by omega)).symm
@[simp] theorem atI_m1 {α : Type} {xs : List α} : atI xs (-1) = xs.getLast? := by
  unfold atI ixN
  rw [if_neg (by decide)]
  cases xs with
  | nil => rfl
  | cons x r =>
    rw [if_pos (by simp; omega)]
    show (x :: r)[(-1 + ((x :: r).length : Int)).toNat]? = _
    rw [List.getLast?_eq_getElem?]
    congr 1
    simp
    omega
@[simp] theorem eqv_ss {s t : Str} : PyData.eqv (.str s) (.str t) = (s == t) := by simp [PyData.eqv]
@[simp] theorem eqv_ii {i j : Int} : PyData.eqv (.int i) (.int j) = decide (i = j) := by simp [PyData.eqv, Bool.beq_eq_decide_eq]
@[simp] theorem eqv_bb {i j : Bool} : PyData.eqv (.bool i) (.bool j) = (i == j) := by simp [PyData.eqv]
@[simp] theorem eqv_bi {b : Bool} {j : Int} : PyData.eqv (.bool b) (.int j) = decide ((if b = true then 1 else 0) = j) := by simp [PyData.eqv, Bool.beq_eq_decide_eq]
@[simp] theorem eqv_ib {b : Bool} {j : Int} : PyData.eqv (.int j) (.bool b) = decide (j = if b = true then 1 else 0) := by simp [PyData.eqv, Bool.beq_eq_decide_eq]
@[simp] theorem eqv_nn : PyData.eqv .none .none = true := by simp [PyData.eqv]
@[simp] theorem eqv_ni {j : Int} : PyData.eqv .none (.int j) = false := by simp [PyData.eqv]
@[simp] theorem eqv_in {j : Int} : PyData.eqv (.int j) .none = false := by simp [PyData.eqv]
@[simp] theorem eqv_nb {b : Bool} : PyData.eqv .none (.bool b) = false := by simp [PyData.eqv]
@[simp] theorem eqv_bn {b : Bool} : PyData.eqv (.bool b) .none = false := by simp [PyData.eqv]
@[simp] theorem eqv_si {s : Str} {j : Int} : PyData.eqv (.str s) (.int j) = false := by simp [PyData.eqv]
@[simp] theorem eqv_is {s : Str} {j : Int} : PyData.eqv (.int j) (.str s) = false := by simp [PyData.eqv]
@[simp] theorem eqv_sb {s : Str} {b : Bool} : PyData.eqv (.str s) (.bool b) = false := by simp [PyData.eqv]
@[simp] theorem eqv_bs {s : Str} {b : Bool} : PyData.eqv (.bool b) (.str s) = false := by simp [PyData.eqv]
@[simp] theorem eqv_sn {s : Str} : PyData.eqv (.str s) .none = false := by simp [PyData.eqv]
@[simp] theorem eqv_ns {s : Str} : PyData.eqv .none (.str s) = false := by simp [PyData.eqv]
@[simp] theorem eqv_tt {xs ys : List D} : PyData.eqv (.tuple xs) (.tuple ys) = PyData.eqvAll xs ys := by simp [PyData.eqv]
@[simp] theorem eqv_ll {xs ys : List D} : PyData.eqv (.list xs) (.list ys) = PyData.eqvAll xs ys := by simp [PyData.eqv]
@[simp] theorem eqvAll_nn : PyData.eqvAll [] [] = true := by simp [PyData.eqvAll]
@[simp] theorem eqvAll_cn {x : D} {xs : List D} : PyData.eqvAll (x :: xs) [] = false := by simp [PyData.eqvAll]
@[simp] theorem eqvAll_nc {x : D} {xs : List D} : PyData.eqvAll [] (x :: xs) = false := by simp [PyData.eqvAll]
@[simp] theorem eqvAll_cc {x y : D} {xs ys : List D} : PyData.eqvAll (x :: xs) (y :: ys) = (PyData.eqv x y && PyData.eqvAll xs ys) := by simp [PyData.eqvAll]
theorem inD_t {neg : Bool} {x : D} {ds : List D} (h : flatS x = true) (h2 : ds.all flatS = true) : inD neg x (.tuple ds) = some (.d (.bool (if neg then !(ds.any fun z => PyData.eqv z x) else ds.any fun z => PyData.eqv z x))) := by
  simp only [inD, h, h2, and_self, if_true]
theorem inD_l {neg : Bool} {x : D} {ds : List D} (h : flatS x = true) (h2 : ds.all flatS = true) : inD neg x (.list ds) = some (.d (.bool (if neg then !(ds.any fun z => PyData.eqv z x) else ds.any fun z => PyData.eqv z x))) := by
  simp only [inD, h, h2, and_self, if_true]
@[simp] theorem inD_ti {neg : Bool} {x : Int} {ds : List D} (h2 : ds.all flatS = true) : inD neg (.int x) (.tuple ds) = some (.d (.bool (if neg then !(ds.any fun z => PyData.eqv z (.int x)) else ds.any fun z => PyData.eqv z (.int x)))) := inD_t rfl h2
@[simp] theorem inD_ts {neg : Bool} {x : Str} {ds : List D} (h2 : ds.all flatS = true) : inD neg (.str x) (.tuple ds) = some (.d (.bool (if neg then !(ds.any fun z => PyData.eqv z (.str x)) else ds.any fun z => PyData.eqv z (.str x)))) := inD_t rfl h2
@[simp] theorem inD_li {neg : Bool} {x : Int} {ds : List D} (h2 : ds.all flatS = true) : inD neg (.int x) (.list ds) = some (.d (.bool (if neg then !(ds.any fun z => PyData.eqv z (.int x)) else ds.any fun z => PyData.eqv z (.int x)))) := inD_l rfl h2
@[simp] theorem flatS_i {x : Int} : flatS (.int x) = true := by simp [flatS]
@[simp] theorem flatS_s {x : Str} : flatS (.str x) = true := by simp [flatS]
@[simp] theorem flatS_b {x : Bool} : flatS (.bool x) = true := by simp [flatS]
@[simp] theorem flatS_n : flatS .none = true := by simp [flatS]
end Ly
namespace Ly
open PySem L2
/-- a search loop that stands in a goal -/
theorem search_of {gf : GF} {p : SF} {ds : List D} {Γ : Ge} {L : Out Fl} (hB : loopF gf p ds Γ = L) (Inv : Ge → Prop) (P : D → Bool) (r0 : R) (h0 : Inv Γ) (h : ∀ d ∈ ds, ∀ Γ, Inv Γ → sat (gf (.d d) Γ) fun _ Γ1 => sat (p Γ1) fun fl Γ' => Inv Γ' ∧ fl = if P d then .nx else .rt r0) :
    ∃ Γ', Inv Γ' ∧ L = .ok (if ds.all P then .nx else .rt r0) Γ' := by
  obtain ⟨fl, Γ', e, h1, h2⟩ := sat_iff.mp (sat_search h h0)
  exact ⟨Γ', h1, by rw [← hB, e, h2]⟩
end Ly
namespace Ly
open PySem L2
@[simp] theorem gNs_nb {s : Sl} {i : Nat} {r : R} {Γ : Ge} (h : notB' s = true) : gNs (some s) i r Γ = putR i r Γ := by
  show (if notB' s = true then putR i r Γ else .no) = _
  rw [if_pos h]
@[simp] theorem nb_d {x : D} : notB' (.d x) = true := by simp [notB']
@[simp] theorem nb_u : notB' .un = true := by simp [notB']
@[simp] theorem nb_l {x : List D} : notB' (.l x) = true := by simp [notB']
end Ly
namespace Ly
open PySem L2
@[simp] theorem sat_ok {α : Type} {a : α} {Γ : Ge} {Q : α → Ge → Prop} : sat (.ok a Γ) Q = Q a Γ := id rfl
end Ly
namespace Ly
open PySem L2
theorem lays_ints : ∀ ns : List Int, PyData.canLayAll0 (ns.map PyData.int) = true
  | [] => by simp [PyData.canLayAll0]
  | n :: ns => by simp [PyData.canLayAll0, PyData.canLay0, lays_ints ns]
theorem depth_ints : ∀ ns : List Int, PyData.depthAll (ns.map PyData.int) = 0
  | [] => by simp [PyData.depthAll]
  | n :: ns => by simp [PyData.depthAll, PyData.depth, depth_ints ns]
@[simp] theorem shaped_tI {ns : List Int} : SeqAt.shaped (.tuple (ns.map .int)) = true := by simp [SeqAt.shaped, PyData.canLay0, PyData.depth, lays_ints, depth_ints]
@[simp] theorem shaped_lI {ns : List Int} : SeqAt.shaped (.list (ns.map .int)) = true := by simp [SeqAt.shaped, PyData.canLay0, PyData.depth, lays_ints, depth_ints]
@[simp] theorem shaped_n : SeqAt.shaped .none = true := by simp [SeqAt.shaped, PyData.canLay0, PyData.canLayAll0, PyData.depth, PyData.depthAll]
@[simp] theorem shaped_i {x : Int} : SeqAt.shaped (.int x) = true := by simp [SeqAt.shaped, PyData.canLay0, PyData.canLayAll0, PyData.depth, PyData.depthAll]
@[simp] theorem shaped_b {x : Bool} : SeqAt.shaped (.bool x) = true := by simp [SeqAt.shaped, PyData.canLay0, PyData.canLayAll0, PyData.depth, PyData.depthAll]
@[simp] theorem shaped_t0 : SeqAt.shaped (.tuple []) = true := by simp [SeqAt.shaped, PyData.canLay0, PyData.canLayAll0, PyData.depth, PyData.depthAll]
@[simp] theorem shaped_l0 : SeqAt.shaped (.list []) = true := by simp [SeqAt.shaped, PyData.canLay0, PyData.canLayAll0, PyData.depth, PyData.depthAll]
@[simp] theorem eqvAll_ints : ∀ {xs ys : List Int}, PyData.eqvAll (xs.map .int) (ys.map .int) = decide (xs = ys)
  | [], [] => rfl
  | [], y :: ys => by simp
  | x :: xs, [] => by simp
  | x :: xs, y :: ys => by simp [eqvAll_ints (xs := xs) (ys := ys)]
@[simp] theorem eqvAll_nil : ∀ {xs : List D}, PyData.eqvAll xs [] = xs.isEmpty
  | [] => rfl
  | x :: xs => by simp
@[simp] theorem eqD_sh {x y : D} (h1 : SeqAt.shaped x = true) (h2 : SeqAt.shaped y = true) : eqD x y = some (.d (.bool (PyData.eqv x y))) := by
  unfold eqD
  rw [if_pos ⟨h1, h2⟩]
@[simp] theorem neD_sh {x y : D} (h1 : SeqAt.shaped x = true) (h2 : SeqAt.shaped y = true) : neD x y = some (.d (.bool (!PyData.eqv x y))) := by
  unfold neD
  rw [if_pos ⟨h1, h2⟩]
@[simp] theorem flat_ints {ns : List Int} : (ns.map PyData.int).all flatS = true := by simp [flatS]
@[simp] theorem any_ints {ns : List Int} {k : Int} : ((ns.map PyData.int).any fun z => PyData.eqv z (.int k)) = decide (k ∈ ns) := by
  induction ns with
  | nil => rfl
  | cons n ns ih =>
    rw [List.map_cons, List.any_cons, ih]
    simp [eq_comm]
@[simp] theorem asIs_ints : ∀ {ns : List Int}, asIs (ns.map PyData.int) = some ns
  | [] => rfl
  | n :: ns => by simp [asIs, asIs_ints (ns := ns)]
end Ly
namespace Ly
open PySem L2
@[simp] theorem any_intsO {ns : List Int} {k : Int} : (ns.any ((fun z => PyData.eqv z (.int k)) ∘ PyData.int)) = decide (k ∈ ns) := by
  rw [← List.any_map, any_ints]
end Ly
namespace Ly
open PySem L2
@[simp] theorem lenSets_ints {ns : List Int} {Γ : Ge} (h : ns.length ≤ 1000) : lenSets (some (.tuple (ns.map .int))) Γ = .ok (.d (.int (distinct ns).length)) Γ := by
  unfold lenSets
  simp [h]
end Ly
namespace Ly
open PySem L2
variable {M : FM} {t : Ge → Out (List R)} {Γ : Ge}
@[simp] theorem callLF_eq : callLF M t Γ = (t Γ).bind (callLM M) := id rfl
@[simp] theorem callLM_l {xs : List D} : callLM M [.l xs] Γ = match M [.b xs] with
    | .ok (.d x) _ => .ok (.d x) Γ
    | .ex x _ => .ex x Γ
    | _ => .no := rfl
/-- a def that has the list at its first place for a while -/
theorem call_s0 {ds ds' : List D} {xs : List D} {r : R} {qs : Ge} (e : M (.b ds :: xs.map Sl.d) = .ok r (.b ds' :: qs)) (hr : (∃ y, r = .d y) ∨ ∃ y, r = .l y) : callM M (.s 0 :: xs.map R.d) (.b ds :: Γ) = .ok r (.b ds' :: Γ) := by
  have h1 : ∀ (G : Ge) (l : List D), bparams G (l.map R.d) = some (l.map Sl.d) := fun G l => by
    induction l with
    | nil => rfl
    | cons y l ih =>
      show (bparams G (l.map R.d)).map (Sl.d y :: ·) = _
      rw [ih]
      rfl
  have h2 : ∀ l : List D, slotsOf (l.map R.d) = [] := fun l => by
    induction l with
    | nil => rfl
    | cons y l ih => exact ih
  have h3 : ∀ (l : List D) (G us : Ge), wback G (l.map R.d) us = G := fun l => by
    induction l with
    | nil => intro G us; cases us <;> rfl
    | cons y l ih =>
      intro G us
      cases us with
      | nil => rfl
      | cons u us => exact ih G us
  have hb : bparams (.b ds :: Γ) (.s 0 :: xs.map R.d) = some (.b ds :: xs.map Sl.d) := by
    show (bparams (.b ds :: Γ) (xs.map R.d)).map (Sl.b ds :: ·) = _
    rw [h1]
    rfl
  have hw : wback (.b ds :: Γ) (.s 0 :: xs.map R.d) (.b ds' :: qs) = .b ds' :: Γ := by
    show wback (putL (.b ds :: Γ) 0 ds') (xs.map R.d) qs = _
    rw [h3]
    rfl
  unfold callM
  rw [hb]
  dsimp only
  rw [if_pos (by show (0 :: slotsOf (xs.map R.d)).Nodup; rw [h2]; simp), e]
  rcases hr with ⟨y, rfl⟩ | ⟨y, rfl⟩ <;> (dsimp only; rw [hw])
end Ly
namespace Ly
open PySem L2
section
variable {gf : GF} {u : BF} {f : EF} {vs : List Nat} {ds acc : List D} {Γ : Ge} {L : Out (List D)}
/-- a comprehension with a test that stands in a goal -/
theorem lcIf_of (hB : lcLoop gf u f vs ds acc Γ = L) (Inv : Ge → Prop) (P : D → Prop) (hl : acc.length + ds.length ≤ 1000000) (ha : ∀ d ∈ acc, P d) (h0 : Inv Γ)
    (h : ∀ d ∈ ds, ∀ Γ, Inv Γ → sat (gf (.d d) Γ) fun _ Γ1 => sat (u Γ1) fun b Γ2 => (b = false → Inv (wipeG Γ2 vs)) ∧ (b = true → sat (f Γ2) fun r Γ3 => r = .d d ∧ P d ∧ Inv (wipeG Γ3 vs))) :
    ∃ zs Γ', L = .ok (acc ++ zs) Γ' ∧ Inv Γ' ∧ zs.Sublist ds ∧ ∀ d ∈ acc ++ zs, P d := by
  obtain ⟨xs, Γ', e, h1, zs, rfl, h2, h3⟩ := sat_iff.mp (sat_lcIf hl ha h0 h)
  exact ⟨zs, Γ', by rw [← hB, e], h1, h2, h3⟩
/-- .. without a test -/
theorem lc_of (hB : lcLoop gf u f vs ds acc Γ = L) (Inv : Ge → Prop) (P : D → Prop) (hl : acc.length + ds.length ≤ 1000000) (ha : ∀ d ∈ acc, P d) (h0 : Inv Γ)
    (h : ∀ d ∈ ds, ∀ Γ, Inv Γ → sat (gf (.d d) Γ) fun _ Γ1 => sat (u Γ1) fun b Γ2 => b = true ∧ sat (f Γ2) fun r Γ3 => ∃ y, r = .d y ∧ P y ∧ Inv (wipeG Γ3 vs)) :
    ∃ xs Γ', L = .ok xs Γ' ∧ Inv Γ' ∧ xs.length = acc.length + ds.length ∧ ∀ d ∈ xs, P d := by
  obtain ⟨xs, Γ', e, h1, h2, h3⟩ := sat_iff.mp (sat_lc hl ha h0 h)
  exact ⟨xs, Γ', by rw [← hB, e], h1, h2, h3⟩
end
end Ly
namespace Ly
open PySem L2
@[simp] theorem cut_to {xs : List D} {hi : Int} (h : 0 ≤ hi) : cutD xs none (some hi) = xs.take hi.toNat := by
  obtain ⟨k, rfl⟩ : ∃ k : Nat, hi = k := ⟨hi.toNat, by omega⟩
  unfold cutD
  rw [HT.sIx_none, HT.sIx_nat, List.drop_zero, Int.toNat_natCast, Nat.sub_zero]
  by_cases q : k ≤ xs.length
  · rw [Nat.min_eq_left q]
  · rw [Nat.min_eq_right (by omega), List.take_length, List.take_of_length_le (by omega)]
@[simp] theorem cut_from {xs : List D} {lo : Int} (h : 0 ≤ lo) : cutD xs (some lo) none = xs.drop lo.toNat := by
  obtain ⟨k, rfl⟩ : ∃ k : Nat, lo = k := ⟨lo.toNat, by omega⟩
  unfold cutD
  rw [HT.sIx_none, HT.sIx_nat, Int.toNat_natCast]
  by_cases q : k ≤ xs.length
  · rw [Nat.min_eq_left q]
    exact List.take_of_length_le (by simp)
  · rw [Nat.min_eq_right (by omega), List.drop_length, List.drop_eq_nil_of_le (by omega)]
    simp
theorem sub_rng : ∀ {n : Nat} {lo : Int} {zs : List D}, zs.Sublist (rngD lo n) → ∃ ns : List Int, zs = ns.map .int ∧ ns.Pairwise (· < ·) ∧ ∀ k ∈ ns, lo ≤ k ∧ k < lo + n := fun {n lo zs} h => by
  have e : rngD lo n = ((List.range n).map fun (i : Nat) => lo + (i : Int)).map PyData.int := by
    unfold rngD
    rw [List.map_map]
    rfl
  rw [e] at h
  obtain ⟨ns, h1, rfl⟩ := List.sublist_map_iff.mp h
  refine ⟨ns, rfl, List.Pairwise.sublist h1 ?_, fun k hk => ?_⟩
  · refine List.pairwise_map.mpr (List.Pairwise.imp ?_ List.pairwise_lt_range)
    intro a b q
    omega
  · obtain ⟨i, hi, rfl⟩ := List.mem_map.mp (h1.subset hk)
    have := List.mem_range.mp hi
    omega
end Ly
namespace Ly
open PySem L2
/-- a loop that goes through -/
theorem loop_of {gf : GF} {p : SF} : ∀ {ds : List D} {Γ : Ge} {L : Out Fl} (_ : loopF gf p ds Γ = L) (I : Nat → Ge → Prop) (_ : I 0 Γ)
    (_ : ∀ (i : Nat) (d : D) (Γ : Ge), ds[i]? = some d → I i Γ → sat (gf (.d d) Γ) fun _ Γ1 => sat (p Γ1) fun fl Γ' => (fl = .nx ∨ fl = .ct) ∧ I (i + 1) Γ'), ∃ Γ', L = .ok .nx Γ' ∧ I ds.length Γ'
  | [], Γ, L, hB, I, h0, h => ⟨Γ, hB.symm, h0⟩
  | d :: ds, Γ, L, hB, I, h0, h => by
    obtain ⟨u1, Γ1, e1, h1⟩ := sat_iff.mp (h 0 d Γ rfl h0)
    obtain ⟨fl, Γ2, e2, q1, q2⟩ := sat_iff.mp h1
    have e : loopF gf p (d :: ds) Γ = loopF gf p ds Γ2 := by
      show turnF gf p d (loopF gf p ds) Γ = _
      unfold turnF
      rw [e1]
      show ((p Γ1).bind _) = _
      rw [e2]
      rcases q1 with rfl | rfl <;> rfl
    obtain ⟨Γ', h3, h4⟩ := loop_of (ds := ds) (Γ := Γ2) (L := L) (by rw [← e, hB]) (fun i => I (i + 1)) q2 fun i d' Γ hd hi => h (i + 1) d' Γ (by simpa using hd) hi
    exact ⟨Γ', h3, h4⟩
theorem some_at {xs : List D} {k : Nat} (h : k < xs.length) : ∃ d, xs[k]? = some d ∧ d ∈ xs := ⟨xs[k], List.getElem?_eq_getElem h, List.getElem_mem h⟩
end Ly
namespace Ly
open PySem L2
@[simp] theorem ixN_nat {n k : Nat} (h : k < n) : ixN n (k : Int) = some k := by
  unfold ixN
  rw [if_pos (by omega), if_pos (by omega), Int.toNat_natCast]
end Ly
/-! the constants of the text -/
namespace Ly
open PySem L2
section
variable {K : PySem.W.Frag} {mg : Str → Option Value} {x : Str}
theorem gc_int {i : Int} {t : Nat} (hm : mg x = some (.int i t)) (hd : (x == ("__debug__" : Str)) = false := by decide) : ∀ {X : Cx} {pos : Pos}, X.K = K → X.mg = mg → Gl X x → PX X (.Name x pos) (cst (.int i)) :=
  fun {X pos} hK hM hg => px_c (pe_glob hg (v := .int i) (by rw [hM]; exact hm) ⟨t, rfl⟩ hd) fun _ => .int i
theorem gc_str {i : Str} {t : Nat} (hm : mg x = some (.str i t)) (hd : (x == ("__debug__" : Str)) = false := by decide) : ∀ {X : Cx} {pos : Pos}, X.K = K → X.mg = mg → Gl X x → PX X (.Name x pos) (cst (.str i)) :=
  fun {X pos} hK hM hg => px_c (pe_glob hg (v := .str i) (by rw [hM]; exact hm) ⟨t, rfl⟩ hd) fun _ => .str i
theorem dq_tup {Kk : Kx} (hk : Kk.fr = K) {p : Addr} {od : Option Addr} {ar : Array Value} {n : Nat} {sl : Array (Option Value)} {vs : List V} {ds : List D} {S : Hp} (hl : K.lookup p = some ⟨.type "tuple", od, .seq ar n, sl⟩) (hv : Vals vs ar.toList) (hz : vs.length ≤ 1000) (hq : DqAll Kk S vs ds) : Dq Kk S (.ref p) (.tuple ds) := by
  refine .tup (.inr ⟨_, ar, n, by rw [hk]; exact hl, rfl, rfl, ?_, hv⟩) hq
  have q := hv.length
  have q2 : ar.toList.length = ar.size := Array.length_toList
  rw [sizeLine_eq]
  omega
theorem gc_tup {p : Addr} {od : Option Addr} {ar : Array Value} {n : Nat} {sl : Array (Option Value)} {vs : List V} {ds : List D} (hm : mg x = some (.ref p)) (hl : K.lookup p = some ⟨.type "tuple", od, .seq ar n, sl⟩) (hv : Vals vs ar.toList) (hz : vs.length ≤ 1000) (hq : ∀ (Kk : Kx) (S : Hp), Kk.fr = K → DqAll Kk S vs ds)
    (hd : (x == ("__debug__" : Str)) = false := by decide) : ∀ {X : Cx} {pos : Pos}, X.K = K → X.mg = mg → Gl X x → PX X (.Name x pos) (cst (.tuple ds)) :=
  fun {X pos} hK hM hg => px_c (pe_glob hg (by rw [hM]; exact hm) (v := .ref p) rfl hd) fun S => by
    exact dq_tup hK hl hv hz (hq _ S hK)
end
end Ly
set_option maxRecDepth 100000
/-! what is not told; enumerate -/
namespace Ly
open PySem L2
def noE : EF := fun _ => .no
def noS : SF := fun _ => .no
section
variable {X : Cx} {K : Kx} {e : Expr} {st : Stmt}
theorem px_no : PX X e noE := ⟨fun _ _ _ _ _ _ _ _ G => G.elim⟩
theorem psx_no : PSx X st noS := ⟨fun _ _ _ _ _ _ _ _ G => G.elim⟩
@[simp] theorem noS_eq {Γ : Ge} : noS Γ = .no := id rfl
@[simp] theorem noE_eq {Γ : Ge} : noE Γ = .no := id rfl
def enD : Nat → List D → List D
  | _, [] => []
  | i, x :: xs => .tuple [.int i, x] :: enD (i + 1) xs
theorem enD_get : ∀ {n i : Nat} {xs : List D} {d : D}, (enD n xs)[i]? = some d → ∃ x, xs[i]? = some x ∧ d = .tuple [.int ((n + i : Nat) : Int), x]
  | _, _, [], _, h => by simp [enD] at h
  | n, 0, x :: xs, d, h => by
    simp only [enD, List.getElem?_cons_zero, Option.some.injEq] at h
    exact ⟨x, rfl, h.symm⟩
  | n, i + 1, x :: xs, d, h => by
    simp only [enD, List.getElem?_cons_succ] at h
    obtain ⟨y, h1, h2⟩ := enD_get h
    refine ⟨y, by simpa using h1, ?_⟩
    rw [h2, Nat.add_right_comm, Nat.add_assoc]
theorem enD_len : ∀ (n : Nat) (xs : List D), (enD n xs).length = xs.length
  | _, [] => rfl
  | n, x :: xs => by simp [enD, enD_len (n + 1) xs]
theorem itd_enum {S : Hp} {a : Addr} {vs : List V} {xs : List D} (h1 : Ls K S a vs) (h2 : DqAll K S vs xs) : ItD K S (Ite K a) (enD 0 xs) := by
  intro i S1 H e1 e2
  have q1 : SqL K H a vs := (Same.ls (e1.trans e2) h1).seq
  refine ⟨fun d hd => ?_, fun hl => ⟨vs, q1, by rw [DqAll.length h2]; rw [enD_len] at hl; exact hl⟩⟩
  obtain ⟨x, g1, rfl⟩ := enD_get hd
  obtain ⟨v, v1, v2⟩ := DqAll.get h2 g1
  refine ⟨⟨vs, v, q1, v1⟩, fun u H' ⟨T, x', e3, nT, e4, f1⟩ => ?_⟩
  subst e3 e4
  have z1 := f1 vs q1
  rw [v1] at z1
  cases z1
  have e0 : ((0 + i : Nat) : Int) = (i : Int) := by rw [Nat.zero_add]
  rw [e0]
  exact new_pair e2 nT (.int _) (Same.dp e1 v2)
def enumF (t : Ge → Out (List R)) : LF := fun Γ => (t Γ).bind fun rs Γ1 => match rs with
  | [.d (.list xs)] => .ok (enD 0 xs) Γ1
  | _ => .no
theorem pix_enum {t : Ge → Out (List R)} {p pos tpos : Pos} {elts : List Expr} {kk : Nat} (hg : Gl X "enumerate") (hm : X.mg "enumerate" = none) (pa : PAx X [e] t)
    (hs : starEach [e] X.env = [(false, eval e X.env)] := by rfl) : PIx X (.Tuple elts kk tpos) (.Call (.Name "enumerate" p) [e] [] pos) (enumF t) := by
  refine ⟨fun W tk S H σ Γ R' E G => tWI_of (pi_enum hg hm pa_w hs) ?_⟩
  refine tWA_mono (pa.run W tk S H σ Γ _ E (OG.bind G)) fun vs H2 ⟨S2, rs, Γ2, _, F, E2, R2, G2⟩ => ?_
  split at G2
  · rename_i xs
    match vs, R2 with
    | [v], R2 =>
      cases R2.1 with
      | lst a1 a2 => exact ⟨_, _, rfl, (Same.ls E2.sub a1).seq, G2 S2 H2 _ F E2 (itd_enum a1 a2)⟩
  · exact G2.elim
def enumK : List R → LF := fun rs Γ1 => match rs with
  | [.d (.list xs)] => .ok (enD 0 xs) Γ1
  | _ => .no
@[simp] theorem enumF_eq {t : Ge → Out (List R)} {Γ : Ge} : enumF t Γ = (t Γ).bind enumK := id rfl
@[simp] theorem enumK_eq {xs : List D} {Γ : Ge} : enumK [.d (.list xs)] Γ = .ok (enD 0 xs) Γ := id rfl
end
end Ly
namespace Ly
open PySem L2
/-- the list at a slot, one's own or lent -/
def HasL (Γ : Ge) (i : Nat) (ds : List D) : Prop := Γ[i]? = some (.b ds) ∨ Γ[i]? = some (.l ds)
/-- a def that has the list at a slot for a while -/
theorem call_si {M : FM} {Γ : Ge} {i : Nat} {ds ds' : List D} {xs : List D} {r : R} {qs : Ge} (e : M (.b ds :: xs.map Sl.d) = .ok r (.b ds' :: qs)) (hr : (∃ y, r = .d y) ∨ ∃ y, r = .l y) (hΓ : HasL Γ i ds) : callM M (.s i :: xs.map R.d) Γ = .ok r (putL Γ i ds') := by
  have h1 : ∀ (G : Ge) (l : List D), bparams G (l.map R.d) = some (l.map Sl.d) := fun G l => by
    induction l with
    | nil => rfl
    | cons y l ih =>
      show (bparams G (l.map R.d)).map (Sl.d y :: ·) = _
      rw [ih]
      rfl
  have h2 : ∀ l : List D, slotsOf (l.map R.d) = [] := fun l => by
    induction l with
    | nil => rfl
    | cons y l ih => exact ih
  have h3 : ∀ (l : List D) (G us : Ge), wback G (l.map R.d) us = G := fun l => by
    induction l with
    | nil => intro G us; cases us <;> rfl
    | cons y l ih =>
      intro G us
      cases us with
      | nil => rfl
      | cons u us => exact ih G us
  have hb : bparams Γ (.s i :: xs.map R.d) = some (.b ds :: xs.map Sl.d) := by
    rcases hΓ with h | h <;> (unfold bparams; rw [h]; dsimp only; rw [h1]; rfl)
  have hw : wback Γ (.s i :: xs.map R.d) (.b ds' :: qs) = putL Γ i ds' := by
    show wback (putL Γ i ds') (xs.map R.d) qs = _
    rw [h3]
  unfold callM
  rw [hb]
  dsimp only
  rw [if_pos (by show (i :: slotsOf (xs.map R.d)).Nodup; rw [h2]; simp), e]
  rcases hr with ⟨y, rfl⟩ | ⟨y, rfl⟩ <;> (dsimp only; rw [hw])
end Ly
namespace Ly
open PySem L2
@[simp] theorem extendM_eq {xs zs : List D} : extendM xs [.list zs] = if xs.length + zs.length < 1000000 then some (xs ++ zs, .none) else none := id rfl
end Ly
set_option maxRecDepth 100000
/-! Lyl: star displays, augmented stores, comprehensions of two clauses. -/
namespace Ly
open PySem L2
section
variable {X : Cx} {K : Kx} {e a oe : Expr} {es : List Expr} {f g : EF} {t : Ge → Out (List R)} {p pos pos' tpos : Pos}
/-! ### *e in a display -/
theorem rokAll_map {S : Sx} {H0 H : Hp} {σ : L2.St} : ∀ {vs : List V} {xs : List D}, DqAll K S vs xs → ROkAll K σ S0 H0 S H vs (xs.map R.d)
  | _, _, .nil => trivial
  | _, _, .cons h t => ⟨h, rokAll_map t⟩
theorem rokAll_app {S : Sx} {H0 H : Hp} {σ : L2.St} : ∀ {vs ws : List V} {rs qs : List R}, ROkAll K σ S0 H0 S H vs rs → ROkAll K σ S0 H0 S H ws qs → ROkAll K σ S0 H0 S H (vs ++ ws) (rs ++ qs)
  | [], _, [], _, _, h => h
  | _ :: _, _, _ :: _, _, h, q => ⟨h.1, rokAll_app h.2 q⟩
  | [], _, _ :: _, _, h, _ => h.elim
  | _ :: _, _, [], _, h, _ => h.elim
def argSK (t : Ge → Out (List R)) : R → Ge → Out (List R) := fun r Γ1 => match r with
  | .d (.tuple xs) => (t Γ1).bind fun rs Γ2 => .ok (xs.map R.d ++ rs) Γ2
  | .d (.list xs) => (t Γ1).bind fun rs Γ2 => .ok (xs.map R.d ++ rs) Γ2
  | _ => .no
def argS (f : EF) (t : Ge → Out (List R)) : Ge → Out (List R) := fun Γ => (f Γ).bind (argSK t)
theorem pax_star (pa : PX X e f) (pt : PAx X es t) (hs : starEach (.Starred e p :: es) X.env = (true, eval e X.env) :: starEach es X.env := by rfl) : PAx X (.Starred e p :: es) (argS f t) := by
  refine ⟨fun W tk S H σ Γ Q E G => tWA_of (StX.pa_star pe_w pa_w hs) ?_⟩
  refine tW_mono (pa.run W tk S H σ Γ _ E (OG.bind G)) fun x H1 ⟨S1, r1, Γ1, e1, F1, E1, R1, G1⟩ => ?_
  have main : ∀ (xs : List D) (b : Addr) (vs : List V), x = .ref b → (SqT X.K H1 b vs ∨ SqL X.K H1 b vs) → DqAll (kx X) S1 vs xs →
      AG (kx X) X.mg W S H σ Γ Q ((t Γ1).bind fun rs Γ2 => .ok (xs.map R.d ++ rs) Γ2) → ∃ p ys, x = V.ref p ∧ (SqT X.K H1 p ys ∨ SqL X.K H1 p ys) ∧ tWA X es σ H1 fun zs H2 => Q (ys ++ zs) H2 := by
    intro xs b vs ex hb hd G2
    refine ⟨b, vs, ex, hb, ?_⟩
    refine tWA_mono (pt.run W tk S1 H1 σ Γ1 _ E1 (OG.bind (OG.shift F1 (fun _ _ _ _ _ _ z => z) G2))) fun y H2 ⟨S2, r2, Γ2, e2, F2, E2, R2, _⟩ => ?_
    rw [e2] at G2
    exact G2 S2 H2 (vs ++ y) (F1.trans F2) E2 (rokAll_app (rokAll_map (Same.dpAll F2.grow hd)) (R2.back F1))
  cases r1 with
  | l _ => exact G1.elim
  | s _ => exact G1.elim
  | o _ => exact G1.elim
  | d z =>
    cases z <;> first
      | exact G1.elim
      | skip
    · rename_i xs
      have R1 : Dq (kx X) S1 x (.list xs) := R1
      obtain ⟨b, vs, ex, hs, ha⟩ : ∃ b vs, x = .ref b ∧ Ls (kx X) S1 b vs ∧ DqAll (kx X) S1 vs xs := by
        cases R1 with
        | lst hs ha => exact ⟨_, _, rfl, hs, ha⟩
      exact main xs b vs ex (.inr (Same.ls E1.sub hs).seq) ha G1
    · rename_i xs
      have R1 : Dq (kx X) S1 x (.tuple xs) := R1
      obtain ⟨b, vs, ex, hs, ha⟩ : ∃ b vs, x = .ref b ∧ SqT X.K S1 b vs ∧ DqAll (kx X) S1 vs xs := by
        cases R1 with
        | tup hs ha => exact ⟨_, _, rfl, hs, ha⟩
      exact main xs b vs ex (.inl (Same.seqT E1.sub hs)) ha G1
def argSK2 (xs : List D) : List R → Ge → Out (List R) := fun rs Γ2 => .ok (xs.map R.d ++ rs) Γ2
@[simp] theorem argS_eq {Γ : Ge} : argS f t Γ = (f Γ).bind (argSK t) := id rfl
@[simp] theorem argSK_t {xs : List D} {Γ : Ge} : argSK t (.d (.tuple xs)) Γ = (t Γ).bind (argSK2 xs) := id rfl
@[simp] theorem argSK_l {xs : List D} {Γ : Ge} : argSK t (.d (.list xs)) Γ = (t Γ).bind (argSK2 xs) := id rfl
@[simp] theorem argSK2_eq {xs : List D} {rs : List R} {Γ : Ge} : argSK2 xs rs Γ = .ok (xs.map R.d ++ rs) Γ := id rfl
@[simp] theorem allD_map {xs : List D} : allD (xs.map R.d) = some xs := by
  induction xs with
  | nil => rfl
  | cons x xs ih => rw [List.map_cons, allD_cons, ih]; rfl
@[simp] theorem allD_mapA {xs : List D} {rs : List R} : allD (xs.map R.d ++ rs) = (allD rs).map (xs ++ ·) := by
  induction xs with
  | nil =>
    show allD rs = _
    cases allD rs <;> simp
  | cons x xs ih =>
    rw [List.map_cons, List.cons_append, allD_cons, ih]
    cases allD rs <;> simp
@[simp] theorem allD_mapO {α : Type} {φ : α → D} {xs : List α} : allD (xs.map (R.d ∘ φ)) = some (xs.map φ) := by
  rw [← List.map_map]
  exact allD_map
@[simp] theorem allD_mapOA {α : Type} {φ : α → D} {xs : List α} {rs : List R} : allD (xs.map (R.d ∘ φ) ++ rs) = (allD rs).map (xs.map φ ++ ·) := by
  rw [← List.map_map]
  exact allD_mapA
/-! ### x op= e -/
def augF (i : Nat) (op : Int → Int → Int) (f : EF) : SF := fun Γ => match Γ[i]? with
  | some (.d (.int a)) => (f Γ).bind fun r Γ1 => match view Γ1 r with
    | some (.int b) => (gN i (.d (.int (op a b))) Γ1).bind fun _ Γ2 => .ok .nx Γ2
    | _ => .no
  | _ => .no
theorem psx_aug {i : Nat} {x : Str} {op : Operator} {fn : Int → Int → Int} (hN : X.N.Nodup) (hi : X.N[i]? = some x) (hx : Loc X.env.scope x) (pe : PX X e f) (ho : PIp X op (ipI fn)) (hf : X.fn x = true ∨ X.env.scope.names.lookup x = some .local := by first | exact .inl rfl | exact .inr rfl | assumption) :
    PSx X (.AugAssign (.Name x pos') op e pos) (augF i fn f) := by
  refine ⟨fun W tk S H σ Γ Z E G => tWS_of (ps_aug hN hi hx pe_w ho hf) ?_⟩
  unfold augF at G
  cases q : Γ[i]? with
  | none => rw [q] at G; exact G.elim
  | some sl =>
    rw [q] at G
    cases sl <;> try exact G.elim
    rename_i d
    cases d <;> try exact G.elim
    rename_i k
    obtain ⟨v, h1, h2⟩ := E.dat i _ q
    cases h2
    refine ⟨_, h1, ?_⟩
    refine tW_mono (pe.run W tk S H σ Γ _ E (SG.bind G)) fun y H1 ⟨S1, r, Γ1, _, F1, E1, R1, G1⟩ => ?_
    cases ev : view Γ1 r with
    | none => rw [ev] at G1; exact G1.elim
    | some d =>
      rw [ev] at G1
      cases d <;> try exact G1.elim
      rename_i j
      have := (R1.vw E1 ev).int
      subst this
      exact ⟨k, j, rfl, rfl, setN_ok (v := .int (fn k j)) (r := .d (.int (fn k j))) (Q := Z.nx) F1 E1 (.int _) (UG_of_SG G1 fun x Γ' => noex_name _ _ _ _)⟩
def augK (i : Nat) (op : Int → Int → Int) (a : Int) : R → SF := fun r Γ1 => match view Γ1 r with
    | some (.int b) => (gN i (.d (.int (op a b))) Γ1).bind fun _ Γ2 => .ok .nx Γ2
    | _ => .no
def augs (i : Nat) (op : Int → Int → Int) (a : Int) (v : Option D) (Γ1 : Ge) : Out Fl := match v with
    | some (.int b) => (gN i (.d (.int (op a b))) Γ1).bind set2
    | _ => .no
def aug0 (sl : Option Sl) (i : Nat) (op : Int → Int → Int) (f : EF) (Γ : Ge) : Out Fl := match sl with
  | some (.d (.int a)) => (f Γ).bind (augK i op a)
  | _ => .no
@[simp] theorem augF_eq {i : Nat} {op : Int → Int → Int} {Γ : Ge} : augF i op f Γ = aug0 Γ[i]? i op f Γ := id rfl
@[simp] theorem aug0_i {i : Nat} {op : Int → Int → Int} {a : Int} {Γ : Ge} : aug0 (some (.d (.int a))) i op f Γ = (f Γ).bind (augK i op a) := id rfl
@[simp] theorem augK_eq {i : Nat} {op : Int → Int → Int} {a : Int} {r : R} {Γ : Ge} : augK i op a r Γ = augs i op a (view Γ r) Γ := id rfl
@[simp] theorem augs_i {i : Nat} {op : Int → Int → Int} {a b : Int} {Γ : Ge} : augs i op a (some (.int b)) Γ = (gN i (.d (.int (op a b))) Γ).bind set2 := id rfl
/-! ### xs[i] op= e -/
def rGetL (K : Kx) : V → V → Hp → VK → Prop := fun x y H Q => ∃ p xs i v, x = .ref p ∧ y = .int i ∧ SqL K H p xs ∧ 0 ≤ i ∧ atI xs i = some v ∧ Q v H
theorem get_list : PGet X (rGetL (kx X)) := by
  intro pins s σ H o i ov iv Q I rx ry h
  obtain ⟨p, xs, i, z, rfl, rfl, hq, h0, he, q⟩ := h
  cases rx
  obtain ⟨t, rfl⟩ := ry
  obtain ⟨its, r, pl, hz⟩ := I.list hq
  obtain ⟨j, h1, h2, h3, h4, h5⟩ := L2.atI_get he
  obtain ⟨w, ew, rw'⟩ := r.get h2
  have hl := r.length
  have hn := line63
  have hj : i.toNat = j := by
    rw [seqIndex_of h0 h5] at h1
    exact Option.some.inj h1
  exact wpAny_getItem_list pl.isList h0 (by omega) (by rw [hj]; simpa using ew) ⟨z, H, I, rw', q⟩
def augI3 (j : Nat) (op : Int → Int → Int) (i a : Int) : R → SF := fun r Γ2 => match view Γ2 r, slotL Γ2 j with
  | some (.int b), some ys => match ixN ys.length i with
    | some n => .ok .nx (putL Γ2 j (ys.set n (.int (op a b))))
    | none => .no
  | _, _ => .no
def augI2 (j : Nat) (op : Int → Int → Int) (f : EF) : R → SF := fun ri Γ1 => match view Γ1 ri, slotL Γ1 j with
  | some (.int i), some xs => match (if 0 ≤ i then atI xs i else none) with
    | some (.int a) => (f Γ1).bind (augI3 j op i a)
    | _ => .no
  | _, _ => .no
def augI (j : Nat) (op : Int → Int → Int) (k f : EF) : SF := fun Γ => match slotL Γ j with
  | some _ => (k Γ).bind (augI2 j op f)
  | none => .no
theorem psx_augI {j : Nat} {op : Operator} {fn : Int → Int → Int} (hv : PE X oe (tVar j)) (pk : PX X a g) (pe : PX X e f) (ho : PIp X op (ipI fn))
    (ha : ∀ ov iv new, augStore a ov iv new = (do holding [new, ov, iv] (setItem ov iv new); release [new, ov, iv] []; pure .next) := by intros; rfl) : PSx X (.AugAssign (.Subscript oe a tpos) op e pos) (augI j fn g f) := by
  refine ⟨fun W tk S H σ Γ Z E G => tWS_of (ps_augS (tget := rGetL (kx X)) hv pe_w get_list pe_w ho set_list ha) ?_⟩
  unfold augI at G
  cases e0 : slotL Γ j with
  | none => rw [e0] at G; exact G.elim
  | some xs0 =>
    rw [e0] at G
    obtain ⟨c, vs0, q1, _⟩ := own_ref E e0
    refine ⟨.ref c, q1, ?_⟩
    refine tW_mono (pk.run W tk S H σ Γ _ E (SG.bind G)) fun u H1 ⟨S1, ri, Γ1, e1, F1, E1, R1, G1⟩ => ?_
    unfold augI2 at G1
    cases e2 : view Γ1 ri with
    | none => rw [e2] at G1; exact G1.elim
    | some d =>
      cases e3 : slotL Γ1 j with
      | none => rw [e2, e3] at G1; cases d <;> exact G1.elim
      | some xs =>
        rw [e2, e3] at G1
        cases d <;> try exact G1.elim
        rename_i i
        dsimp only at G1
        have hi := (R1.vw E1 e2).int
        subst hi
        have hx := slotL_own e3
        obtain ⟨c', vs, w1, w2, w3, w4⟩ := E1.own j xs hx
        rw [q1] at w1
        cases w1
        by_cases h0 : 0 ≤ i
        rotate_left
        · rw [if_neg h0] at G1
          exact G1.elim
        rw [if_pos h0] at G1
        cases e4 : atI xs i with
        | none => rw [e4] at G1; exact G1.elim
        | some d =>
          rw [e4] at G1
          cases d <;> try exact G1.elim
          rename_i k
          obtain ⟨v, g1, g2⟩ := atI_get w4 e4
          cases g2
          refine ⟨c, vs, i, .int k, rfl, rfl, .inl (.inl w3), h0, g1, ?_⟩
          refine tW_mono (pe.run W tk S1 H1 σ Γ1 _ E1 (SG.bind (SG.shift F1 G1))) fun y H2 ⟨S2, r, Γ2, e5, F2, E2, R2, G2⟩ => ?_
          unfold augI3 at G2
          cases e6 : view Γ2 r with
          | none => rw [e6] at G2; exact G2.elim
          | some d =>
            cases e7 : slotL Γ2 j with
            | none => rw [e6, e7] at G2; cases d <;> exact G2.elim
            | some ys =>
              rw [e6, e7] at G2
              cases d <;> try exact G2.elim
              rename_i b
              dsimp only at G2
              cases e8 : ixN ys.length i with
              | none => rw [e8] at G2; exact G2.elim
              | some n =>
                rw [e8] at G2
                have hb := (R2.vw E2 e6).int
                subst hb
                have hy := slotL_own e7
                obtain ⟨c2, vs2, z1, z2, z3, z4⟩ := E2.own j ys hy
                rw [q1] at z1
                cases z1
                refine ⟨k, b, rfl, rfl, ?_⟩
                obtain ⟨F', E'⟩ := mut_slot (ys := ys.set n (.int (fn k b))) E2 ⟨ys, hy⟩ q1 z2 z3 (DqAll.set (.int _) n z4)
                exact ⟨c, vs2, i, n, rfl, rfl, z3, by rw [DqAll.length z4]; exact e8, G2 S2 _ σ (F2.trans F') E'⟩
def augI3s (j : Nat) (op : Int → Int → Int) (i a : Int) (v : Option D) (l : Option (List D)) (Γ2 : Ge) : Out Fl := match v, l with
  | some (.int b), some ys => match ixN ys.length i with
    | some n => .ok .nx (putL Γ2 j (ys.set n (.int (op a b))))
    | none => .no
  | _, _ => .no
def augI2s (j : Nat) (op : Int → Int → Int) (f : EF) (v : Option D) (l : Option (List D)) (Γ1 : Ge) : Out Fl := match v, l with
  | some (.int i), some xs => match (if 0 ≤ i then atI xs i else none) with
    | some (.int a) => (f Γ1).bind (augI3 j op i a)
    | _ => .no
  | _, _ => .no
def augIs (l : Option (List D)) (j : Nat) (op : Int → Int → Int) (k f : EF) (Γ : Ge) : Out Fl := match l with
  | some _ => (k Γ).bind (augI2 j op f)
  | none => .no
@[simp] theorem augI_eq {j : Nat} {op : Int → Int → Int} {Γ : Ge} : augI j op g f Γ = augIs (slotL Γ j) j op g f Γ := id rfl
@[simp] theorem augIs_eq {j : Nat} {op : Int → Int → Int} {l : List D} {Γ : Ge} : augIs (some l) j op g f Γ = (g Γ).bind (augI2 j op f) := id rfl
@[simp] theorem augI2_eq {j : Nat} {op : Int → Int → Int} {r : R} {Γ : Ge} : augI2 j op f r Γ = augI2s j op f (view Γ r) (slotL Γ j) Γ := id rfl
def augI2t (j : Nat) (op : Int → Int → Int) (f : EF) (i : Int) (v : Option D) (Γ1 : Ge) : Out Fl := match v with
    | some (.int a) => (f Γ1).bind (augI3 j op i a)
    | _ => .no
@[simp] theorem augI2s_eq {j : Nat} {op : Int → Int → Int} {i : Int} {xs : List D} {Γ : Ge} : augI2s j op f (some (.int i)) (some xs) Γ = augI2t j op f i (if 0 ≤ i then atI xs i else none) Γ := id rfl
@[simp] theorem augI2t_eq {j : Nat} {op : Int → Int → Int} {i a : Int} {Γ : Ge} : augI2t j op f i (some (.int a)) Γ = (f Γ).bind (augI3 j op i a) := id rfl
@[simp] theorem augI3_eq {j : Nat} {op : Int → Int → Int} {i a : Int} {r : R} {Γ : Ge} : augI3 j op i a r Γ = augI3s j op i a (view Γ r) (slotL Γ j) Γ := id rfl
def augI3t (j : Nat) (ys : List D) (d : D) (n : Option Nat) (Γ2 : Ge) : Out Fl := match n with
    | some n => .ok .nx (putL Γ2 j (ys.set n d))
    | none => .no
@[simp] theorem augI3s_eq {j : Nat} {op : Int → Int → Int} {i a b : Int} {ys : List D} {Γ : Ge} : augI3s j op i a (some (.int b)) (some ys) Γ = augI3t j ys (.int (op a b)) (ixN ys.length i) Γ := id rfl
@[simp] theorem augI3t_eq {j n : Nat} {ys : List D} {d : D} {Γ : Ge} : augI3t j ys d (some n) Γ = .ok .nx (putL Γ j (ys.set n d)) := id rfl
end
end Ly
set_option maxRecDepth 100000
/-! Lym: comprehensions of two clauses. -/
namespace Ly
open PySem L2
def lcLoop2 (g : GF) (u : BF) (it1 : LF) (g1 : GF) (u1 : BF) (e : EF) (vs vs1 : List Nat) : List D → List D → Ge → Out (List D)
  | [], acc, Γ => .ok acc Γ
  | d :: ds, acc, Γ => match g (.d d) Γ with
    | .ok _ Γ1 => match u Γ1 with
      | .ok true Γ2 => match it1 Γ2 with
        | .ok ds1 Γ3 => if plainAt Γ3 vs1 = true then match lcLoop g1 u1 e vs1 ds1 acc (wipeG Γ3 vs1) with
            | .ok acc' Γ4 => lcLoop2 g u it1 g1 u1 e vs vs1 ds acc' (wipeG Γ4 vs)
            | _ => .no
          else .no
        | _ => .no
      | .ok false Γ2 => lcLoop2 g u it1 g1 u1 e vs vs1 ds acc (wipeG Γ2 vs)
      | _ => .no
    | _ => .no
def lc2F (it : LF) (g : GF) (u : BF) (it1 : LF) (g1 : GF) (u1 : BF) (e : EF) (vs vs1 : List Nat) : EF := fun Γ => (it Γ).bind fun ds Γ1 => if plainAt Γ1 vs = true then match lcLoop2 g u it1 g1 u1 e vs vs1 ds [] (wipeG Γ1 vs) with
    | .ok xs Γ2 => .ok (.l xs) (restG Γ1 Γ2 vs)
    | _ => .no
  else .no
section
variable {X : Cx} {tg iter elt tg1 iter1 : Expr} {pos spos : Pos} {vs vs1 : List Nat}
def iAll (X : Cx) (scope : Scope) (tg iter : Expr) : TI := fun σ H R => ∀ (s : Shared) (H0 : Hp) (C : Addr) (cl : List (Str × Addr)) (fp : List Addr), tWI (X.blk s H0 scope (compEnvC scope cl C X.env) fp) tg iter σ H R
theorem wipe_sub {σ : L2.St} : ∀ {us : List Nat}, (∀ i ∈ us, i ∈ vs) → wipe (wipe σ us) vs = wipe σ vs
  | [], _ => rfl
  | u :: us, h => by
    show wipe ((wipe σ us).set u none) vs = _
    rw [wipe_set (h u (by simp)), wipe_sub fun i hi => h i (by simp [hi])]
theorem lc2_run {ifs ifs1 : List Expr} {scope : Scope} {it it1 : LF} {g g1 : GF} {u u1 : BF} {f : EF} {W : WX} {S0 : Sx} {H0 : Hp} {σ : L2.St} {Γ0 : Ge} {Q : VK} (tk : Takes X W) (hi : PIx X tg iter it) (hv : ∀ i ∈ vs1, i ∈ vs)
    (hg : ∀ (s : Shared) (H : Hp) (C : Addr) (cl : List (Str × Addr)) (fp : List Addr), PGc (X.blk s H scope (compEnvC scope cl C X.env) fp) vs tg g) (hx : NoEx g)
    (ht : ∀ (s : Shared) (H : Hp) (C : Addr) (cl : List (Str × Addr)) (fp : List Addr), PTsx (X.blk s H scope (compEnvC scope cl C X.env) fp) ifs u)
    (hi1 : ∀ (s : Shared) (H : Hp) (C : Addr) (cl : List (Str × Addr)) (fp : List Addr), PIx (X.blk s H scope (compEnvC scope cl C X.env) fp) tg1 iter1 it1)
    (hg1 : ∀ (s : Shared) (H : Hp) (C : Addr) (cl : List (Str × Addr)) (fp : List Addr), PGc (X.blk s H scope (compEnvC scope cl C X.env) fp) vs1 tg1 g1) (hx1 : NoEx g1)
    (ht1 : ∀ (s : Shared) (H : Hp) (C : Addr) (cl : List (Str × Addr)) (fp : List Addr), PTsx (X.blk s H scope (compEnvC scope cl C X.env) fp) ifs1 u1)
    (he : ∀ (s : Shared) (H : Hp) (C : Addr) (cl : List (Str × Addr)) (fp : List Addr), PX (X.blk s H scope (compEnvC scope cl C X.env) fp) elt f)
    (E0 : EnvOk (kx X) S0 H0 σ Γ0) (G0 : EG (kx X) X.mg W S0 H0 σ Γ0 Q (lc2F it g u it1 g1 u1 f vs vs1 Γ0)) : tLc2 (tWI X tg iter) (gAll X scope tg) (tAll X scope ifs) (iAll X scope tg1 iter1) (gAll X scope tg1) (tAll X scope ifs1) (eAll X scope elt) vs vs1 σ H0 Q := by
  refine tWI_mono (hi.run W tk S0 H0 σ Γ0 _ E0 (OG.bind G0)) fun J H1 ⟨S1, ds, Γ1, _, F1, E1, hJ, G1⟩ => ?_
  by_cases hp : plainAt Γ1 vs = true
  rotate_left
  · rw [if_neg hp] at G1; exact G1.elim
  rw [if_pos hp] at G1
  generalize hR : lcLoop2 g u it1 g1 u1 f vs vs1 ds [] (wipeG Γ1 vs) = OO at G1
  intro L hL
  have Ew := E1.wipe (vs := vs)
  rw [wipe_plain E1 hp] at Ew
  have Fw := Frm.wipe0 (S := S1) (H := H1) (σ := σ) hp
  refine ⟨fun i m H => m = ds.length - i ∧ i ≤ ds.length ∧ ∃ (S : Sx) (Γ : Ge) (acc : List D) (vacc : List V), Same S1 S ∧ Frm S1 H1 (wipe σ vs) (wipeG Γ1 vs) S H (wipe σ vs) Γ ∧ EnvOk (kx X) S H (wipe σ vs) Γ ∧ S.hp L = none ∧ H L = some (.lst vacc) ∧ DqAll (kx X) S vacc acc ∧ ¬ Own S L ∧
      lcLoop2 g u it1 g1 u1 f vs vs1 (ds.drop i) acc Γ = OO,
    ⟨ds.length, by simp, Nat.zero_le _, S1, _, [], [], Same.refl _, .push Ew hL _, Ew.push hL _, Ew.free hL, upd_same, .nil, fun q => ?_, hR⟩, ?_⟩
  · exact not_own_new Ew hL q
  rintro i m H ⟨rfl, hi', S, Γ, acc, vacc, e1, F, E, hS, hH, hA, hO, hG⟩
  obtain ⟨jg, js⟩ := hJ i S H e1 E.sub
  by_cases hl : i < ds.length
  · have hd : ds[i]? = some ds[i] := List.getElem?_eq_getElem hl
    obtain ⟨go, yl⟩ := jg _ hd
    rw [List.drop_eq_getElem_cons hl] at hG
    unfold lcLoop2 at hG
    refine .inr ⟨go, fun H' => ∃ (S : Sx) (Γ : Ge) (acc : List D) (vacc : List V), Same S1 S ∧ Frm S1 H1 (wipe σ vs) (wipeG Γ1 vs) S H' (wipe σ vs) Γ ∧ EnvOk (kx X) S H' (wipe σ vs) Γ ∧ S.hp L = none ∧ H' L = some (.lst vacc) ∧ DqAll (kx X) S vacc acc ∧ ¬ Own S L ∧
      lcLoop2 g u it1 g1 u1 f vs vs1 (ds.drop (i + 1)) acc Γ = OO, fun H' q => ⟨ds.length - (i + 1), by omega, rfl, hl, q⟩, fun x H' hy => ?_⟩
    obtain ⟨Sh, s1, s2, s3, s4, dx⟩ := yl x H' hy
    obtain ⟨S', rfl, F', E'⟩ := grow_ok E s1 s2 s3 s4
    have neL : H L ≠ none := by rw [hH]; intro z; cases z
    have fin : ∀ {o : Out (List D)}, o = OO → (∀ xs Γ', o ≠ .ok xs Γ') → False := fun {o} e n => by
      rw [← e] at G1
      cases o with
      | ok xs Γ' => exact n xs Γ' rfl
      | ex _ _ => exact G1
      | no => exact G1
    cases eo : g (.d ds[i]) Γ with
    | no => rw [eo] at hG; exact (fin (o := .no) hG (fun _ _ z => nomatch z)).elim
    | ex _ _ => rw [eo] at hG; exact (fin (o := .no) hG (fun _ _ z => nomatch z)).elim
    | ok un Γa =>
      rw [eo] at hG
      dsimp only at hG
      intro s Hs C cl fp
      refine tWG_mono ((hg s Hs C cl fp).run (fun _ _ _ _ => False) takes0 S' H' (wipe σ vs) Γ S' H' (wipe σ vs) Γ x (.d ds[i]) (fun σ2 H2 => ∃ S2, Frm S' H' (wipe σ vs) Γ S2 H2 σ2 Γa ∧ EnvOk (kx X) S2 H2 σ2 Γa) .refl E' dx ?_) (fun σ2 H2 ⟨ew, S2, F2, E2⟩ => ?_)
      · rw [eo]
        exact fun S2 H2 σ2 F2 E2 => ⟨S2, F2, E2⟩
      have ew : wipe σ2 vs = wipe σ vs := by
        have : wipe (wipe σ vs) vs = wipe σ vs := wipe_idem
        rw [ew, this]
      have F12 := F'.trans F2
      refine ⟨ew, ?_⟩
      intro s' Hs' C' cl' fp'
      have tgoal : TG' (kx X) X.mg (fun _ _ _ _ => False) S2 H2 σ2 Γa (fun b H3 => ∃ S3 Γb, u Γa = .ok b Γb ∧ Frm S2 H2 σ2 Γa S3 H3 σ2 Γb ∧ EnvOk (kx X) S3 H3 σ2 Γb) (u Γa) := by
        cases eu : u Γa with
        | no => rw [eu] at hG; exact (fin (o := .no) hG (fun _ _ z => nomatch z)).elim
        | ex _ _ => rw [eu] at hG; exact (fin (o := .no) hG (fun _ _ z => nomatch z)).elim
        | ok b Γb => exact fun S3 H3 b' F3 E3 e => by subst e; exact ⟨S3, Γb, rfl, F3, E3⟩
      refine fun pins sh I => thn ((ht s' Hs' C' cl' fp').run (fun _ _ _ _ => False) takes0 S2 H2 σ2 Γa _ E2 tgoal pins sh I) fun b sh' ⟨H3, I3, S3, Γb, eu, F3, E3⟩ => ⟨H3, I3, ?_⟩
      have F13 := F12.trans F3
      rw [eu] at hG
      have keepL : ∀ {S4 : Sx} {H4 : Hp} {σ4 : L2.St} {Γ4 : Ge}, Frm S H (wipe σ vs) Γ S4 H4 σ4 Γ4 → H4 L = some (.lst vacc) ∧ S4.hp L = none ∧ ¬ Own S4 L := fun {S4 H4 σ4 Γ4} f => by
        refine ⟨f.keep L _ hH hO, f.fresh L hS neL hO, fun q => ?_⟩
        rcases f.own L q with z | z
        · exact hO z
        · exact neL z
      cases b with
      | false =>
        refine iteF ?_
        obtain ⟨k1, k2, k3⟩ := keepL F13
        refine ⟨S3.wipe vs, wipeG Γb vs, acc, vacc, (e1.trans s1).trans (F2.grow.trans F3.grow), Frm.wipeE (F.trans F13) ew, by rw [← ew]; exact E3.wipe, k2, k1, Same.dpAll F13.grow hA, fun q => k3 (own_wipe q), hG⟩
      | true =>
        refine iteT ?_
        dsimp only at hG
        intro s'' Hs'' C'' cl'' fp''
        -- the second source
        have igoal : OG (kx X) X.mg (fun _ _ _ _ => False) S3 H3 σ2 Γb (fun S' H' Γ' J ds => ItD (kx X) S' J ds) (fun J1 H4 => ∃ S4 ds1 Γc, it1 Γb = .ok ds1 Γc ∧ Frm S3 H3 σ2 Γb S4 H4 σ2 Γc ∧ EnvOk (kx X) S4 H4 σ2 Γc ∧ ItD (kx X) S4 J1 ds1) (it1 Γb) := by
          cases ei : it1 Γb with
          | no => rw [ei] at hG; exact (fin (o := .no) hG (fun _ _ z => nomatch z)).elim
          | ex _ _ => rw [ei] at hG; exact (fin (o := .no) hG (fun _ _ z => nomatch z)).elim
          | ok ds1 Γc => exact fun S4 H4 J1 F4 E4 q => ⟨S4, ds1, Γc, rfl, F4, E4, q⟩
        refine tWI_mono ((hi1 s'' Hs'' C'' cl'' fp'').run (fun _ _ _ _ => False) takes0 S3 H3 σ2 Γb _ E3 igoal) fun J1 H4 ⟨S4, ds1, Γc, ei, F4, E4, hJ1⟩ => ?_
        rw [ei] at hG
        dsimp only at hG
        by_cases hp1 : plainAt Γc vs1 = true
        rotate_left
        · rw [if_neg hp1] at hG
          exact (fin (o := .no) hG (fun _ _ z => nomatch z)).elim
        rw [if_pos hp1] at hG
        have F14 := F13.trans F4
        have Ew4 := E4.wipe (vs := vs1)
        rw [wipe_plain E4 hp1] at Ew4
        have Fw4 := Frm.wipe0 (S := S4) (H := H4) (σ := σ2) hp1
        generalize hR1 : lcLoop g1 u1 f vs1 ds1 acc (wipeG Γc vs1) = O1 at hG
        -- the inner loop
        refine ⟨fun j k H => k = ds1.length - j ∧ j ≤ ds1.length ∧ ∃ (S5 : Sx) (Γ5 : Ge) (acc5 : List D) (vacc5 : List V), Same S1 S5 ∧ Same S4 S5 ∧ Frm S1 H1 (wipe σ vs) (wipeG Γ1 vs) S5 H (wipe σ2 vs1) Γ5 ∧ EnvOk (kx X) S5 H (wipe σ2 vs1) Γ5 ∧ S5.hp L = none ∧ H L = some (.lst vacc5) ∧ DqAll (kx X) S5 vacc5 acc5 ∧ ¬ Own S5 L ∧
            lcLoop g1 u1 f vs1 (ds1.drop j) acc5 Γ5 = O1, ⟨ds1.length, by simp, Nat.zero_le _, S4, _, acc, vacc, ?_, Same.refl _, (F.trans F14).trans Fw4, Ew4, ?_, ?_, ?_, ?_, hR1⟩, ?_⟩
        · exact (e1.trans s1).trans ((F2.grow.trans F3.grow).trans F4.grow)
        · exact (keepL F14).2.1
        · exact (keepL F14).1
        · exact Same.dpAll F14.grow hA
        · exact (keepL F14).2.2
        rintro j k H5 ⟨rfl, hj', S5, Γ5, acc5, vacc5, e5, e45, F5, E5, hS5, hH5, hA5, hO5, hG5⟩
        obtain ⟨jg1, js1⟩ := hJ1 j S5 H5 e45 E5.sub
        have fin1 : ∀ {o : Out (List D)}, o = O1 → (∀ xs Γ', o ≠ .ok xs Γ') → False := fun {o} e n => by
          rw [← e] at hG
          cases o with
          | ok xs Γ' => exact n xs Γ' rfl
          | ex _ _ => exact fin (o := .no) hG (fun _ _ z => nomatch z)
          | no => exact fin (o := .no) hG (fun _ _ z => nomatch z)
        by_cases hl1 : j < ds1.length
        · have hd1 : ds1[j]? = some ds1[j] := List.getElem?_eq_getElem hl1
          obtain ⟨go1, yl1⟩ := jg1 _ hd1
          rw [List.drop_eq_getElem_cons hl1] at hG5
          unfold lcLoop at hG5
          refine .inr ⟨go1, fun H => ∃ (S5 : Sx) (Γ5 : Ge) (acc5 : List D) (vacc5 : List V), Same S1 S5 ∧ Same S4 S5 ∧ Frm S1 H1 (wipe σ vs) (wipeG Γ1 vs) S5 H (wipe σ2 vs1) Γ5 ∧ EnvOk (kx X) S5 H (wipe σ2 vs1) Γ5 ∧ S5.hp L = none ∧ H L = some (.lst vacc5) ∧ DqAll (kx X) S5 vacc5 acc5 ∧ ¬ Own S5 L ∧
            lcLoop g1 u1 f vs1 (ds1.drop (j + 1)) acc5 Γ5 = O1, fun H' q => ⟨ds1.length - (j + 1), by omega, rfl, hl1, q⟩, fun x1 H6 hy1 => ?_⟩
          obtain ⟨Sh6, t1, t2, t3, t4, dx1⟩ := yl1 x1 H6 hy1
          obtain ⟨S6, rfl, F6, E6⟩ := grow_ok E5 t1 t2 t3 t4
          have neL5 : H5 L ≠ none := by rw [hH5]; intro z; cases z
          cases eo1 : g1 (.d ds1[j]) Γ5 with
          | no => rw [eo1] at hG5; exact (fin1 (o := .no) hG5 (fun _ _ z => nomatch z)).elim
          | ex _ _ => rw [eo1] at hG5; exact (fin1 (o := .no) hG5 (fun _ _ z => nomatch z)).elim
          | ok un1 Γ6 =>
            rw [eo1] at hG5
            dsimp only at hG5
            intro s3 Hs3 C3 cl3 fp3
            refine tWG_mono ((hg1 s3 Hs3 C3 cl3 fp3).run (fun _ _ _ _ => False) takes0 S6 H6 (wipe σ2 vs1) Γ5 S6 H6 (wipe σ2 vs1) Γ5 x1 (.d ds1[j]) (fun σ7 H7 => ∃ S7, Frm S6 H6 (wipe σ2 vs1) Γ5 S7 H7 σ7 Γ6 ∧ EnvOk (kx X) S7 H7 σ7 Γ6) .refl E6 dx1 ?_) (fun σ7 H7 ⟨ew7, S7, F7, E7⟩ => ?_)
            · rw [eo1]
              exact fun S7 H7 σ7 F7 E7 => ⟨S7, F7, E7⟩
            have ew7 : wipe σ7 vs1 = wipe σ2 vs1 := by
              have : wipe (wipe σ2 vs1) vs1 = wipe σ2 vs1 := wipe_idem
              rw [ew7, this]
            have F67 := F6.trans F7
            refine ⟨ew7, ?_⟩
            intro s4' Hs4 C4 cl4 fp4
            have tgoal1 : TG' (kx X) X.mg (fun _ _ _ _ => False) S7 H7 σ7 Γ6 (fun b H8 => ∃ S8 Γ7, u1 Γ6 = .ok b Γ7 ∧ Frm S7 H7 σ7 Γ6 S8 H8 σ7 Γ7 ∧ EnvOk (kx X) S8 H8 σ7 Γ7) (u1 Γ6) := by
              cases eu1 : u1 Γ6 with
              | no => rw [eu1] at hG5; exact (fin1 (o := .no) hG5 (fun _ _ z => nomatch z)).elim
              | ex _ _ => rw [eu1] at hG5; exact (fin1 (o := .no) hG5 (fun _ _ z => nomatch z)).elim
              | ok b Γ7 => exact fun S8 H8 b' F8 E8 e => by subst e; exact ⟨S8, Γ7, rfl, F8, E8⟩
            refine fun pins sh I => thn ((ht1 s4' Hs4 C4 cl4 fp4).run (fun _ _ _ _ => False) takes0 S7 H7 σ7 Γ6 _ E7 tgoal1 pins sh I) fun b1 sh' ⟨H8, I8, S8, Γ7, eu1, F8, E8⟩ => ⟨H8, I8, ?_⟩
            have F68 := F67.trans F8
            rw [eu1] at hG5
            have keepL5 : ∀ {S9 : Sx} {H9 : Hp} {σ9 : L2.St} {Γ9 : Ge}, Frm S5 H5 (wipe σ2 vs1) Γ5 S9 H9 σ9 Γ9 → H9 L = some (.lst vacc5) ∧ S9.hp L = none ∧ ¬ Own S9 L := fun {S9 H9 σ9 Γ9} f => by
              refine ⟨f.keep L _ hH5 hO5, f.fresh L hS5 neL5 hO5, fun q => ?_⟩
              rcases f.own L q with z | z
              · exact hO5 z
              · exact neL5 z
            -- wiped to the inner start again
            have wE : ∀ {S9 : Sx} {H9 : Hp} {Γ9 : Ge}, Frm S5 H5 (wipe σ2 vs1) Γ5 S9 H9 σ7 Γ9 → Frm S1 H1 (wipe σ vs) (wipeG Γ1 vs) (S9.wipe vs1) H9 (wipe σ2 vs1) (wipeG Γ9 vs1) := fun {S9 H9 Γ9} f => by
              have F9 := F5.trans f
              refine ⟨F9.grow, F9.keep, F9.fresh, fun b h => F9.own b (own_wipe h), fun jj xs h => ?_, fun jj xs h => ?_, by rw [wipeG_len, F9.len]⟩
              · have n : jj ∉ vs := fun z => by cases wipeG_in z h
                have n1 : jj ∉ vs1 := fun z => n (hv jj z)
                obtain ⟨q1, ys, q2⟩ := F9.bor jj xs h
                exact ⟨by rw [← ew7, wipe_out n1, q1], ys, by rw [wipeG_out n1]; exact q2⟩
              · have n : jj ∉ vs := fun z => by cases wipeG_in z h
                have n1 : jj ∉ vs1 := fun z => n (hv jj z)
                obtain ⟨q1, ys, q2⟩ := F9.bop jj xs h
                exact ⟨by rw [← ew7, wipe_out n1, q1], ys, by rw [wipeG_out n1]; exact q2⟩
            cases b1 with
            | false =>
              refine iteF ?_
              obtain ⟨k1, k2, k3⟩ := keepL5 F68
              exact ⟨S8.wipe vs1, wipeG Γ7 vs1, acc5, vacc5, (e5.trans t1).trans (F7.grow.trans F8.grow), (e45.trans t1).trans (F7.grow.trans F8.grow), wE F68, by rw [← ew7]; exact E8.wipe, k2, k1, Same.dpAll F68.grow hA5, fun q => k3 (own_wipe q), hG5⟩
            | true =>
              refine iteT ?_
              dsimp only at hG5
              intro s6 Hs6 C6 cl6 fp6
              have egoal : EG (kx X) X.mg (fun _ _ _ _ => False) S8 H8 σ7 Γ7 (fun y H9 => ∃ ac, H9 L = some (.lst ac) ∧ ac.length < sizeLine ∧ ∃ (S5 : Sx) (Γ5 : Ge) (acc5 : List D) (vacc5 : List V), Same S1 S5 ∧ Same S4 S5 ∧ Frm S1 H1 (wipe σ vs) (wipeG Γ1 vs) S5 (upd H9 L (.lst (ac ++ [y]))) (wipe σ2 vs1) Γ5 ∧ EnvOk (kx X) S5 (upd H9 L (.lst (ac ++ [y]))) (wipe σ2 vs1) Γ5 ∧ S5.hp L = none ∧
                  (upd H9 L (.lst (ac ++ [y]))) L = some (.lst vacc5) ∧ DqAll (kx X) S5 vacc5 acc5 ∧ ¬ Own S5 L ∧ lcLoop g1 u1 f vs1 (ds1.drop (j + 1)) acc5 Γ5 = O1) (f Γ7) := by
                cases ef : f Γ7 with
                | no => rw [ef] at hG5; exact (fin1 (o := .no) hG5 (fun _ _ z => nomatch z)).elim
                | ex _ _ => rw [ef] at hG5; exact (fin1 (o := .no) hG5 (fun _ _ z => nomatch z)).elim
                | ok r Γ8 =>
                  cases r with
                  | l _ => rw [ef] at hG5; exact (fin1 (o := .no) hG5 (fun _ _ z => nomatch z)).elim
                  | s _ => rw [ef] at hG5; exact (fin1 (o := .no) hG5 (fun _ _ z => nomatch z)).elim
                  | o _ => rw [ef] at hG5; exact (fin1 (o := .no) hG5 (fun _ _ z => nomatch z)).elim
                  | d y =>
                    rw [ef] at hG5
                    dsimp only at hG5
                    by_cases hz : acc5.length < 1000000
                    · rw [if_pos hz] at hG5
                      intro S9 H9 v F9 E9 dv
                      have F59 := F68.trans F9
                      obtain ⟨k1, k2, k3⟩ := keepL5 F59
                      have hz' : vacc5.length < sizeLine := by rw [DqAll.length hA5]; exact Nat.lt_of_lt_of_le hz (by decide)
                      have Ew9 : EnvOk (kx X) (S9.wipe vs1) H9 (wipe σ2 vs1) (wipeG Γ8 vs1) := by rw [← ew7]; exact E9.wipe
                      have kw : ¬ Own (S9.wipe vs1) L := fun q => k3 (own_wipe q)
                      have Fw9 := wE F59
                      have hL1 : ∀ b o, H1 b = some o → b ≠ L := fun b o e => ne_of_none e hL
                      refine ⟨vacc5, k1, hz', S9.wipe vs1, wipeG Γ8 vs1, acc5 ++ [y], vacc5 ++ [v], (e5.trans t1).trans ((F7.grow.trans F8.grow).trans F9.grow), (e45.trans t1).trans ((F7.grow.trans F8.grow).trans F9.grow), ?_, ?_, k2, upd_same, DqAll.append (Same.dpAll F59.grow hA5) (.cons dv .nil), kw, hG5⟩
                      · exact ⟨Fw9.grow, fun b o h n => by rw [upd_ne (hL1 b o h)]; exact Fw9.keep b o h n, Fw9.fresh, Fw9.own, Fw9.bor, Fw9.bop, Fw9.len⟩
                      · exact Ew9.updN k2 kw
                    · rw [if_neg hz] at hG5
                      exact (fin1 (o := .no) hG5 (fun _ _ z => nomatch z)).elim
              exact (he s6 Hs6 C6 cl6 fp6).run (fun _ _ _ _ => False) takes0 S8 H8 σ7 Γ7 _ E8 egoal
        · have ej : j = ds1.length := by omega
          subst ej
          rw [List.drop_length] at hG5
          have hG5 : Out.ok acc5 Γ5 = O1 := hG5
          rw [← hG5] at hG
          dsimp only at hG
          have ew2 : wipe (wipe σ2 vs1) vs = wipe σ vs := by rw [wipe_sub hv, ew]
          exact .inl ⟨js1 (Nat.le_refl _), S5.wipe vs, wipeG Γ5 vs, acc5, vacc5, e5, Frm.wipeE F5 ew2, by rw [← ew2]; exact E5.wipe, hS5, hH5, hA5, fun q => hO5 (own_wipe q), hG⟩
  · have e : i = ds.length := by omega
    subst e
    rw [List.drop_length] at hG
    have hG : Out.ok acc Γ = OO := hG
    rw [← hG] at G1
    obtain ⟨f1, e1', t1⟩ := back_rest E1 hp F E
    refine .inl ⟨js (Nat.le_refl _), G1 (S.wipe vs) H _ (F1.trans f1) e1' ⟨L, vacc, rfl, hS, hH, hA, fun q => hO (t1 L q), ?_⟩⟩
    exact back_own F1 (.inl hL)
end
section
variable {X : Cx} {tg iter elt tg1 iter1 : Expr} {ifs ifs1 : List Expr} {scope : Scope} {own : List (Str × Nat)} {vs1 : List Nat} {pos spos : Pos} {it it1 : LF} {g g1 : GF} {u u1 : BF} {f : EF}
theorem px_lc2 (hc : X.calm = true) (hN : X.N.Nodup) (hi : PIx X tg iter it) (ok : BlkOk X.N X.env.scope scope own) (hv : ∀ i ∈ vs1, i ∈ own.map (·.2))
    (hg : ∀ (s : Shared) (H : Hp) (C : Addr) (cl : List (Str × Addr)) (fp : List Addr), PGc (X.blk s H scope (compEnvC scope cl C X.env) fp) (own.map (·.2)) tg g) (hx : NoEx g)
    (ht : ∀ (s : Shared) (H : Hp) (C : Addr) (cl : List (Str × Addr)) (fp : List Addr), PTsx (X.blk s H scope (compEnvC scope cl C X.env) fp) ifs u)
    (hi1 : ∀ (s : Shared) (H : Hp) (C : Addr) (cl : List (Str × Addr)) (fp : List Addr), PIx (X.blk s H scope (compEnvC scope cl C X.env) fp) tg1 iter1 it1)
    (hg1 : ∀ (s : Shared) (H : Hp) (C : Addr) (cl : List (Str × Addr)) (fp : List Addr), PGc (X.blk s H scope (compEnvC scope cl C X.env) fp) vs1 tg1 g1) (hx1 : NoEx g1)
    (ht1 : ∀ (s : Shared) (H : Hp) (C : Addr) (cl : List (Str × Addr)) (fp : List Addr), PTsx (X.blk s H scope (compEnvC scope cl C X.env) fp) ifs1 u1)
    (he : ∀ (s : Shared) (H : Hp) (C : Addr) (cl : List (Str × Addr)) (fp : List Addr), PX (X.blk s H scope (compEnvC scope cl C X.env) fp) elt f) (hs : ∀ x, foldedSetIterable iter X.env x = pure x := by intro _; rfl) (hs1 : ∀ env x, foldedSetIterable iter1 env x = pure x := by intro _ _; rfl) :
    PX X (.ListComp elt [⟨tg, iter, ifs, 0⟩, ⟨tg1, iter1, ifs1, 0⟩] scope pos) (lc2F it g u it1 g1 u1 f (own.map (·.2)) vs1) :=
  ⟨fun W tk S H σ Γ Q E G => tW_of (pe_lc2 hc hN pi_w ok hv (g := gAll X scope tg) (tt := tAll X scope ifs) (wi1 := iAll X scope tg1 iter1) (g1 := gAll X scope tg1) (tt1 := tAll X scope ifs1) (te := eAll X scope elt)
    (fun s H C cl fp => ⟨fun pins sh σ H' v u Q I r h => h s H C cl fp pins sh u I r⟩) (fun s H C cl fp => ⟨fun pins sh σ H' Q I h => h s H C cl fp pins sh I⟩) (fun s H C cl fp => ⟨fun pins sh σ H' Q I h => h s H C cl fp pins sh I⟩)
    (fun s H C cl fp => ⟨fun pins sh σ H' v u Q I r h => h s H C cl fp pins sh u I r⟩) (fun s H C cl fp => ⟨fun pins sh σ H' Q I h => h s H C cl fp pins sh I⟩) (fun s H C cl fp => ⟨fun pins sh σ H' Q I h => h s H C cl fp pins sh I⟩) hs hs1)
    (lc2_run tk hi hv hg hx ht hi1 hg1 hx1 ht1 he E G)⟩
theorem psx_setLc2 {i : Nat} {y : Str} {py : Pos} (hc : X.calm = true) (hN : X.N.Nodup) (hy : X.N[i]? = some y) (hyl : X.env.scope.names.lookup y = some .local) (hsw : swapsWith (.ListComp elt [⟨tg, iter, ifs, 0⟩, ⟨tg1, iter1, ifs1, 0⟩] scope pos) (some (.Name y py)) spos.line X.env = pure true)
    (hi : PIx X tg iter it) (ok : BlkOk X.N X.env.scope scope own) (hv : ∀ i ∈ vs1, i ∈ own.map (·.2))
    (hg : ∀ (s : Shared) (H : Hp) (C : Addr) (cl : List (Str × Addr)) (fp : List Addr), PGc (X.blk s H scope (compEnvC scope cl C X.env) fp) (own.map (·.2)) tg g) (hx : NoEx g)
    (ht : ∀ (s : Shared) (H : Hp) (C : Addr) (cl : List (Str × Addr)) (fp : List Addr), PTsx (X.blk s H scope (compEnvC scope cl C X.env) fp) ifs u)
    (hi1 : ∀ (s : Shared) (H : Hp) (C : Addr) (cl : List (Str × Addr)) (fp : List Addr), PIx (X.blk s H scope (compEnvC scope cl C X.env) fp) tg1 iter1 it1)
    (hg1 : ∀ (s : Shared) (H : Hp) (C : Addr) (cl : List (Str × Addr)) (fp : List Addr), PGc (X.blk s H scope (compEnvC scope cl C X.env) fp) vs1 tg1 g1) (hx1 : NoEx g1)
    (ht1 : ∀ (s : Shared) (H : Hp) (C : Addr) (cl : List (Str × Addr)) (fp : List Addr), PTsx (X.blk s H scope (compEnvC scope cl C X.env) fp) ifs1 u1)
    (he : ∀ (s : Shared) (H : Hp) (C : Addr) (cl : List (Str × Addr)) (fp : List Addr), PX (X.blk s H scope (compEnvC scope cl C X.env) fp) elt f) (hs : ∀ x, foldedSetIterable iter X.env x = pure x := by intro _; rfl) (hs1 : ∀ env x, foldedSetIterable iter1 env x = pure x := by intro _ _; rfl) :
    PSx X (.Assign [.Name y py] (.ListComp elt [⟨tg, iter, ifs, 0⟩, ⟨tg1, iter1, ifs1, 0⟩] scope pos) spos) (setF (gN i) (lc2F it g u it1 g1 u1 f (own.map (·.2)) vs1)) := by
  refine ⟨fun W tk S H σ Γ Z E G => tWS_of (ps_setLc2 hc hN hy hyl hsw pi_w ok hv (g := gAll X scope tg) (tt := tAll X scope ifs) (wi1 := iAll X scope tg1 iter1) (g1 := gAll X scope tg1) (tt1 := tAll X scope ifs1) (te := eAll X scope elt)
    (fun s H C cl fp => ⟨fun pins sh σ H' v u Q I r h => h s H C cl fp pins sh u I r⟩) (fun s H C cl fp => ⟨fun pins sh σ H' Q I h => h s H C cl fp pins sh I⟩) (fun s H C cl fp => ⟨fun pins sh σ H' Q I h => h s H C cl fp pins sh I⟩)
    (fun s H C cl fp => ⟨fun pins sh σ H' v u Q I r h => h s H C cl fp pins sh u I r⟩) (fun s H C cl fp => ⟨fun pins sh σ H' Q I h => h s H C cl fp pins sh I⟩) (fun s H C cl fp => ⟨fun pins sh σ H' Q I h => h s H C cl fp pins sh I⟩) hs hs1)
    (lc2_run (Q := fun v H1 => gName i v σ H1 Z.nx) tk hi hv hg hx ht hi1 hg1 hx1 ht1 he E ?_)⟩
  have G1 := SG.bind (rel := fun S' H' Γ' v r => ROk (kx X) S H S' H' σ v r) G
  revert G1
  cases lc2F it g u it1 g1 u1 f (own.map (·.2)) vs1 Γ with
  | no => exact fun z => z
  | ex _ _ => exact fun z => z
  | ok r Γ' =>
    intro z S' H' v F' E' R'
    obtain ⟨S2, r2, Γ2, e2, F2, E2, R2, G2⟩ := z S' H' v F' E' R'
    cases e2
    exact setN_ok F2 E2 R2 (UG_of_SG G2 fun x Γ' => noex_name _ _ _ _)
end
/-! computing -/
section
variable {gf g1 : GF} {u u1 : BF} {it it1 : LF} {f : EF} {vs vs1 : List Nat} {ds acc : List D} {Γ Γ1 : Ge}
def lc2K (g : GF) (u : BF) (it1 : LF) (g1 : GF) (u1 : BF) (e : EF) (vs vs1 : List Nat) : List D → EF := fun ds Γ1 => if plainAt Γ1 vs = true then lcEnd Γ1 vs (lcLoop2 g u it1 g1 u1 e vs vs1 ds [] (wipeG Γ1 vs)) else .no
@[simp] theorem lc2F_eq : lc2F it gf u it1 g1 u1 f vs vs1 Γ = (it Γ).bind (lc2K gf u it1 g1 u1 f vs vs1) := by
  unfold lc2F lc2K lcEnd
  rfl
@[simp] theorem lc2K_eq : lc2K gf u it1 g1 u1 f vs vs1 ds Γ = if plainAt Γ vs = true then lcEnd Γ vs (lcLoop2 gf u it1 g1 u1 f vs vs1 ds [] (wipeG Γ vs)) else .no := id rfl
/-- without a state: the first clause gives lists, the second one's items go in by a function or are left out -/
theorem lc2_map {Γw : Ge} {ψ : D → List D} (h : ∀ d ∈ ds, ∀ acc : List D, acc.length ≤ 100000 → ∃ Γ1 Γ2 ds1 Γ3 Γ4, gf (.d d) Γw = .ok () Γ1 ∧ u Γ1 = .ok true Γ2 ∧ it1 Γ2 = .ok ds1 Γ3 ∧ plainAt Γ3 vs1 = true ∧ lcLoop g1 u1 f vs1 ds1 acc (wipeG Γ3 vs1) = .ok (acc ++ ψ d) Γ4 ∧ wipeG Γ4 vs = Γw)
    (hl : acc.length + (ds.flatMap ψ).length ≤ 100000) : lcLoop2 gf u it1 g1 u1 f vs vs1 ds acc Γw = .ok (acc ++ ds.flatMap ψ) Γw := by
  induction ds generalizing acc with
  | nil => simp [lcLoop2]
  | cons d ds ih =>
    rw [List.flatMap_cons, List.length_append] at hl
    obtain ⟨Γ1, Γ2, ds1, Γ3, Γ4, h1, h2, h3, h4, h5, h6⟩ := h d (by simp) acc (by omega)
    unfold lcLoop2
    rw [h1]
    dsimp only
    rw [h2]
    dsimp only
    rw [h3]
    dsimp only
    rw [if_pos h4, h5]
    dsimp only
    rw [h6, ih (fun d hd => h d (List.mem_cons_of_mem _ hd)) (by rw [List.length_append]; omega)]
    simp
end
end Ly
set_option maxRecDepth 100000
/-! Lyn: environments known up to their last slots. -/
namespace Ly
open PySem L2
/-- Γ begins with pre; n slots follow, none of them lent -/
def Tl (Γ pre : Ge) (n : Nat) : Prop := ∃ t : Ge, Γ = pre ++ t ∧ t.length = n ∧ t.all notB' = true
section
variable {a s1 s2 s3 s4 s5 s6 s7 s8 s9 : Sl} {Γ pre : Ge} {n : Nat}
@[simp] theorem tl_cons : Tl (a :: Γ) (a :: pre) n = Tl Γ pre n := by
  refine propext ⟨fun ⟨t, h1, h2⟩ => ⟨t, by simpa using h1, h2⟩, fun ⟨t, h1, h2⟩ => ⟨t, by rw [h1]; rfl, h2⟩⟩
@[simp] theorem tl_nil : Tl Γ [] n = (Γ.length = n ∧ Γ.all notB' = true) := by
  refine propext ⟨fun ⟨t, h1, h2, h3⟩ => ?_, fun ⟨h1, h2⟩ => ⟨Γ, rfl, h1, h2⟩⟩
  have : Γ = t := h1
  subst this
  exact ⟨h2, h3⟩
theorem tl_of (h : Γ.all notB' = true) : Tl (pre ++ Γ) pre Γ.length := ⟨Γ, rfl, rfl, h⟩
theorem tlE1 (h : Tl Γ pre 1) : ∃ s1, notB' s1 = true ∧ Γ = pre ++ [s1] := by
  obtain ⟨t, rfl, h1, h2⟩ := h
  match t, h1 with
  | [s1], _ => exact ⟨s1, by simpa using h2, rfl⟩
theorem tlE2 (h : Tl Γ pre 2) : ∃ s1 s2, notB' s1 = true ∧ notB' s2 = true ∧ Γ = pre ++ [s1, s2] := by
  obtain ⟨t, rfl, h1, h2⟩ := h
  match t, h1 with
  | [s1, s2], _ =>
    simp only [List.all_cons, List.all_nil, Bool.and_true, Bool.and_eq_true] at h2
    exact ⟨s1, s2, h2.1, h2.2, rfl⟩
theorem tlE3 (h : Tl Γ pre 3) : ∃ s1 s2 s3, notB' s1 = true ∧ notB' s2 = true ∧ notB' s3 = true ∧ Γ = pre ++ [s1, s2, s3] := by
  obtain ⟨t, rfl, h1, h2⟩ := h
  match t, h1 with
  | [s1, s2, s3], _ =>
    simp only [List.all_cons, List.all_nil, Bool.and_true, Bool.and_eq_true] at h2
    exact ⟨s1, s2, s3, h2.1, h2.2.1, h2.2.2, rfl⟩
theorem tlE4 (h : Tl Γ pre 4) : ∃ s1 s2 s3 s4, notB' s1 = true ∧ notB' s2 = true ∧ notB' s3 = true ∧ notB' s4 = true ∧ Γ = pre ++ [s1, s2, s3, s4] := by
  obtain ⟨t, rfl, h1, h2⟩ := h
  match t, h1 with
  | [s1, s2, s3, s4], _ =>
    simp only [List.all_cons, List.all_nil, Bool.and_true, Bool.and_eq_true] at h2
    exact ⟨s1, s2, s3, s4, h2.1, h2.2.1, h2.2.2.1, h2.2.2.2, rfl⟩
theorem tlE5 (h : Tl Γ pre 5) : ∃ s1 s2 s3 s4 s5, notB' s1 = true ∧ notB' s2 = true ∧ notB' s3 = true ∧ notB' s4 = true ∧ notB' s5 = true ∧ Γ = pre ++ [s1, s2, s3, s4, s5] := by
  obtain ⟨t, rfl, h1, h2⟩ := h
  match t, h1 with
  | [s1, s2, s3, s4, s5], _ =>
    simp only [List.all_cons, List.all_nil, Bool.and_true, Bool.and_eq_true] at h2
    exact ⟨s1, s2, s3, s4, s5, h2.1, h2.2.1, h2.2.2.1, h2.2.2.2.1, h2.2.2.2.2, rfl⟩
theorem tlE6 (h : Tl Γ pre 6) : ∃ s1 s2 s3 s4 s5 s6, notB' s1 = true ∧ notB' s2 = true ∧ notB' s3 = true ∧ notB' s4 = true ∧ notB' s5 = true ∧ notB' s6 = true ∧ Γ = pre ++ [s1, s2, s3, s4, s5, s6] := by
  obtain ⟨t, rfl, h1, h2⟩ := h
  match t, h1 with
  | [s1, s2, s3, s4, s5, s6], _ =>
    simp only [List.all_cons, List.all_nil, Bool.and_true, Bool.and_eq_true] at h2
    exact ⟨s1, s2, s3, s4, s5, s6, h2.1, h2.2.1, h2.2.2.1, h2.2.2.2.1, h2.2.2.2.2.1, h2.2.2.2.2.2, rfl⟩
theorem tlE7 (h : Tl Γ pre 7) : ∃ s1 s2 s3 s4 s5 s6 s7, notB' s1 = true ∧ notB' s2 = true ∧ notB' s3 = true ∧ notB' s4 = true ∧ notB' s5 = true ∧ notB' s6 = true ∧ notB' s7 = true ∧ Γ = pre ++ [s1, s2, s3, s4, s5, s6, s7] := by
  obtain ⟨t, rfl, h1, h2⟩ := h
  match t, h1 with
  | [s1, s2, s3, s4, s5, s6, s7], _ =>
    simp only [List.all_cons, List.all_nil, Bool.and_true, Bool.and_eq_true] at h2
    exact ⟨s1, s2, s3, s4, s5, s6, s7, h2.1, h2.2.1, h2.2.2.1, h2.2.2.2.1, h2.2.2.2.2.1, h2.2.2.2.2.2.1, h2.2.2.2.2.2.2, rfl⟩
end
end Ly
set_option maxRecDepth 100000
/-! Lyo: what may be compared. -/
namespace Ly
open PySem L2
def Sh (n : Nat) (d : D) : Prop := d.canLay0 = true ∧ d.depth ≤ n
theorem Sh.shaped {n : Nat} {d : D} (h : Sh n d) (hn : n ≤ 64 := by decide) : SeqAt.shaped d = true := by
  unfold SeqAt.shaped
  rw [h.1, Bool.true_and, decide_eq_true_eq]
  exact Nat.le_trans h.2 hn
theorem Sh.mono {n m : Nat} {d : D} (h : Sh n d) (hn : n ≤ m) : Sh m d := ⟨h.1, Nat.le_trans h.2 hn⟩
theorem sh_int {i : Int} : Sh 0 (.int i) := ⟨by simp [PyData.canLay0], by simp [PyData.depth]⟩
theorem sh_bool {i : Bool} : Sh 0 (.bool i) := ⟨by simp [PyData.canLay0], by simp [PyData.depth]⟩
theorem sh_none : Sh 0 .none := ⟨by simp [PyData.canLay0], by simp [PyData.depth]⟩
theorem sh_str {s : Str} (h : SeqAt.shaped (.str s) = true) : Sh 0 (.str s) := by
  unfold SeqAt.shaped at h
  rw [Bool.and_eq_true] at h
  exact ⟨h.1, by simp [PyData.depth]⟩
theorem sh_all {n : Nat} : ∀ {xs : List D}, (∀ x ∈ xs, Sh n x) → PyData.canLayAll0 xs = true ∧ PyData.depthAll xs ≤ n
  | [], _ => ⟨by simp [PyData.canLayAll0], by simp [PyData.depthAll]⟩
  | x :: xs, h => by
    obtain ⟨h1, h2⟩ := sh_all (xs := xs) fun y hy => h y (by simp [hy])
    obtain ⟨h3, h4⟩ := h x (by simp)
    refine ⟨by simp [PyData.canLayAll0, h1, h3], ?_⟩
    simp only [PyData.depthAll]
    omega
theorem sh_list {n : Nat} {xs : List D} (h : ∀ x ∈ xs, Sh n x) : Sh (n + 1) (.list xs) := by
  obtain ⟨h1, h2⟩ := sh_all h
  refine ⟨by simp [PyData.canLay0, h1], ?_⟩
  simp only [PyData.depth]
  omega
theorem sh_tuple {n : Nat} {xs : List D} (h : ∀ x ∈ xs, Sh n x) : Sh (n + 1) (.tuple xs) := by
  obtain ⟨h1, h2⟩ := sh_all h
  refine ⟨by simp [PyData.canLay0, h1], ?_⟩
  simp only [PyData.depth]
  omega
theorem sh_ints {ns : List Int} : Sh 1 (.tuple (ns.map .int)) := sh_tuple fun x hx => by
  obtain ⟨i, _, rfl⟩ := List.mem_map.mp hx
  exact sh_int
theorem sh_intl {ns : List Int} : Sh 1 (.list (ns.map .int)) := sh_list fun x hx => by
  obtain ⟨i, _, rfl⟩ := List.mem_map.mp hx
  exact sh_int
theorem eqvAll_of (p : D → Bool) (ih : ∀ d, p d = true → PyData.eqv d d = true) : ∀ xs : List D, xs.all p = true → PyData.eqvAll xs xs = true
  | [], _ => by simp
  | x :: xs, h => by
    rw [List.all_cons, Bool.and_eq_true] at h
    simp [ih x h.1, eqvAll_of p ih xs h.2]
mutual
theorem eqv_refl : ∀ d : D, d.canLay0 = true → PyData.eqv d d = true
  | .none, _ => by simp
  | .bool b, _ => by simp
  | .int i, _ => by simp
  | .str s, _ => by simp
  | .list xs, h => by
    simp
    exact eqvAll_refl xs (by simpa [PyData.canLay0] using h)
  | .tuple xs, h => by
    simp
    exact eqvAll_refl xs (by simpa [PyData.canLay0] using h)
  | .dict _, h => by simp [PyData.canLay0] at h
theorem eqvAll_refl : ∀ xs : List D, PyData.canLayAll0 xs = true → PyData.eqvAll xs xs = true
  | [], _ => by simp
  | x :: xs, h => by
    have h' : x.canLay0 = true ∧ PyData.canLayAll0 xs = true := by simpa [PyData.canLayAll0] using h
    simp [eqv_refl x h'.1, eqvAll_refl xs h'.2]
end
theorem eqD_self {n : Nat} {d : D} (h : Sh n d) (hn : n ≤ 64 := by decide) : eqD d d = some (.d (.bool true)) := by
  rw [eqD_sh (h.shaped hn) (h.shaped hn), eqv_refl d h.1]
theorem neD_self {n : Nat} {d : D} (h : Sh n d) (hn : n ≤ 64 := by decide) : neD d d = some (.d (.bool false)) := by
  rw [neD_sh (h.shaped hn) (h.shaped hn), eqv_refl d h.1]
  rfl
theorem eqD_nil {n : Nat} {xs : List D} (h : Sh n (.list xs)) (hn : n ≤ 64 := by decide) : eqD (.list xs) (.list []) = some (.d (.bool xs.isEmpty)) := by
  rw [eqD_sh (h.shaped hn) shaped_l0]
  simp
end Ly
namespace Ly
open PySem L2
/-! a list, again and again -/
def listR (Γ : Ge) : R → Option (List D)
  | .l xs => some xs
  | .s i => slotL Γ i
  | .d _ => none
  | .o _ => none
def timesL (k : Nat) (xs : List D) : List D := (List.replicate k xs).flatten
def repR (a : Option (List D)) (b : Option D) (Γ : Ge) : Out R := match a, b with
  | some xs, some (.int k) => if 0 ≤ k ∧ k ≤ 1000 ∧ xs.length ≤ 1000 then .ok (.l (timesL k.toNat xs)) Γ else .no
  | _, _ => .no
def repF (f g : EF) : EF := fun Γ => (f Γ).bind fun r1 Γ1 => (g Γ1).bind fun r2 Γ2 => repR (listR Γ2 r1) (view Γ2 r2) Γ2
section
variable {X : Cx} {a b : Expr} {f g : EF} {pos : Pos}
theorem px_rep (pa : PX X a f) (pb : PX X b g) : PX X (.BinOp a .Mult b pos) (repF f g) := by
  refine ⟨fun W tk S H σ Γ Q E G => tW_of (pe_op op_rep pe_w pe_w) (seq2 tk pa pb E G fun S2 H2 Γ2 x y r1 r2 F E R1 R2 G => ?_)⟩
  cases e1 : listR Γ2 r1 with
  | none => rw [e1] at G; exact G.elim
  | some xs =>
    cases e2 : view Γ2 r2 with
    | none => rw [e1, e2] at G; exact G.elim
    | some d =>
      rw [e1, e2] at G
      cases d <;> try exact G.elim
      rename_i k
      have hk := (R2.vw E e2).int
      have G : EG (kx X) X.mg W S H σ Γ Q (if 0 ≤ k ∧ k ≤ 1000 ∧ xs.length ≤ 1000 then .ok (.l (timesL k.toNat xs)) Γ2 else .no) := G
      by_cases hc : 0 ≤ k ∧ k ≤ 1000 ∧ xs.length ≤ 1000
      rotate_left
      · rw [if_neg hc] at G
        exact G.elim
      rw [if_pos hc] at G
      have main : ∃ l vs, x = V.ref l ∧ H2 l = some (.lst vs) ∧ DqAll (kx X) S2 vs xs := by
        cases r1 with
        | d _ => cases e1
        | o _ => cases e1
        | l ys =>
          cases e1
          obtain ⟨c, vs, rfl, _, h2, h3, _⟩ := R1
          exact ⟨c, vs, rfl, h2, h3⟩
        | s i =>
          have R1 : σ[i]? = some (some x) := R1
          obtain ⟨c, vs, q1, _, q3, q4⟩ := E.own i xs (slotL_own e1)
          rw [R1] at q1
          cases q1
          exact ⟨c, vs, rfl, q3, q4⟩
      obtain ⟨l, vs, rfl, h1, h2⟩ := main
      have hz : vs.length * k.toNat ≤ sizeLine := by
        rw [DqAll.length h2]
        have h3 : k.toNat ≤ 1000 := by omega
        have h4 := Nat.mul_le_mul hc.2.2 h3
        have h5 := small6 (n := 999999) (by decide)
        have h6 : (1000 * 1000 : Nat) ≤ sizeLine := by rw [sizeLine_eq]; decide
        exact Nat.le_trans h4 h6
      have hF := fin_of E (EG.shift F (o := outO Γ2 (some (.l (timesL k.toNat xs)))) G)
      exact ⟨l, k, vs, rfl, hk, h1, by omega, by omega, hz, fun p hp => hF p _ hp (DqAll.rep h2 _)⟩
def repK1 (g : EF) : R → EF := fun r1 Γ1 => (g Γ1).bind fun r2 Γ2 => repR (listR Γ2 r1) (view Γ2 r2) Γ2
def repK2 (r1 : R) : R → EF := fun r2 Γ2 => repR (listR Γ2 r1) (view Γ2 r2) Γ2
@[simp] theorem repF_eq {Γ : Ge} : repF f g Γ = (f Γ).bind (repK1 g) := id rfl
@[simp] theorem repK1_eq {Γ : Ge} {r : R} : repK1 g r Γ = (g Γ).bind (repK2 r) := id rfl
@[simp] theorem repK2_eq {Γ : Ge} {r1 r2 : R} : repK2 r1 r2 Γ = repR (listR Γ r1) (view Γ r2) Γ := id rfl
@[simp] theorem listR_l {Γ : Ge} {xs : List D} : listR Γ (.l xs) = some xs := id rfl
@[simp] theorem listR_s {Γ : Ge} {i : Nat} : listR Γ (.s i) = slotLs Γ[i]? := id rfl
@[simp] theorem repR_eq {Γ : Ge} {xs : List D} {k : Int} : repR (some xs) (some (.int k)) Γ = if 0 ≤ k ∧ k ≤ 1000 ∧ xs.length ≤ 1000 then .ok (.l (timesL k.toNat xs)) Γ else .no := id rfl
end
end Ly
namespace Ly
open PySem L2
/-! slots that a comprehension may have -/
def plS : Sl → Bool
  | .un => true
  | .d _ => true
  | _ => false
def plO : Option Sl → Bool
  | some s => plS s
  | none => false
theorem plA {Γ : Ge} {v : Nat} {vs : List Nat} : plainAt Γ (v :: vs) = (plO Γ[v]? && plainAt Γ vs) := by
  show ((match Γ[v]? with
    | some .un => true
    | some (.d _) => true
    | _ => false) && plainAt Γ vs) = _
  congr 1
  cases Γ[v]? with
  | none => rfl
  | some s => cases s <;> rfl
theorem plN {Γ : Ge} : plainAt Γ [] = true := rfl
@[simp] theorem plO_s {s : Sl} : plO (some s) = plS s := id rfl
@[simp] theorem plS_u : plS .un = true := id rfl
@[simp] theorem plS_d {x : D} : plS (.d x) = true := id rfl
theorem plS_nb {s : Sl} (h : plS s = true) : notB' s = true := by
  cases s with
  | un => rfl
  | d _ => rfl
  | l _ => rfl
  | b _ => cases h
  | o _ => cases h
  | p _ => cases h
/-- Γ begins with pre; n slots follow, which a comprehension may have -/
def Tp (Γ pre : Ge) (n : Nat) : Prop := ∃ t : Ge, Γ = pre ++ t ∧ t.length = n ∧ t.all plS = true
section
variable {a s1 s2 s3 s4 s5 s6 s7 s8 s9 : Sl} {Γ pre : Ge} {n : Nat}
@[simp] theorem tp_cons : Tp (a :: Γ) (a :: pre) n = Tp Γ pre n := by
  refine propext ⟨fun ⟨t, h1, h2⟩ => ⟨t, by simpa using h1, h2⟩, fun ⟨t, h1, h2⟩ => ⟨t, by rw [h1]; rfl, h2⟩⟩
@[simp] theorem tp_nil : Tp Γ [] n = (Γ.length = n ∧ Γ.all plS = true) := by
  refine propext ⟨fun ⟨t, h1, h2, h3⟩ => ?_, fun ⟨h1, h2⟩ => ⟨Γ, rfl, h1, h2⟩⟩
  have : Γ = t := h1
  subst this
  exact ⟨h2, h3⟩
theorem tpE1 (h : Tp Γ pre 1) : ∃ s1, plS s1 = true ∧ Γ = pre ++ [s1] := by
  obtain ⟨t, rfl, h1, h2⟩ := h
  match t, h1 with
  | [s1], _ => exact ⟨s1, by simpa using h2, rfl⟩
theorem tpE2 (h : Tp Γ pre 2) : ∃ s1 s2, plS s1 = true ∧ plS s2 = true ∧ Γ = pre ++ [s1, s2] := by
  obtain ⟨t, rfl, h1, h2⟩ := h
  match t, h1 with
  | [s1, s2], _ =>
    simp only [List.all_cons, List.all_nil, Bool.and_true, Bool.and_eq_true] at h2
    exact ⟨s1, s2, h2.1, h2.2, rfl⟩
theorem tpE3 (h : Tp Γ pre 3) : ∃ s1 s2 s3, plS s1 = true ∧ plS s2 = true ∧ plS s3 = true ∧ Γ = pre ++ [s1, s2, s3] := by
  obtain ⟨t, rfl, h1, h2⟩ := h
  match t, h1 with
  | [s1, s2, s3], _ =>
    simp only [List.all_cons, List.all_nil, Bool.and_true, Bool.and_eq_true] at h2
    exact ⟨s1, s2, s3, h2.1, h2.2.1, h2.2.2, rfl⟩
theorem tpE4 (h : Tp Γ pre 4) : ∃ s1 s2 s3 s4, plS s1 = true ∧ plS s2 = true ∧ plS s3 = true ∧ plS s4 = true ∧ Γ = pre ++ [s1, s2, s3, s4] := by
  obtain ⟨t, rfl, h1, h2⟩ := h
  match t, h1 with
  | [s1, s2, s3, s4], _ =>
    simp only [List.all_cons, List.all_nil, Bool.and_true, Bool.and_eq_true] at h2
    exact ⟨s1, s2, s3, s4, h2.1, h2.2.1, h2.2.2.1, h2.2.2.2, rfl⟩
theorem tpE5 (h : Tp Γ pre 5) : ∃ s1 s2 s3 s4 s5, plS s1 = true ∧ plS s2 = true ∧ plS s3 = true ∧ plS s4 = true ∧ plS s5 = true ∧ Γ = pre ++ [s1, s2, s3, s4, s5] := by
  obtain ⟨t, rfl, h1, h2⟩ := h
  match t, h1 with
  | [s1, s2, s3, s4, s5], _ =>
    simp only [List.all_cons, List.all_nil, Bool.and_true, Bool.and_eq_true] at h2
    exact ⟨s1, s2, s3, s4, s5, h2.1, h2.2.1, h2.2.2.1, h2.2.2.2.1, h2.2.2.2.2, rfl⟩
end
end Ly
set_option maxRecDepth 100000
/-! Lyp: own exceptions: raise, try. -/
namespace Ly
open PySem L2
/-- an own exception class without an own __init__, over ValueError -/
structure XcC (K : PySem.W.Frag) (mg : Str → Option Value) (x : Str) (C : Addr) : Prop where
  g : mg x = some (.ref C)
  q : PySem.W.excIn K C [.type "ValueError", .type "Exception", .type "BaseException", .type "object"] "ValueError.__new__" = true
  k : PySem.W.keepIn K (.ref C) = true
  b : PySem.W.subIn K (.ref C) (.type "BaseException") = some true
  t : PySem.W.typeIn K (.ref C) = some (.type "type")
def raiseF (x : Str) : SF := fun Γ => .ex ⟨x, none⟩ Γ
/-- which classes the handler's class C catches -/
def TabOk (K : PySem.W.Frag) (mg : Str → Option Value) (C : Addr) (tab : List (Str × Bool)) : Prop := ∀ n b, tab.lookup n = some b → ∃ C1, mg n = some (.ref C1) ∧ PySem.W.exmOne K (.ref C1) (.ref C) = some b
theorem tab_nil {K : PySem.W.Frag} {mg : Str → Option Value} {C : Addr} : TabOk K mg C [] := fun n b h => by cases h
theorem tab_cons {K : PySem.W.Frag} {mg : Str → Option Value} {C C1 : Addr} {n : Str} {b : Bool} {tab : List (Str × Bool)} (h1 : mg n = some (.ref C1)) (h2 : PySem.W.exmOne K (.ref C1) (.ref C) = some b) (h : TabOk K mg C tab) : TabOk K mg C ((n, b) :: tab) := fun m c e => by
  rw [List.lookup_cons] at e
  by_cases q : m = n
  · subst q
    simp only [beq_self_eq_true] at e
    cases e
    exact ⟨C1, h1, h2⟩
  · have : (m == n) = false := by simpa using q
    rw [this] at e
    exact h m c e
def catchK (tab : List (Str × Bool)) (q : Xn → SF) : Out Fl → Out Fl
  | .ex x Γ1 => match tab.lookup x.cls with
    | some true => match q x Γ1 with
      | .ok fl Γ2 => .ok fl Γ2
      | _ => .no
    | some false => .ex x Γ1
    | none => .no
  | o => o
def tryF (tab : List (Str × Bool)) (p q : SF) : SF := fun Γ => catchK tab (fun _ => q) (p Γ)
section
variable {X : Cx} {x m : Str} {C : Addr} {j : Nat} {p p2 pos pos' np : Pos} {body suite : List Stmt} {b₀ : Stmt} {P Q' : SF} {tab : List (Str × Bool)}
theorem psx_raise (hc : X.calm = true) (T : XcC X.K X.mg x C) (hg : Gl X x) (hdb : (x == ("__debug__" : Str)) = false := by decide) :
    PSx X (.Raise (some (.Call (.Name x p) [.Constant (.str m) j p2] [] pos)) none pos') (raiseF x) :=
  ⟨fun W tk S H σ Γ Z E G => tWS_of (ps_raise hc tk (pmk_own PySem.F.excBase_ValueError T.q T.g T.k (raises_own T.b T.t) hg hdb)) (G S H σ (.ref C) none .refl E ⟨C, T.g, rfl, rfl⟩)⟩
/-- what stands of a suite, whatever the exception is -/
def tSu (X : Cx) (st : List Stmt) (a : Addr) (cls : Value) (d : Option Addr) : TS := fun Z σ H => ∀ (oe : Obj) (pn : List (Addr × Obj)), Zc cls d oe → (∃ vs, oe.data = .fields vs) → tWSs (X.suite a ((a, oe) :: pn)) st Z σ H
def tTr (X : Cx) (st : List Stmt) (W : WX) : TS := fun Z σ H => ∀ (pn : List (Addr × Obj)) (xe : Value → Shared → Prop), Takes (X.tr pn xe) W → PassesOwn (model X.prog X.w) X.A X.env xe → tWSs (X.tr pn xe) st Z σ H
theorem sg_ok {K : Kx} {mg : Str → Option Value} {W W' : WX} {S : Sx} {H : Hp} {σ : L2.St} {Γ Γ' : Ge} {Z : Ends} {fl : Fl} (h : SG K mg W S H σ Γ Z (.ok fl Γ')) : SG K mg W' S H σ Γ Z (.ok fl Γ') := by
  cases fl <;> exact h
theorem psx_try (hs : X.stack = X.env :: X.outer) (hf : X.env.frame = some X.env.locals) (hg : Gl X x) (hdb : (x == ("__debug__" : Str)) = false) (gC : X.mg x = some (.ref C)) (hT : TabOk X.K X.mg C tab)
    (pb : ∀ (pn : List (Addr × Obj)) (xe : Value → Shared → Prop), PassesOwn (model X.prog X.w) X.A X.env xe → PSsx (X.tr pn xe) body P)
    (pq : ∀ (a : Addr) (oe : Obj) (pn : List (Addr × Obj)), PSsx (X.suite a ((a, oe) :: pn)) (b₀ :: suite) Q') :
    PSx X (.Try body [.ExceptHandler (some (.Name x np)) none (b₀ :: suite) pos'] [] [] pos) (tryF tab P Q') := by
  refine ⟨fun W tk S H σ Γ Z E G => tWS_of (ps_try_only (tb := tTr X body) (ts := tSu X (b₀ :: suite)) (c := .ref C) hs hf ⟨hg, hdb, .inl gC⟩ tk (fun W' pn xe tk' hp => ⟨fun pins s σ H D I h => h pn xe tk' hp pins s I⟩) (fun a oe cls d pn hz hd => ⟨fun pins s σ H D I h => h oe pn hz hd pins s I⟩)) ?_⟩
  intro pn xe tk' hp
  refine (pb pn xe hp).run _ tk' S H σ Γ Z E ?_
  show SG (kx X) X.mg (wOnly X.K (.ref C) (tSu X (b₀ :: suite)) W Z) S H σ Γ Z (P Γ)
  unfold tryF at G
  cases e : P Γ with
  | no => rw [e] at G; exact G.elim
  | ok fl Γ' => rw [e] at G; exact sg_ok (W := W) G
  | ex xn Γ1 =>
    rw [e] at G
    have G : SG (kx X) X.mg W S H σ Γ Z (match tab.lookup xn.cls with
      | some true => match Q' Γ1 with
        | .ok fl Γ2 => .ok fl Γ2
        | _ => .no
      | some false => .ex xn Γ1
      | none => .no) := G
    intro S' H' σ' c d F' E' XO
    obtain ⟨C1, g1, rfl, hfld⟩ := id XO
    cases el : tab.lookup xn.cls with
    | none => rw [el] at G; exact G.elim
    | some b =>
      obtain ⟨C2, g2, hx⟩ := hT _ _ el
      rw [g1] at g2
      cases g2
      rw [el] at G
      refine ⟨b, hx, fun hb a ha oe pn' hz hd => ?_, fun hb => ?_⟩
      · subst hb
        dsimp only at G
        cases eq : Q' Γ1 with
        | no => rw [eq] at G; exact G.elim
        | ex _ _ => rw [eq] at G; exact G.elim
        | ok fl Γ2 =>
          rw [eq] at G
          refine (pq a oe pn').run (fun _ _ _ _ => False) takes0 S' H' σ' Γ1 Z E' ?_
          rw [eq]
          exact SG.shift F' (sg_ok (W := W) G)
      · subst hb
        exact G S' H' σ' (.ref C1) d F' E' ⟨C1, g1, rfl, hfld⟩
end
@[simp] theorem raiseF_eq {x : Str} {Γ : Ge} : raiseF x Γ = .ex ⟨x, none⟩ Γ := id rfl
@[simp] theorem tryF_eq {tab : List (Str × Bool)} {p q : SF} {Γ : Ge} : tryF tab p q Γ = catchK tab (fun _ => q) (p Γ) := id rfl
@[simp] theorem catchK_ok {tab : List (Str × Bool)} {q : Xn → SF} {fl : Fl} {Γ : Ge} : catchK tab q (.ok fl Γ) = .ok fl Γ := id rfl
def catch1 (b : Option Bool) (q : Xn → SF) (x : Xn) (Γ1 : Ge) : Out Fl := match b with
    | some true => match q x Γ1 with
      | .ok fl Γ2 => .ok fl Γ2
      | _ => .no
    | some false => .ex x Γ1
    | none => .no
@[simp] theorem catchK_ex {tab : List (Str × Bool)} {q : Xn → SF} {x : Xn} {Γ : Ge} : catchK tab q (.ex x Γ) = catch1 (tab.lookup x.cls) q x Γ := id rfl
def catch2 : Out Fl → Out Fl
  | .ok fl Γ2 => .ok fl Γ2
  | _ => .no
@[simp] theorem catch1_t {q : Xn → SF} {x : Xn} {Γ : Ge} : catch1 (some true) q x Γ = catch2 (q x Γ) := by
  unfold catch1 catch2
  cases q x Γ <;> rfl
@[simp] theorem catch1_f {q : Xn → SF} {x : Xn} {Γ : Ge} : catch1 (some false) q x Γ = .ex x Γ := id rfl
@[simp] theorem catch2_ok {fl : Fl} {Γ : Ge} : catch2 (.ok fl Γ) = .ok fl Γ := id rfl
/-- a call that raises -/
theorem callM_ex {M : FM} {rs : List R} {Γ ps qs : Ge} {x : Xn} (h : dps rs = some ps) (e : M ps = .ex x qs) : callM M rs Γ = .ex x Γ := by
  obtain ⟨h1, h2, h3⟩ := bparams_dps (Γ := Γ) h
  unfold callM
  rw [h1, h2]
  dsimp only
  rw [if_pos List.nodup_nil, e]
  dsimp only
  rw [h3]
end Ly
set_option maxRecDepth 100000
/-! Lyq: data compared and sorted by <; pop at a place. -/
namespace Ly
open PySem L2 PySem.W PySem.SeqAt
section
variable {K : Kx} {X : Cx}
/-! ### sorted -/
def rSortedD (K : Kx) : List V → Hp → VK → Prop := fun vs H Q => ∃ (a : Addr) (zs : List (V × D)), vs = [V.ref a] ∧ SqL K H a (zs.map Prod.fst) ∧ (∀ z ∈ zs, Dp K H z.1 z.2) ∧ AllAlike (zs.map Prod.snd) ∧ Sortable (zs.map Prod.snd) ∧ (∀ d ∈ zs.map Prod.snd, d.depth ≤ 50) ∧
  ∀ p, H p = none → Q (.ref p) (upd H p (.lst ((zs.mergeSort (dataLe false Prod.snd)).map Prod.fst)))
theorem each_vals {P : V × D → Prop} : ∀ {zs : List (V × D)} {us : List Value}, Vals (zs.map Prod.fst) us → (∀ z ∈ zs, P z) → EachIs (fun u z => RelV z.1 u ∧ P z) us zs
  | [], us, h, _ => by
    cases h
    exact .nil
  | z :: zs, us, h, hp => by
    have h : Vals (z.1 :: zs.map Prod.fst) us := h
    cases h with
    | cons h1 h2 => exact .cons ⟨h1, hp z (by simp)⟩ (each_vals h2 fun y hy => hp y (by simp [hy]))
theorem vals_each : ∀ {us : List Value} {zs : List (V × D)} {P : V × D → Prop}, EachIs (fun u z => RelV z.1 u ∧ P z) us zs → Vals (zs.map Prod.fst) us
  | _, _, _, .nil => .nil
  | _, _, _, .cons h t => .cons h.1 (vals_each t)
theorem each_imp {α β : Type} {R R' : α → β → Prop} (h : ∀ a b, R a b → R' a b) : ∀ {as : List α} {bs : List β}, EachIs R as bs → EachIs R' as bs
  | _, _, .nil => .nil
  | _, _, .cons h1 t => .cons (h _ _ h1) (each_imp h t)
theorem cr_sortedD (hu : X.A.units + 64 < cLine) : CallR X (.builtin "sorted") (rSortedD (kx X)) := by
  intro pins s σ H vs us Q I r h
  obtain ⟨a, zs, rfl, hs, hd, hal, hso, hdp, q⟩ := h
  obtain ⟨its, rv, hl, hz⟩ := I.list hs
  rw [Vals.ref1 r]
  have hL : its.length ≤ sizeLine := by rw [← rv.length]; exact hz
  have e := each_vals (P := fun z => Dp X.K H z.1 z.2) rv hd
  have er : EachIs (fun u z => ∃ as, Reads (sortingHeap (copyHeap s.heap its) (s.heap.objs.size + 1) its) u (Prod.snd z) as) its zs := each_imp (fun u z ⟨h1, h2⟩ => by
    obtain ⟨as, hr⟩ := Dp.reads I z.2 z.1 u h2 h1
    exact ⟨as, PyProof.Rows.Reads.keeps (fun b o hb => sorting_copy_old hb) hr⟩) e
  have S : SortsAt X.prog X.w X.A.in1.in1 { s with heap := sortingHeap (copyHeap s.heap its) (s.heap.objs.size + 1) its } (dataKind (sortingHeap (copyHeap s.heap its) (s.heap.objs.size + 1) its) (zs.map Prod.snd)) its :=
    SortsAt.data (each_map (R := fun v d => ∃ as, Reads (sortingHeap (copyHeap s.heap its) (s.heap.objs.size + 1) its) v d as) Prod.snd er) hal hso fun d hd' => by
      have := hdp d hd'
      show X.A.units + 1 + 1 + d.depth < cLine
      omega
  have out := sortVals_data (R := fun u z => RelV z.1 u ∧ Dp X.K H z.1 z.2) (enc := Prod.snd) false e er hal
  refine sorted_vals hl.isList S hL ?_
  obtain ⟨ep, e2⟩ := PyProof.Rows.sortedAll_at s.heap its (sortVals (dataKind (sortingHeap (copyHeap s.heap its) (s.heap.objs.size + 1) its) (zs.map Prod.snd)) false its its).toArray
  have hm : ((zs.mergeSort (dataLe false Prod.snd)).map Prod.fst).length ≤ sizeLine := by
    rw [List.length_map, (List.mergeSort_perm _ _).length_eq]
    rw [List.length_map] at hz
    exact hz
  exact ⟨.ref _, upd H (s.heap.objs.size + 1) (.lst ((zs.mergeSort (dataLe false Prod.snd)).map Prod.fst)), (I.laid (t' := s.toks) (fun _ _ => PyProof.Rows.sortedAll_old) (Nat.le_succ _) ⟨hm, _, ep, vals_each out, e2⟩), rfl, q _ (I.hok.fresh (Nat.le_succ _))⟩
open Classical in
noncomputable def sortedDC : List D → Option O := fun ds => match ds with
  | [.list xs] => if AllAlike xs ∧ Sortable xs ∧ (∀ d ∈ xs, d.depth ≤ 50) ∧ (∀ d ∈ xs, flatD d = true) then some (.l (xs.mergeSort (dataLe false id))) else none
  | _ => none
theorem zip_all {S : Hp} : ∀ {vs : List V} {xs : List D}, DqAll K S vs xs → ∀ z ∈ vs.zip xs, Dq K S z.1 z.2
  | _, _, .nil, z, h => by simp at h
  | _, _, .cons h1 t, z, h => by
    rw [List.zip_cons_cons] at h
    rcases List.mem_cons.mp h with rfl | h
    · exact h1
    · exact zip_all t z h
theorem all_pairs {S : Hp} : ∀ {zs : List (V × D)}, (∀ z ∈ zs, Dq K S z.1 z.2) → DqAll K S (zs.map Prod.fst) (zs.map Prod.snd)
  | [], _ => .nil
  | z :: zs, h => .cons (h z (by simp)) (all_pairs fun y hy => h y (by simp [hy]))
theorem clD_sortedD : ClD K (rSortedD K) sortedDC := by
  intro S H vs ds o Q hS hv he q
  unfold sortedDC at he
  split at he
  · rename_i xs
    split at he
    · rename_i hc
      cases he
      obtain ⟨v, rfl, w⟩ := vwAll1 hv
      obtain ⟨a, us, rfl, h1, h2⟩ := w.list hS
      have hlen := DqAll.length h2
      have m1 : (us.zip xs).map Prod.fst = us := List.map_fst_zip (by omega)
      have m2 : (us.zip xs).map Prod.snd = xs := List.map_snd_zip (by omega)
      have hz := zip_all h2
      refine ⟨a, us.zip xs, rfl, by rw [m1]; exact h1.seq, fun z hz' => ?_, by rw [m2]; exact hc.1, by rw [m2]; exact hc.2.1, by rw [m2]; exact hc.2.2.1, fun p hp => ?_⟩
      · have hx : z.2 ∈ xs := by
          rw [← m2]
          exact List.mem_map.mpr ⟨z, hz', rfl⟩
        exact (Same.dp hS (hz z hz')).dp (hc.2.2.2 _ hx)
      · have e : ((us.zip xs).mergeSort (dataLe false Prod.snd)).map Prod.snd = xs.mergeSort (dataLe false id) := by
          have := List.map_mergeSort (f := (Prod.snd : V × D → D)) (l := us.zip xs) (r := dataLe false Prod.snd) (s := dataLe false id) (fun a _ b _ => rfl)
          rw [this, m2]
        have := all_pairs (K := K) (S := S) (zs := (us.zip xs).mergeSort (dataLe false Prod.snd)) fun z hz' => hz z ((List.mergeSort_perm _ _).mem_iff.mp hz')
        rw [e] at this
        exact q p _ hp this
    · cases he
  · cases he
theorem sortedDC_eq {xs : List D} (h1 : AllAlike xs) (h2 : Sortable xs) (h3 : ∀ d ∈ xs, d.depth ≤ 50) (h4 : ∀ d ∈ xs, flatD d = true) : sortedDC [.list xs] = some (.l (xs.mergeSort (dataLe false id))) := by
  unfold sortedDC
  exact if_pos ⟨h1, h2, h3, h4⟩
/-! ### a < b, of alike data -/
def rLtD (K : Kx) : R2 := fun x y H Q => ∃ d e, Dp K H x d ∧ Dp K H y e ∧ alike d e = true ∧ d ≠ .none ∧ d.depth ≤ 50 ∧ Q (.bl (dataLt d e)) H
theorem op_ltD (hu : X.A.units + 64 < cLine) : OpR X (compareOp .Lt) (rLtD (kx X)) := by
  intro pins s σ H x y v u Q I rx ry h
  obtain ⟨d, e, hd, he, ha, hn, hp, q⟩ := h
  obtain ⟨as, r1⟩ := Dp.reads I d x v hd rx
  obtain ⟨bs, r2⟩ := Dp.reads I e y u he ry
  exact lt_data r1 r2 ha hn (by omega) ⟨.bl _, H, I, rfl, q⟩
open Classical in
noncomputable def ltD : D → D → Option O := fun x y => if alike x y = true ∧ x ≠ .none ∧ x.depth ≤ 50 ∧ flatD x = true ∧ flatD y = true then some (.d (.bool (dataLt x y))) else none
theorem opD_ltD : OpD K (rLtD K) ltD := by
  intro S H x y d e o Q hS hx hy he q
  unfold ltD at he
  split at he
  · rename_i hc
    cases he
    exact ⟨d, e, (hx.dq hS).dp hc.2.2.2.1, (hy.dq hS).dp hc.2.2.2.2, hc.1, hc.2.1, hc.2.2.1, q _ (.bl _)⟩
  · cases he
theorem ltD_eq {x y : D} (h1 : alike x y = true) (h2 : x ≠ .none) (h3 : x.depth ≤ 50) (h4 : flatD x = true) (h5 : flatD y = true) : ltD x y = some (.d (.bool (dataLt x y))) := by
  unfold ltD
  rw [if_pos ⟨h1, h2, h3, h4, h5⟩]
/-! ### pop at a place -/
def popAtM : List D → List D → Option (List D × D) := fun xs ds => match ds with
    | [.int i] => if 0 ≤ i ∧ i < xs.length ∧ i < 1000000 then (xs[i.toNat]?).map fun d => (xs.eraseIdx i.toNat, d) else none
    | _ => none
theorem DqAll.erase {S : Hp} : ∀ {vs : List V} {ds : List D} (n : Nat), DqAll K S vs ds → DqAll K S (vs.eraseIdx n) (ds.eraseIdx n)
  | _, _, _, .nil => by simp; exact .nil
  | _, _, 0, .cons _ t => t
  | _, _, n + 1, .cons h t => .cons h (DqAll.erase n t)
theorem mutD_popAt : MutD K rPopAt popAtM := by
  intro S H a vs ws xs ds ys r Q hS h1 h2 h3 h4 h5 q
  cases h4 with
  | nil => cases h5
  | cons hd ht =>
    cases ht with
    | cons _ _ => rename_i d _ _ _ _ _ _; cases d <;> cases h5
    | nil =>
      rename_i w d
      cases d <;> first
        | (cases h5; done)
        | skip
      rename_i i
      simp only [popAtM] at h5
      by_cases hc : 0 ≤ i ∧ i < xs.length ∧ i < 1000000
      · rw [if_pos hc] at h5
        cases e : xs[i.toNat]? with
        | none => rw [e] at h5; cases h5
        | some d =>
          rw [e] at h5
          cases h5
          cases hd
          obtain ⟨v, w1, w2⟩ := DqAll.get h3 e
          have hl := DqAll.length h3
          refine ⟨a, vs, i, i.toNat, v, rfl, rfl, h2, by omega, ?_, ?_, w1, q _ v (DqAll.erase _ h3) w2⟩
          · omega
          · exact seqIndex_of hc.1 (by omega)
      · rw [if_neg hc] at h5
        cases h5
end
end Ly
set_option maxRecDepth 100000
/-! Lyr: for over a list that is lent: it stays as it is while it is walked. -/
namespace Ly
open PySem L2
open Classical in
noncomputable def loopB (j : Nat) (xs : List D) (g : GF) (body : SF) : List D → SF
  | [], Γ => if Γ[j]? = some (.b xs) then .ok .nx Γ else .no
  | d :: ds, Γ => if Γ[j]? = some (.b xs) then turnF g body d (loopB j xs g body ds) Γ else .no
noncomputable def forSF (j : Nat) (g : GF) (body : SF) : SF := fun Γ => match Γ[j]? with
  | some (.d (.list xs)) => loopF g body xs Γ
  | some (.b xs) => loopB j xs g body xs Γ
  | _ => .no
section
variable {X : Cx} {tg e : Expr} {pos : Pos}
open Classical in
theorem psx_forS {j : Nat} {g : GF} {body : List Stmt} {p : SF} (hp : PassesOwn (model X.prog X.w) X.A X.env X.xe) (hc : X.calm = true) (he : PE X e (tVar j)) (hg : PGx X tg g) (hx : NoEx g) (hb : PSsx X body p)
    (hs : ∀ x, foldedSetIterable e X.env x = pure x := by intro _; rfl) : PSx X (.For tg e body [] pos) (forSF j g p) := by
  refine ⟨fun W tk S0 H0 σ0 Γ0 Z E0 G0 => ?_⟩
  unfold forSF at G0
  cases q : Γ0[j]? with
  | none => rw [q] at G0; exact G0.elim
  | some sl =>
    rw [q] at G0
    cases sl with
    | un => exact G0.elim
    | l _ => exact G0.elim
    | o _ => exact G0.elim
    | p _ => exact G0.elim
    | d z =>
      cases z <;> first
        | exact G0.elim
        | skip
      rename_i xs
      have hi : PIx X tg e (itF (dvar j)) := pix_seq (px_d he)
      refine (psx_for hp hc hi hg hx hb hs).run W tk S0 H0 σ0 Γ0 Z E0 ?_
      have ev : itF (dvar j) Γ0 = .ok xs Γ0 := by unfold itF dvar; rw [q]; rfl
      show SG (kx X) X.mg W S0 H0 σ0 Γ0 Z ((itF (dvar j) Γ0).bind fun ds Γ1 => loopF g p ds Γ1)
      rw [ev]
      exact G0
    | b xs =>
      have G0 : SG (kx X) X.mg W S0 H0 σ0 Γ0 Z (loopB j xs g p xs Γ0) := G0
      obtain ⟨a, vs0, q1, q2, q3, q4⟩ := E0.own j xs (.inr q)
      refine tWS_of (ps_for hp hc (pi_list he) pg_w pss_w hs) ?_
      refine ⟨.ref a, q1, a, rfl, ⟨vs0, .inl (.inl q3)⟩, ?_⟩
      refine ⟨fun i m σ H => m = xs.length - i ∧ i ≤ xs.length ∧ σ[j]? = some (some (.ref a)) ∧ ∃ S Γ, Frm S0 H0 σ0 Γ0 S H σ Γ ∧ EnvOk (kx X) S H σ Γ ∧ SG (kx X) X.mg W S0 H0 σ0 Γ0 Z (loopB j xs g p (xs.drop i) Γ),
        ⟨xs.length, by simp, Nat.zero_le _, q1, S0, Γ0, .refl, E0, G0⟩, ?_⟩
      rintro i m σ H ⟨rfl, hi, hσ, S, Γ, F, E, G⟩
      by_cases hl : i < xs.length
      · rw [List.drop_eq_getElem_cons hl] at G
        have G : SG (kx X) X.mg W S0 H0 σ0 Γ0 Z (if Γ[j]? = some (.b xs) then turnF g p xs[i] (loopB j xs g p (xs.drop (i + 1))) Γ else .no) := by
          unfold loopB at G
          exact G
        by_cases hy : Γ[j]? = some (.b xs)
        rotate_left
        · rw [if_neg hy] at G
          exact G.elim
        rw [if_pos hy] at G
        obtain ⟨a', vs, w1, w2, w3, w4⟩ := E.own j xs (.inr hy)
        rw [hσ] at w1
        cases w1
        have sq : SqL X.K H a vs := .inl (.inl w3)
        have hd : xs[i]? = some xs[i] := List.getElem?_eq_getElem hl
        obtain ⟨v, hv, dv⟩ := DqAll.get w4 hd
        refine .inr ⟨⟨vs, v, sq, hv⟩, fun σ' H' => σ'[j]? = some (some (.ref a)) ∧ ∃ S' Γ', Frm S0 H0 σ0 Γ0 S' H' σ' Γ' ∧ EnvOk (kx X) S' H' σ' Γ' ∧ SG (kx X) X.mg W S0 H0 σ0 Γ0 Z (loopB j xs g p (xs.drop (i + 1)) Γ'),
          fun σ' H' ⟨k1, S', Γ', k⟩ => ⟨xs.length - (i + 1), by omega, rfl, hl, k1, S', Γ', k⟩, fun x H' hyl => ?_⟩
        obtain ⟨eH, qy⟩ := hyl
        subst eH
        have := qy vs sq
        rw [hv] at this
        cases this
        have G : SG (kx X) X.mg W S0 H0 σ0 Γ0 Z ((g (.d xs[i]) Γ).bind fun _ Γ1 => (p Γ1).bind fun fl Γ2 => match fl with | .nx => loopB j xs g p (xs.drop (i + 1)) Γ2 | .ct => loopB j xs g p (xs.drop (i + 1)) Γ2 | .bk => .ok .nx Γ2 | .rt r => .ok (.rt r) Γ2) := G
        cases eo : g (.d xs[i]) Γ with
        | no => rw [eo] at G; exact G.elim
        | ex y Γ' => exact absurd eo (hx _ _ _ _)
        | ok u Γ2 =>
          rw [eo] at G
          refine hg.run W tk S H' σ Γ S H' σ Γ v (.d xs[i]) _ .refl E dv ?_
          rw [eo]
          intro S2 H2 σ2 F2 E2
          have F02 := F.trans F2
          refine hb.run W tk S2 H2 σ2 Γ2 _ E2 (turn_goal F02 G fun S3 H3 σ3 Γ3 F3 E3 G3 => ?_)
          have F03 := F02.trans F3
          obtain ⟨b1, zs, b2⟩ := F03.bor j xs q
          exact ⟨by rw [b1]; exact q1, S3, Γ3, F03, E3, G3⟩
      · have ei : i = xs.length := by omega
        subst ei
        rw [List.drop_length] at G
        have G : SG (kx X) X.mg W S0 H0 σ0 Γ0 Z (if Γ[j]? = some (.b xs) then .ok .nx Γ else .no) := by
          unfold loopB at G
          exact G
        by_cases hy : Γ[j]? = some (.b xs)
        rotate_left
        · rw [if_neg hy] at G
          exact G.elim
        rw [if_pos hy] at G
        obtain ⟨a', vs, w1, w2, w3, w4⟩ := E.own j xs (.inr hy)
        rw [hσ] at w1
        cases w1
        exact .inl ⟨⟨vs, .inl (.inl w3), by rw [DqAll.length w4]; exact Nat.le_refl _⟩, G S H σ F E⟩
open Classical in
/-- a walk that goes through, the list being as it was -/
theorem loopB_of {j : Nat} {xs : List D} {gf : GF} {p : SF} : ∀ {ds : List D} {Γ : Ge} {L : Out Fl} (_ : loopB j xs gf p ds Γ = L) (I : Nat → Ge → Prop) (_ : I 0 Γ) (_ : ∀ i Γ, I i Γ → Γ[j]? = some (.b xs))
    (_ : ∀ (i : Nat) (d : D) (Γ : Ge), ds[i]? = some d → I i Γ → sat (gf (.d d) Γ) fun _ Γ1 => sat (p Γ1) fun fl Γ' => (fl = .nx ∨ fl = .ct) ∧ I (i + 1) Γ'), ∃ Γ', L = .ok .nx Γ' ∧ I ds.length Γ'
  | [], Γ, L, hB, I, h0, hj, h => by
    unfold loopB at hB
    rw [if_pos (hj 0 Γ h0)] at hB
    exact ⟨Γ, hB.symm, h0⟩
  | d :: ds, Γ, L, hB, I, h0, hj, h => by
    obtain ⟨u1, Γ1, e1, h1⟩ := sat_iff.mp (h 0 d Γ rfl h0)
    obtain ⟨fl, Γ2, e2, q1, q2⟩ := sat_iff.mp h1
    have e : loopB j xs gf p (d :: ds) Γ = loopB j xs gf p ds Γ2 := by
      show (if Γ[j]? = some (.b xs) then turnF gf p d (loopB j xs gf p ds) Γ else .no) = _
      rw [if_pos (hj 0 Γ h0)]
      unfold turnF
      rw [e1]
      show ((p Γ1).bind _) = _
      rw [e2]
      rcases q1 with rfl | rfl <;> rfl
    obtain ⟨Γ', h3, h4⟩ := loopB_of (ds := ds) (Γ := Γ2) (L := L) (by rw [← e, hB]) (fun i => I (i + 1)) q2 (fun i Γ hi => hj (i + 1) Γ hi) fun i d' Γ hd hi => h (i + 1) d' Γ (by simpa using hd) hi
    exact ⟨Γ', h3, h4⟩
noncomputable def forSs (sl : Option Sl) (j : Nat) (g : GF) (body : SF) (Γ : Ge) : Out Fl := match sl with
  | some (.d (.list xs)) => loopF g body xs Γ
  | some (.b xs) => loopB j xs g body xs Γ
  | _ => .no
@[simp] theorem forSF_eq {j : Nat} {g : GF} {p : SF} {Γ : Ge} : forSF j g p Γ = forSs Γ[j]? j g p Γ := id rfl
@[simp] theorem forSs_d {j : Nat} {g : GF} {p : SF} {xs : List D} {Γ : Ge} : forSs (some (.d (.list xs))) j g p Γ = loopF g p xs Γ := id rfl
@[simp] theorem forSs_b {j : Nat} {g : GF} {p : SF} {xs : List D} {Γ : Ge} : forSs (some (.b xs)) j g p Γ = loopB j xs g p xs Γ := id rfl
end
end Ly
set_option maxRecDepth 100000
/-! Lys: except C as e: what the suite reads of e. -/
namespace Ly
open PySem L2
abbrev XI := Xn → Option D
/-- an expression of the suite that reads of the exception alone -/
structure Itm (X : Cx) (i : Nat) (e : Expr) (f : XI) : Prop where
  run : ∀ (a : Addr) (oe : Obj) (pn : List (Addr × Obj)) (cls : Value) (d : Option Addr) (x : Xn) (y : D) (S : Sx) (H : Hp) (σ : L2.St) (Q : VK), Zc cls d oe → (∃ vs, oe.data = .fields vs) → σ[i]? = some (some (.ref a)) → XOk (kx X) X.mg S H x cls d → f x = some y →
    (∀ v, Dq (kx X) S v y → Q v H) → tW (X.suite a ((a, oe) :: pn)) e σ H Q
structure ItmA (X : Cx) (i : Nat) (es : List Expr) (f : Xn → Option (List D)) : Prop where
  run : ∀ (a : Addr) (oe : Obj) (pn : List (Addr × Obj)) (cls : Value) (d : Option Addr) (x : Xn) (ys : List D) (S : Sx) (H : Hp) (σ : L2.St) (Q : List V → Hp → Prop), Zc cls d oe → (∃ vs, oe.data = .fields vs) → σ[i]? = some (some (.ref a)) → XOk (kx X) X.mg S H x cls d → f x = some ys →
    (∀ vs, DqAll (kx X) S vs ys → Q vs H) → tWA (X.suite a ((a, oe) :: pn)) es σ H Q
structure HX (X : Cx) (i : Nat) (e : Expr) (f : Xn → Option O) : Prop where
  run : ∀ (a : Addr) (oe : Obj) (pn : List (Addr × Obj)) (cls : Value) (d : Option Addr) (x : Xn) (W : WX) (S : Sx) (H : Hp) (σ : L2.St) (Γ : Ge) (Q : VK), Zc cls d oe → (∃ vs, oe.data = .fields vs) → σ[i]? = some (some (.ref a)) → XOk (kx X) X.mg S H x cls d → EnvOk (kx X) S H σ Γ →
    EG (kx X) X.mg W S H σ Γ Q (outO Γ (f x)) → tW (X.suite a ((a, oe) :: pn)) e σ H Q
section
variable {X : Cx} {i : Nat}
theorem itm_int {n : Int} {j : Nat} {pos : Pos} : Itm X i (.Constant (.int n) j pos) (fun _ => some (.int n)) :=
  ⟨fun a oe pn cls d x y S H σ Q hz hf hi xo e q => by cases e; exact tW_of pe_int (q _ (.int n))⟩
theorem itm_str {n : Str} {j : Nat} {pos : Pos} : Itm X i (.Constant (.str n) j pos) (fun _ => some (.str n)) :=
  ⟨fun a oe pn cls d x y S H σ Q hz hf hi xo e q => by cases e; exact tW_of pe_str (q _ (.str n))⟩
theorem itm_bl {n : Bool} {j : Nat} {pos : Pos} : Itm X i (.Constant (.bool n) j pos) (fun _ => some (.bool n)) :=
  ⟨fun a oe pn cls d x y S H σ Q hz hf hi xo e q => by cases e; exact tW_of pe_bl (q _ (.bl n))⟩
/-- which classes isinstance says of -/
def isXI (tab : List (Str × Bool)) : XI := fun x => if x.fld.isNone then (tab.lookup x.cls).map .bool else none
def IsTab (K : PySem.W.Frag) (mg : Str → Option Value) (cv : Value) (tab : List (Str × Bool)) : Prop := ∀ n b, tab.lookup n = some b → ∃ C1, mg n = some (.ref C1) ∧ ExcC K C1 ∧ PySem.W.kitOne K (.ref C1) cv = some b
theorem istab_nil {K : PySem.W.Frag} {mg : Str → Option Value} {cv : Value} : IsTab K mg cv [] := fun n b h => by cases h
theorem istab_cons {K : PySem.W.Frag} {mg : Str → Option Value} {cv : Value} {C1 : Addr} {n : Str} {b : Bool} {tab : List (Str × Bool)} (h1 : mg n = some (.ref C1)) (h0 : ExcC K C1) (h2 : PySem.W.kitOne K (.ref C1) cv = some b) (h : IsTab K mg cv tab) : IsTab K mg cv ((n, b) :: tab) := fun m c e => by
  rw [List.lookup_cons] at e
  by_cases q : m = n
  · subst q
    simp only [beq_self_eq_true] at e
    cases e
    exact ⟨C1, h1, h0, h2⟩
  · have : (m == n) = false := by simpa using q
    rw [this] at e
    exact h m c e
theorem kit_ref {K : Kx} {C1 C2 : Addr} {b : Bool} (hc : PySem.W.isClsIn K C2 = true) (ht : PySem.W.typeIn K (.ref C2) = some (.type "type")) (hs : PySem.W.subIn K (.ref C1) (.ref C2) = some b) (hb : C1 = C2 → b = true) : PySem.W.kitOne K (.ref C1) (.ref C2) = some b := by
  unfold PySem.W.kitOne
  by_cases q : C1 = C2
  · subst q
    simp [hb rfl]
  · rw [if_neg (by simpa using q)]
    show (if ((PySem.W.clsIn K C2).isSome && PySem.W.typeIn K (.ref C2) == some (.type "type")) = true then PySem.W.subIn K (.ref C1) (.ref C2) else none) = some b
    have h2' : (PySem.W.clsIn K C2).isSome = true := hc
    rw [if_pos (by rw [h2', ht] <;> rfl)]
    exact hs
theorem kit_VE {K : Kx} {C1 : Addr} {b : Bool} (hs : PySem.W.subIn K (.ref C1) (.type "ValueError") = some b) : PySem.W.kitOne K (.ref C1) (.type "ValueError") = some b := by
  have hm : PySem.W.kitMeta "ValueError" = true := by decide +kernel
  unfold PySem.W.kitOne
  rw [if_neg (by simp)]
  show (if PySem.W.kitMeta "ValueError" = true then PySem.W.subIn K (.ref C1) (.type "ValueError") else none) = some b
  rw [if_pos hm]
  exact hs
theorem itm_isC {n : Str} {C2 : Addr} {np p2 p pos : Pos} {y : Str} {tab : List (Str × Bool)} (pn0 : ∀ {a : Addr} {oe : Obj} {pn : List (Addr × Obj)}, PE (X.suite a ((a, oe) :: pn)) (.Name n np) (tVar i)) (hg : Gl X "isinstance") (hm : X.mg "isinstance" = none) (hgy : Gl X y) (hmy : X.mg y = some (.ref C2)) (ht : IsTab X.K X.mg (.ref C2) tab)
    (hdy : (y == ("__debug__" : Str)) = false := by decide) (he : starEach [.Name n np, .Name y p2] X.env = (false, eval (.Name n np) X.env) :: starEach [.Name y p2] X.env := by rfl) (he2 : starEach [.Name y p2] X.env = (false, eval (.Name y p2) X.env) :: starEach [] X.env := by rfl) (hpl : (backTo pos (starEach [.Name y p2] X.env)).any (·.1) = false := by rfl)
    (hv : bootBuiltins "isinstance" = some (.builtin "isinstance") := by decide +kernel) : Itm X i (.Call (.Name "isinstance" p) [.Name n np, .Name y p2] [] pos) (isXI tab) := by
  refine ⟨fun a oe pn cls d x z S H σ Q hz hf hi xo e q => ?_⟩
  obtain ⟨C1, g1, rfl, hfld⟩ := id xo
  unfold isXI at e
  cases ef : x.fld with
  | some _ => rw [ef] at e; cases e
  | none =>
    rw [ef] at e hfld
    dsimp only at hfld
    subst hfld
    have e : (tab.lookup x.cls).map PyData.bool = some z := e
    cases el : tab.lookup x.cls with
    | none => rw [el] at e; cases e
    | some b =>
      rw [el] at e
      cases e
      obtain ⟨C1', g2, hC, hk⟩ := ht _ _ el
      rw [g1] at g2
      cases g2
      refine tW_of (pe_callB (call_isE hC hz hf) hg hm hv (pa_cons pn0 (pa_cons (pe_glob (v := .ref C2) hgy hmy rfl hdy) pa_nil he2) he) (hpl := hpl) (he := he)) ?_
      exact ⟨_, hi, _, _, _, rfl, fun u r => r, hk, q _ (.bl b)⟩
theorem itm_isV {n : Str} {np p2 p pos : Pos} {tab : List (Str × Bool)} (pn0 : ∀ {a : Addr} {oe : Obj} {pn : List (Addr × Obj)}, PE (X.suite a ((a, oe) :: pn)) (.Name n np) (tVar i)) (hg : Gl X "isinstance") (hm : X.mg "isinstance" = none) (hgy : Gl X "ValueError") (hmy : X.mg "ValueError" = none) (ht : IsTab X.K X.mg (.type "ValueError") tab)
    (he : starEach [.Name n np, .Name "ValueError" p2] X.env = (false, eval (.Name n np) X.env) :: starEach [.Name "ValueError" p2] X.env := by rfl) (he2 : starEach [.Name "ValueError" p2] X.env = (false, eval (.Name "ValueError" p2) X.env) :: starEach [] X.env := by rfl) (hpl : (backTo pos (starEach [.Name "ValueError" p2] X.env)).any (·.1) = false := by rfl)
    (hv : bootBuiltins "isinstance" = some (.builtin "isinstance") := by decide +kernel) (hv2 : bootBuiltins "ValueError" = some (.type "ValueError") := by decide +kernel) : Itm X i (.Call (.Name "isinstance" p) [.Name n np, .Name "ValueError" p2] [] pos) (isXI tab) := by
  refine ⟨fun a oe pn cls d x z S H σ Q hz hf hi xo e q => ?_⟩
  obtain ⟨C1, g1, rfl, hfld⟩ := id xo
  unfold isXI at e
  cases ef : x.fld with
  | some _ => rw [ef] at e; cases e
  | none =>
    rw [ef] at e hfld
    dsimp only at hfld
    subst hfld
    have e : (tab.lookup x.cls).map PyData.bool = some z := e
    cases el : tab.lookup x.cls with
    | none => rw [el] at e; cases e
    | some b =>
      rw [el] at e
      cases e
      obtain ⟨C1', g2, hC, hk⟩ := ht _ _ el
      rw [g1] at g2
      cases g2
      refine tW_of (pe_callB (call_isE hC hz hf) hg hm hv (pa_cons pn0 (pa_cons (pe_bltn (v := .ty "ValueError") hgy hmy hv2 rfl) pa_nil he2) he) (hpl := hpl) (he := he)) ?_
      exact ⟨_, hi, _, _, _, rfl, fun u r => r, hk, q _ (.bl b)⟩
/-- e.place -/
def fldXI (tab : List Str) : XI := fun x => if tab.contains x.cls then x.fld else none
def FldTab (K : PySem.W.Frag) (mg : Str → Option Value) (f : Str) (tab : List Str) : Prop := ∀ n, tab.contains n = true → ∃ C1, mg n = some (.ref C1) ∧ XfC K C1 ∧ PySem.W.findIn K (.ref C1) f = some none
theorem fldtab_nil {K : PySem.W.Frag} {mg : Str → Option Value} {f : Str} : FldTab K mg f [] := fun n h => by cases h
theorem fldtab_cons {K : PySem.W.Frag} {mg : Str → Option Value} {f n : Str} {C1 : Addr} {tab : List Str} (h1 : mg n = some (.ref C1)) (h2 : XfC K C1) (h3 : PySem.W.findIn K (.ref C1) f = some none) (h : FldTab K mg f tab) : FldTab K mg f (n :: tab) := fun m e => by
  rw [List.contains_cons, Bool.or_eq_true] at e
  rcases e with e | e
  · have e : m = n := by simpa using e
    subst e
    exact ⟨C1, h1, h2, h3⟩
  · exact h m e
theorem itm_fld {n : Str} {np pos : Pos} {tab : List Str} (pn0 : ∀ {a : Addr} {oe : Obj} {pn : List (Addr × Obj)}, PE (X.suite a ((a, oe) :: pn)) (.Name n np) (tVar i)) (ht : FldTab X.K X.mg "place" tab)
    (hb : attributeBase (.Name n np) "place" X.env (eval (.Name n np) X.env) = eval (.Name n np) X.env := by rfl) : Itm X i (.Attribute (.Name n np) "place" pos) (fldXI tab) := by
  refine ⟨fun a oe pn cls d x z S H σ Q hz hf hi xo e q => ?_⟩
  obtain ⟨C1, g1, rfl, hfld⟩ := id xo
  unfold fldXI at e
  by_cases ht2 : tab.contains x.cls = true
  · rw [if_pos ht2] at e
    rw [e] at hfld
    obtain ⟨dx, v, rfl, h1, h2⟩ := hfld
    obtain ⟨C1', g2, hC, hk⟩ := ht _ ht2
    rw [g1] at g2
    cases g2
    refine tW_of (pe_xf hC hk hz hf pn0 hb) ?_
    exact ⟨_, hi, rfl, rfl, dx, _, v, rfl, h1, by simp [List.lookup], q v h2⟩
  · rw [if_neg ht2] at e
    cases e
theorem itmA_nil : ItmA X i [] (fun _ => some []) :=
  ⟨fun a oe pn cls d x ys S H σ Q hz hf hi xo e q => by cases e; exact tWA_of pa_nil (q _ .nil)⟩
def consXI (f : XI) (g : Xn → Option (List D)) : Xn → Option (List D) := fun x => (f x).bind fun y => (g x).map (y :: ·)
theorem itmA_cons {e : Expr} {es : List Expr} {f : XI} {g : Xn → Option (List D)} (h : Itm X i e f) (hs : ItmA X i es g) (he : starEach (e :: es) X.env = (false, eval e X.env) :: starEach es X.env := by rfl) : ItmA X i (e :: es) (consXI f g) := by
  refine ⟨fun a oe pn cls d x ys S H σ Q hz hf hi xo eq q => ?_⟩
  unfold consXI at eq
  cases e1 : f x with
  | none => rw [e1] at eq; cases eq
  | some y =>
    rw [e1] at eq
    have eq : (g x).map (y :: ·) = some ys := eq
    cases e2 : g x with
    | none => rw [e2] at eq; cases eq
    | some zs =>
      rw [e2] at eq
      cases eq
      refine tWA_of (pa_cons (X := X.suite a ((a, oe) :: pn)) pe_w pa_w he) ?_
      exact h.run a oe pn cls d x y S H σ _ hz hf hi xo e1 fun v hv => hs.run a oe pn cls d x zs S H σ _ hz hf hi xo e2 fun vs hvs => q _ (.cons hv hvs)
def oneXI (f : XI) : Xn → Option O := fun x => (f x).map .d
def manyXI (o : List D → O) (f : Xn → Option (List D)) : Xn → Option O := fun x => (f x).bind fun ds => if ds.length ≤ 1000 then some (o ds) else none
theorem hx_one {e : Expr} {f : XI} (h : Itm X i e f) : HX X i e (oneXI f) := by
  refine ⟨fun a oe pn cls d x W S H σ Γ Q hz hf hi xo E G => ?_⟩
  unfold oneXI at G
  cases e1 : f x with
  | none => rw [e1] at G; exact G.elim
  | some y =>
    rw [e1] at G
    exact h.run a oe pn cls d x y S H σ Q hz hf hi xo e1 fun v hv => G S H v .refl E hv
theorem hx_tup {es : List Expr} {f : Xn → Option (List D)} {x1} {pos : Pos} (h : ItmA X i es f) : HX X i (.Tuple es x1 pos) (manyXI .t f) := by
  refine ⟨fun a oe pn cls d x W S H σ Γ Q hz hf hi xo E G => ?_⟩
  unfold manyXI at G
  cases e1 : f x with
  | none => rw [e1] at G; exact G.elim
  | some ds =>
    rw [e1] at G
    have G : EG (kx X) X.mg W S H σ Γ Q (outO Γ (if ds.length ≤ 1000 then some (.t ds) else none)) := G
    by_cases hl : ds.length ≤ 1000
    · rw [if_pos hl] at G
      refine tW_of (pe_tup pa_w) (h.run a oe pn cls d x ds S H σ _ hz hf hi xo e1 fun vs hvs => ⟨by rw [DqAll.length hvs]; exact mk_len hl, fun p hp => fin_of E G p vs hp hvs⟩)
    · rw [if_neg hl] at G
      exact G.elim
theorem hx_lst {es : List Expr} {f : Xn → Option (List D)} {pos : Pos} (h : ItmA X i es f) : HX X i (.List es pos) (manyXI .l f) := by
  refine ⟨fun a oe pn cls d x W S H σ Γ Q hz hf hi xo E G => ?_⟩
  unfold manyXI at G
  cases e1 : f x with
  | none => rw [e1] at G; exact G.elim
  | some ds =>
    rw [e1] at G
    have G : EG (kx X) X.mg W S H σ Γ Q (outO Γ (if ds.length ≤ 1000 then some (.l ds) else none)) := G
    by_cases hl : ds.length ≤ 1000
    · rw [if_pos hl] at G
      refine tW_of (pe_lst pa_w) (h.run a oe pn cls d x ds S H σ _ hz hf hi xo e1 fun vs hvs => ⟨by rw [DqAll.length hvs]; exact mk_len hl, fun p hp => fin_of E G p vs hp hvs⟩)
    · rw [if_neg hl] at G
      exact G.elim
end

theorem un_slot {K : Kx} {S : Sx} {H : Hp} {σ : L2.St} {Γ : Ge} {i : Nat} {sl : Sl} {v : Option V} (E : EnvOk K S H σ Γ) (hi : Γ[i]? = some sl) (hb : notB' sl = true) : Frm S H σ Γ (S.fput i []) H (σ.set i v) (Γ.set i .un) ∧ EnvOk K (S.fput i []) H (σ.set i v) (Γ.set i .un) :=
  ⟨Frm.refl.setSl hi hb fun b h => by simp at h, E.setSl (List.getElem?_eq_some_iff.mp hi).1 rfl fun b h => by simp at h⟩
def asK (i : Nat) (gf : GF) (f : Xn → Option O) (x : Xn) (Γ1 : Ge) : Out Fl := match Γ1[i]? with
  | none => .no
  | some (.b _) => .no
  | some (.p _) => .no
  | some _ => (outO (Γ1.set i .un) (f x)).bind fun r Γ2 => (gf r Γ2).bind fun _ Γ3 => match Γ3[i]? with
    | some .un => .ok .nx Γ3
    | _ => .no
def tryAsF (tab : List (Str × Bool)) (p : SF) (i : Nat) (gf : GF) (f : Xn → Option O) : SF := fun Γ => catchK tab (asK i gf f) (p Γ)
section
variable {X : Cx} {x m n : Str} {C : Addr} {i : Nat} {p p2 pos pos' pos2 np : Pos} {body : List Stmt} {P : SF} {tab : List (Str × Bool)} {tg e : Expr} {gf : GF} {f : Xn → Option O}
theorem psx_tryAs (hs : X.stack = X.env :: X.outer) (hf : X.env.frame = some X.env.locals) (hN : X.N.Nodup) (hi : X.N[i]? = some n) (hln : X.env.kindOf n = some .local) (hg : Gl X x) (hdb : (x == ("__debug__" : Str)) = false) (gC : X.mg x = some (.ref C)) (hT : TabOk X.K X.mg C tab)
    (pb : ∀ (pn : List (Addr × Obj)) (xe : Value → Shared → Prop), PassesOwn (model X.prog X.w) X.A X.env xe → PSsx (X.tr pn xe) body P)
    (he : HX X i e f) (pg : ∀ (a : Addr) (oe : Obj) (pn : List (Addr × Obj)), PGx (X.suite a ((a, oe) :: pn)) tg gf) (hx : NoEx gf)
    (hsw : swapsWithSole [tg] e pos2.line X.env = pure false := by rfl) (hw : swappedStores [tg] e X.env = pure none := by rfl) (h1 : (assignEach [tg] X.env).map (·.2) = [assign tg X.env] := by rfl) :
    PSx X (.Try body [.ExceptHandler (some (.Name x np)) (some n) [.Assign [tg] e pos2] pos'] [] [] pos) (tryAsF tab P i gf f) := by
  refine ⟨fun W tk S H σ Γ Z E G => tWS_of (ps_try_as (i := i) (tb := tTr X body) (ts := fun a cls d => fun Z σ H => ∀ (oe : Obj) (pn : List (Addr × Obj)), Zc cls d oe → (∃ vs, oe.data = .fields vs) → tWSs (X.suite a ((a, oe) :: pn)) [.Assign [tg] e pos2] Z σ H) (c := .ref C) hs hf hN hi hln ⟨hg, hdb, .inl gC⟩ tk
    (fun W' pn xe tk' hp => ⟨fun pins s σ H D I h => h pn xe tk' hp pins s I⟩) (fun a oe cls d pn hz hd => ⟨fun pins s σ H D I h => h oe pn hz hd pins s I⟩)) ?_⟩
  intro pn xe tk' hp
  refine (pb pn xe hp).run _ tk' S H σ Γ Z E ?_
  unfold tryAsF at G
  cases ep : P Γ with
  | no => rw [ep] at G; exact G.elim
  | ok fl Γ' => rw [ep] at G; exact sg_ok (W := W) G
  | ex xn Γ1 =>
    rw [ep] at G
    have G : SG (kx X) X.mg W S H σ Γ Z (match tab.lookup xn.cls with
      | some true => match asK i gf f xn Γ1 with
        | .ok fl Γ2 => .ok fl Γ2
        | _ => .no
      | some false => .ex xn Γ1
      | none => .no) := G
    intro S' H' σ' c d F' E' XO
    obtain ⟨C1, g1, rfl, hfld⟩ := id XO
    cases el : tab.lookup xn.cls with
    | none => rw [el] at G; exact G.elim
    | some b =>
      obtain ⟨C2, g2, hxm⟩ := hT _ _ el
      rw [g1] at g2
      cases g2
      rw [el] at G
      refine ⟨b, hxm, fun hb a ha oe pn' hz hd => ?_, fun hb => ?_⟩
      · subst hb
        dsimp only at G
        cases eq : asK i gf f xn Γ1 with
        | no => rw [eq] at G; exact G.elim
        | ex _ _ => rw [eq] at G; exact G.elim
        | ok fl Γ2 =>
          rw [eq] at G
          dsimp only at G
          unfold asK at eq
          cases q1 : Γ1[i]? with
          | none => rw [q1] at eq; cases eq
          | some sl =>
            rw [q1] at eq
            have nb : notB' sl = true := by
              cases sl <;> first | rfl | (cases eq; done)
            have eq : ((outO (Γ1.set i .un) (f xn)).bind fun r Γ2 => (gf r Γ2).bind fun _ Γ3 => match Γ3[i]? with
              | some .un => Out.ok Fl.nx Γ3
              | _ => .no) = .ok fl Γ2 := by
              cases sl with
              | b _ => cases eq
              | o _ => exact eq
              | p _ => cases eq
              | un => exact eq
              | d _ => exact eq
              | l _ => exact eq
            obtain ⟨F1, E1⟩ := un_slot (v := some (.ref a)) E' q1 nb
            have hia : (σ'.set i (some (.ref a)))[i]? = some (some (.ref a)) := by
              have : i < σ'.length := by
                rw [E'.len]
                exact (List.getElem?_eq_some_iff.mp q1).1
              simp [this]
            cases eo : outO (Γ1.set i .un) (f xn) with
            | no => rw [eo] at eq; cases eq
            | ex _ _ => rw [eo] at eq; cases eq
            | ok r Γo =>
              rw [eo] at eq
              have eq : ((gf r Γo).bind fun _ Γ3 => match Γ3[i]? with
                | some .un => Out.ok Fl.nx Γ3
                | _ => .no) = .ok fl Γ2 := eq
              cases eg : gf r Γo with
              | no => rw [eg] at eq; cases eq
              | ex _ _ => rw [eg] at eq; cases eq
              | ok u Γ3 =>
                rw [eg] at eq
                have eq : (match Γ3[i]? with
                  | some .un => Out.ok Fl.nx Γ3
                  | _ => .no) = .ok fl Γ2 := eq
                cases q3 : Γ3[i]? with
                | none => rw [q3] at eq; cases eq
                | some sl3 =>
                  rw [q3] at eq
                  cases sl3 with
                  | d _ => cases eq
                  | l _ => cases eq
                  | b _ => cases eq
                  | o _ => cases eq
                  | p _ => cases eq
                  | un =>
                    cases eq
                    have same : Γ2.set i .un = Γ2 := List.ext_getElem? fun j => by
                      by_cases ej : j = i
                      · rw [ej, getset_eq q3, q3]
                      · rw [getset_ne ej]
                    refine tWSs_of (pss_one (ps_asg (X := X.suite a ((a, oe) :: pn')) pe_w pg_w hsw hw (h1 := h1))) ?_
                    refine he.run a oe pn' (.ref C1) d xn (fun _ _ _ _ => False) (S'.fput i []) H' _ (Γ1.set i .un) _ hz hd hia (show XOk (kx X) X.mg (S'.fput i []) H' xn (.ref C1) d from XO) E1 ?_
                    rw [eo]
                    intro S2 H2 v F2 E2 R2
                    refine (pg a oe pn').run (fun _ _ _ _ => False) takes0 (S'.fput i []) H' _ (Γ1.set i .un) S2 H2 _ Γo v r _ F2 E2 R2 ?_
                    rw [eg]
                    intro S3 H3 σ3 F3 E3
                    obtain ⟨F4, E4⟩ := un_slot (v := none) E3 q3 rfl
                    rw [same] at F4 E4
                    exact G _ H3 (σ3.set i none) (F'.trans (F1.trans (F3.trans F4))) E4
      · subst hb
        exact G S' H' σ' (.ref C1) d F' E' ⟨C1, g1, rfl, hfld⟩
end

@[simp] theorem tryAsF_eq {tab : List (Str × Bool)} {p : SF} {i : Nat} {gf : GF} {f : Xn → Option O} {Γ : Ge} : tryAsF tab p i gf f Γ = catchK tab (asK i gf f) (p Γ) := id rfl
def asK4 (Γ : Ge) : Option Sl → Out Fl
  | some .un => .ok .nx Γ
  | _ => .no
@[simp] theorem asK4_un {Γ : Ge} : asK4 Γ (some .un) = .ok .nx Γ := id rfl
def asK3 (i : Nat) : Unit → Ge → Out Fl := fun _ Γ => asK4 Γ Γ[i]?
@[simp] theorem asK3_eq {i : Nat} {u : Unit} {Γ : Ge} : asK3 i u Γ = asK4 Γ Γ[i]? := id rfl
def asK2 (i : Nat) (gf : GF) : R → Ge → Out Fl := fun r Γ => (gf r Γ).bind (asK3 i)
@[simp] theorem asK2_eq {i : Nat} {gf : GF} {r : R} {Γ : Ge} : asK2 i gf r Γ = (gf r Γ).bind (asK3 i) := id rfl
def asK1 (i : Nat) (gf : GF) (f : Xn → Option O) (x : Xn) (Γ : Ge) : Option Sl → Out Fl
  | none => .no
  | some (.b _) => .no
  | some (.p _) => .no
  | some _ => (outO (Γ.set i .un) (f x)).bind (asK2 i gf)
theorem asK4_all {Γ : Ge} {o : Option Sl} : (match o with
    | some .un => Out.ok Fl.nx Γ
    | _ => .no) = asK4 Γ o := by
  unfold asK4
  cases o with
  | none => rfl
  | some sl => cases sl <;> rfl
@[simp] theorem asK_eq {i : Nat} {gf : GF} {f : Xn → Option O} {x : Xn} {Γ : Ge} : asK i gf f x Γ = asK1 i gf f x Γ Γ[i]? := by
  have e : ∀ (r : R) (Γ2 : Ge), ((gf r Γ2).bind fun _ Γ3 => match Γ3[i]? with
    | some .un => Out.ok Fl.nx Γ3
    | _ => .no) = asK2 i gf r Γ2 := fun r Γ2 => by
    unfold asK2 asK3
    cases gf r Γ2 with
    | ok u Γ3 => exact asK4_all
    | ex _ _ => rfl
    | no => rfl
  have e2 : (fun (r : R) (Γ2 : Ge) => ((gf r Γ2).bind fun _ Γ3 => match Γ3[i]? with
    | some .un => Out.ok Fl.nx Γ3
    | _ => .no)) = asK2 i gf := by
    funext r Γ2
    exact e r Γ2
  unfold asK asK1
  rw [e2]
@[simp] theorem asK1_un {i : Nat} {gf : GF} {f : Xn → Option O} {x : Xn} {Γ : Ge} : asK1 i gf f x Γ (some .un) = (outO (Γ.set i .un) (f x)).bind (asK2 i gf) := id rfl
@[simp] theorem asK1_d {i : Nat} {gf : GF} {f : Xn → Option O} {x : Xn} {Γ : Ge} {y : D} : asK1 i gf f x Γ (some (.d y)) = (outO (Γ.set i .un) (f x)).bind (asK2 i gf) := id rfl
@[simp] theorem asK1_l {i : Nat} {gf : GF} {f : Xn → Option O} {x : Xn} {Γ : Ge} {ys : List D} : asK1 i gf f x Γ (some (.l ys)) = (outO (Γ.set i .un) (f x)).bind (asK2 i gf) := id rfl
@[simp] theorem asK1_nb {i : Nat} {gf : GF} {f : Xn → Option O} {x : Xn} {Γ : Ge} {sl : Sl} (h : notB' sl = true) : asK1 i gf f x Γ (some sl) = (outO (Γ.set i .un) (f x)).bind (asK2 i gf) := by
  cases sl with
  | b _ => cases h
  | o _ => rfl
  | p _ => cases h
  | un => rfl
  | d _ => rfl
  | l _ => rfl
@[simp] theorem isXI_n {tab : List (Str × Bool)} {c : Str} : isXI tab ⟨c, none⟩ = (tab.lookup c).map .bool := id rfl
@[simp] theorem fldXI_eq {tab : List Str} {c : Str} {o : Option D} : fldXI tab ⟨c, o⟩ = if tab.contains c then o else none := id rfl
@[simp] theorem consXI_eq {f : XI} {g : Xn → Option (List D)} {x : Xn} : consXI f g x = (f x).bind fun y => (g x).map (y :: ·) := id rfl
@[simp] theorem oneXI_eq {f : XI} {x : Xn} : oneXI f x = (f x).map .d := id rfl
@[simp] theorem manyXI_eq {o : List D → O} {f : Xn → Option (List D)} {x : Xn} : manyXI o f x = (f x).bind fun ds => if ds.length ≤ 1000 then some (o ds) else none := id rfl
end Ly
set_option maxRecDepth 100000
/-! Lyt: comprehensions over the items of a list, by functions. -/
namespace Ly
open PySem L2
theorem lc_selN {α : Type} {gf : GF} {u : BF} {f : EF} {vs : List Nat} {Γw : Ge} {φ ψ : α → D} {P : α → Bool} : ∀ {xs : List α} {acc : List D} (_ : acc.length + xs.length ≤ 1000000)
    (_ : ∀ x ∈ xs, ∃ Γ1 Γ2 r, gf (.d (φ x)) Γw = .ok () Γ1 ∧ u Γ1 = .ok (P x) Γ1 ∧ (P x = true → f Γ1 = .ok r Γ2 ∧ r = .d (ψ x)) ∧ wipeG Γ1 vs = Γw ∧ (P x = true → wipeG Γ2 vs = Γw)), lcLoop gf u f vs (xs.map φ) acc Γw = .ok (acc ++ (xs.filter P).map ψ) Γw
  | [], acc, _, _ => by simp [lcLoop]
  | x :: xs, acc, hl, h => by
    obtain ⟨Γ1, Γ2, r, h1, h2, h3, h4, h5⟩ := h x (by simp)
    rw [List.length_cons] at hl
    rw [List.map_cons]
    unfold lcLoop
    rw [h1]
    dsimp only
    rw [h2]
    cases hp : P x with
    | false =>
      dsimp only
      rw [h4, lc_selN (by omega) fun y hy => h y (List.mem_cons_of_mem _ hy), List.filter_cons_of_neg (by simp [hp])]
    | true =>
      dsimp only
      obtain ⟨h3, rfl⟩ := h3 hp
      rw [h3]
      dsimp only
      rw [if_pos (by omega), h5 hp, lc_selN (by rw [List.length_append, List.length_singleton]; omega) fun y hy => h y (List.mem_cons_of_mem _ hy), List.filter_cons_of_pos hp]
      simp
theorem lc_fn {α : Type} {gf : GF} {u : BF} {f : EF} {vs : List Nat} {Γw : Ge} {φ ψ : α → D} {xs : List α} {acc : List D} (hl : acc.length + xs.length ≤ 1000000)
    (h : ∀ x ∈ xs, ∃ Γ1 Γ2, gf (.d (φ x)) Γw = .ok () Γ1 ∧ u Γ1 = .ok true Γ1 ∧ f Γ1 = .ok (.d (ψ x)) Γ2 ∧ wipeG Γ1 vs = Γw ∧ wipeG Γ2 vs = Γw) : lcLoop gf u f vs (xs.map φ) acc Γw = .ok (acc ++ xs.map ψ) Γw := by
  rw [lc_selN (P := fun _ => true) (ψ := ψ) hl (fun x hx => by
    obtain ⟨Γ1, Γ2, h1, h2, h3, h4, h5⟩ := h x hx
    exact ⟨Γ1, Γ2, _, h1, h2, fun _ => ⟨h3, rfl⟩, h4, fun _ => h5⟩), List.filter_eq_self.mpr fun _ _ => rfl]
/-- two clauses: lists of items, each by a function -/
theorem lc2_fn {α : Type} {gf g1 : GF} {u u1 : BF} {it1 : LF} {f : EF} {vs vs1 : List Nat} {φ : α → D} {ψ : α → List D} {Γw : Ge} : ∀ {xs : List α} {acc : List D}
    (_ : ∀ x ∈ xs, ∀ acc : List D, acc.length ≤ 100000 → ∃ Γ1 Γ2 ds1 Γ3 Γ4, gf (.d (φ x)) Γw = .ok () Γ1 ∧ u Γ1 = .ok true Γ2 ∧ it1 Γ2 = .ok ds1 Γ3 ∧ plainAt Γ3 vs1 = true ∧ lcLoop g1 u1 f vs1 ds1 acc (wipeG Γ3 vs1) = .ok (acc ++ ψ x) Γ4 ∧ wipeG Γ4 vs = Γw)
    (_ : acc.length + (xs.flatMap ψ).length ≤ 100000), lcLoop2 gf u it1 g1 u1 f vs vs1 (xs.map φ) acc Γw = .ok (acc ++ xs.flatMap ψ) Γw
  | [], acc, _, _ => by simp [lcLoop2]
  | x :: xs, acc, h, hl => by
    rw [List.flatMap_cons, List.length_append] at hl
    obtain ⟨Γ1, Γ2, ds1, Γ3, Γ4, h1, h2, h3, h4, h5, h6⟩ := h x (by simp) acc (by omega)
    rw [List.map_cons]
    unfold lcLoop2
    rw [h1]
    dsimp only
    rw [h2]
    dsimp only
    rw [h3]
    dsimp only
    rw [if_pos h4, h5]
    dsimp only
    rw [h6, lc2_fn (fun d hd => h d (List.mem_cons_of_mem _ hd)) (by rw [List.length_append]; omega)]
    simp
end Ly
set_option maxRecDepth 100000
/-! Lyu: a list, of whatever items, beside the empty list. -/
namespace Ly
open PySem L2
def rNil (K : Kx) (neg : Bool) : R2 := fun x y H Q => ∃ a b vs, x = .ref a ∧ y = .ref b ∧ Ls K H a vs ∧ Ls K H b [] ∧ Q (.bl (xor neg vs.isEmpty)) H
section
variable {X : Cx}
theorem nil_lists {pins : List (Addr × Obj)} {σ : L2.St} {H : Hp} {s : Shared} {a : Addr} {vs : List V} (I : Inv X pins σ H s) (h : Ls (kx X) H a vs) : ∃ its : Array Value, s.heap.IsList a its ∧ its.size = vs.length := by
  obtain ⟨_, its, n, h1, h2⟩ := h.obj I
  exact ⟨its.toArray, ⟨_, h2, rfl, n, rfl⟩, by simpa using h1.length.symm⟩
theorem op_eqNil (hu : X.A.units + 64 < cLine) : OpR X (compareOp .Eq) (rNil (kx X) false) := by
  intro pins s σ H x y v u Q I rx ry h
  obtain ⟨a, b, vs, rfl, rfl, h1, h2, q⟩ := h
  cases rx
  cases ry
  obtain ⟨i1, l1, s1⟩ := nil_lists I h1
  obtain ⟨i2, l2, s2⟩ := nil_lists I h2
  have hu' : X.A.units < cLine := by omega
  have s2 : i2.size = 0 := s2
  cases vs with
  | nil =>
    have s1 : i1.size = 0 := s1
    refine SeqAt.RcAt.lists (e := fun _ => true) l1 l2 (by omega) hu' (fun j j1 => absurd j1 (by omega)) _ _ _ _ ?_
    rw [s1]
    exact ⟨.bl _, H, I, rfl, q⟩
  | cons w vs =>
    have s1 : i1.size = vs.length + 1 := s1
    exact SeqAt.RcAt.lists_lengths l1 l2 (by simp; omega) hu' _ _ _ _ ⟨.bl _, H, I, rfl, q⟩
theorem op_neNil (hu : X.A.units + 64 < cLine) : OpR X (compareOp .NotEq) (rNil (kx X) true) := by
  intro pins s σ H x y v u Q I rx ry h
  obtain ⟨a, b, vs, rfl, rfl, h1, h2, q⟩ := h
  cases rx
  cases ry
  obtain ⟨i1, l1, s1⟩ := nil_lists I h1
  obtain ⟨i2, l2, s2⟩ := nil_lists I h2
  have hu' : X.A.units < cLine := by omega
  have s2 : i2.size = 0 := s2
  cases vs with
  | nil =>
    have s1 : i1.size = 0 := s1
    refine SeqAt.RcNeAt.lists (e := fun _ => true) l1 l2 (by omega) hu' (fun j j1 => absurd j1 (by omega)) _ _ _ _ ?_
    rw [s1]
    exact ⟨.bl _, H, I, rfl, q⟩
  | cons w vs =>
    have s1 : i1.size = vs.length + 1 := s1
    exact SeqAt.RcNeAt.lists_lengths l1 l2 (by simp; omega) hu' _ _ _ _ ⟨.bl _, H, I, rfl, q⟩
end
def eqNilD : D → D → Option O := fun x y => match x, y with
  | .list xs, .list [] => some (.d (.bool xs.isEmpty))
  | _, _ => none
def neNilD : D → D → Option O := fun x y => match x, y with
  | .list xs, .list [] => some (.d (.bool (!xs.isEmpty)))
  | _, _ => none
section
variable {K : Kx}
theorem opD_eqNil : OpD K (rNil K false) eqNilD := by
  intro S H x y d e o Q hS hx hy he q
  cases d <;> first
    | (cases he; done)
    | skip
  cases e <;> first
    | (cases he; done)
    | skip
  rename_i xs ys
  cases ys with
  | cons _ _ => cases he
  | nil =>
    cases he
    obtain ⟨a, vs, rfl, h1, h2⟩ := hx.list hS
    obtain ⟨b, ws, rfl, h3, h4⟩ := hy.list hS
    cases h4
    refine ⟨a, b, vs, rfl, rfl, h1, h3, ?_⟩
    have : vs.isEmpty = xs.isEmpty := by cases h2 <;> rfl
    rw [this]
    simpa using q _ (.bl _)
theorem opD_neNil : OpD K (rNil K true) neNilD := by
  intro S H x y d e o Q hS hx hy he q
  cases d <;> first
    | (cases he; done)
    | skip
  cases e <;> first
    | (cases he; done)
    | skip
  rename_i xs ys
  cases ys with
  | cons _ _ => cases he
  | nil =>
    cases he
    obtain ⟨a, vs, rfl, h1, h2⟩ := hx.list hS
    obtain ⟨b, ws, rfl, h3, h4⟩ := hy.list hS
    cases h4
    refine ⟨a, b, vs, rfl, rfl, h1, h3, ?_⟩
    have : vs.isEmpty = xs.isEmpty := by cases h2 <;> rfl
    rw [this]
    simpa using q _ (.bl _)
end
@[simp] theorem eqNilD_l {xs : List D} : eqNilD (.list xs) (.list []) = some (.d (.bool xs.isEmpty)) := id rfl
@[simp] theorem neNilD_l {xs : List D} : neNilD (.list xs) (.list []) = some (.d (.bool (!xs.isEmpty))) := id rfl
end Ly
set_option maxRecDepth 100000
set_option maxHeartbeats 2000000
/-! Lyv: an own error with a place: its __init__ says super().__init__(f"..{place}") and keeps the place. -/
namespace PySem
namespace BadX
open PySem.W PySem.Calls PyProof.Rows PySem.HandSPX
def iA (p1 p2 : Pos) : Arguments := { posonlyargs := [], args := [{ arg := "self", annotation := none, pos := p1 }, { arg := "place", annotation := none, pos := p2 }], vararg := none, kwonlyargs := [], kw_defaults := [], kwarg := none, defaults := [] }
structure Ps where
  (a b c d e f g h i j k l m n : Pos)
def iB (pre : Str) (P : Ps) : List Stmt := [.Expr (.Call (.Attribute (.Call (.Name "super" P.a) [] [] P.b) "__init__" P.c) [.JoinedStr [.Constant (.str pre) 0 P.d, .FormattedValue (.Name "place" P.e) (-1) none P.f] P.g] [] P.h) P.i,
  .Assign [.Attribute (.Name "self" P.j) "place" P.k] (.Name "place" P.l) P.m]
def iS : Scope := { kind := .function, names := [(PySem.Str.ofString "self", .local), (PySem.Str.ofString "place", .local), (PySem.Str.ofString "__class__", .free), (PySem.Str.ofString "super", .globalImplicit)], isGenerator := false, isCoroutine := false, more := [] }
/-- the call of the base's __init__ is a plain one (so at the positions of a text) -/
def PlainCall (pre : Str) (P : Ps) : Prop := ∀ env : Env, ∃ pl : Sem Bool, eval (.Call (.Attribute (.Call (.Name "super" P.a) [] [] P.b) "__init__" P.c) [.JoinedStr [.Constant (.str pre) 0 P.d, .FormattedValue (.Name "place" P.e) (-1) none P.f] P.g] [] P.h) env = (do
      let ov ← attributeBase (.Call (.Name "super" P.a) [] [] P.b) "__init__" env (eval (.Call (.Name "super" P.a) [] [] P.b) env)
      standAt P.c.atName
      let (f, first) ← holding [ov] (getMethod ov "__init__" pl)
      callWith P.h f first (backTo P.h (starEach [.JoinedStr [.Constant (.str pre) 0 P.d, .FormattedValue (.Name "place" P.e) (-1) none P.f] P.g] env)) [])
abbrev veTail : List Value := [.type "ValueError", .type "Exception", .type "BaseException", .type "object"]
/-- what the written part says of the class, at C, and of its __init__, at fI -/
structure BadTxt (prog : Program) (K : Frag) (mg : Str → Option Value) (x pre : Str) (C fI : Addr) : Prop where
  gC : mg x = some (.ref C)
  gS : mg "super" = none
  top : (prog.main.scope.names.lookup ("super" : Str)).isSome = false
  pz : pre.length ≤ 1000
  cls : ∃ nm q N bs bm sn sub ab col dd k0 k1 k2 k3 k5, K.lookup C = some (excClassObj nm q C N bs bm true sn sub ab col dd k0 k1 k2 k3 k5 "ValueError.__new__") ∧ refsVE bm = true
  sup : ks_superIn K C C "__init__" = some (some (.builtin "ValueError.__init__"))
  opq : nsIn K cStatics "thirdparty.any" = some none
  subV : subIn K (.ref C) (.type "ValueError") = some true
  subC : mroIn K C (.ref C) = some true
  sa : findIn K (.ref C) "__setattr__" = some (some (.builtin "object.__setattr__"))
  noN : findIn K (.ref C) "place" = some none
  iC : findIn K (.ref C) "__init__" = some (some (.ref fI))
  tC : typeIn K (.ref fI) = some (.type "function")
  kC : keepIn K (.ref C) = true
  exC : subIn K (.ref C) (.type "BaseException") = some true
  tyC : typeIn K (.ref C) = some (.type "type")
  fn : ∃ (qual : Str) (oc : Value) (od : Option Addr) (doc pm : Value) (an : Option Addr) (cda cc : Addr) (ct : Value) (osl : Array (Option Value)) (p1 p2 : Pos) (P : Ps) (ccl cl : Value) (cdd cld : Option Addr) (ccs csl : Array (Option Value)) (vs : Array Value) (file : Str) (tf : Tok),
    K.lookup fI = some ⟨oc, od, .func (ksFn "__init__" qual (iA p1 p2) (iB pre P) iS .none .none doc pm an (.ref cda) ct cc), osl⟩ ∧ codeIn K (.ref cda) qual = true ∧
    K.lookup cda = some ⟨ccl, cdd, .fields vs, ccs⟩ ∧ vs[2]? = some (.str file tf) ∧ ((prog.main.file : Str) == file) = true ∧ K.lookup cc = some ⟨cl, cld, .cell (some (.ref C)), csl⟩ ∧ PlainCall pre P
/-- what __init__ leaves of a fresh exception at x -/
structure InitEnd (h h' : Heap) (x C dx : Addr) (v : Value) : Prop where
  keep : ∀ b o, b ≠ x → h.get? b = some o → h'.get? b = some o
  obj : ∃ t1 : Addr, h'.get? x = some { cls := .ref C, dict := some dx, data := .fields #[.ref t1, .none, .none, .none, .bool false, .none] }
  dbig : h.objs.size ≤ dx
  dne : dx ≠ x
  ns : h'.Ns1 dx (fun y => if y = "place" then some v else none)
section
variable {prog : Program} {w : World} {A : Around} {E : Value → Shared → Prop} {R : Result → Shared → Prop} {s : Shared} {K : Frag} {mg : Str → Option Value} {C fI : Addr} {nx pre : Str}
/-- super().__init__(..) called: the args are laid anew -/
theorem call_mw {u x t0 : Addr} {rest : List Value} {nm q : Str} {N : Addr} {bs bm : List Value} {sn : List Str} {sub : List Value} {ab : Bool} {col : Option Bool} {dd : Option Addr} {k0 k1 k2 k3 k5 : Option Value} {h : Heap} {g : Array GenState} {d : Drawn} {t : Nat} {os : OsState} {Q : Value → Shared → Prop}
    (hC : h.get? C = some (excClassObj nm q C N bs bm true sn sub ab col dd k0 k1 k2 k3 k5 "ValueError.__new__")) (hu : h.get? u = some (kxs_mw "ValueError.__init__" x)) (he : h.get? x = some (excO C t0)) (hz : rest.length ≤ sizeLine)
    (hq : ∀ h' t1, (∀ b o, b ≠ x → h.get? b = some o → h'.get? b = some o) → h'.get? x = some (excO C t1) → Q .none ⟨h', g, d, t, os⟩) : wpAny (model prog w) A (call (.ref u) rest) Q E ⟨h, g, d, t, os⟩ := by
  refine wpAny_call (codeAny_of_tree ?_)
  show wpAny _ A.in1 (callAny (.ref u) ⟨rest, []⟩) _ _ _
  simp only [callAny]
  refine wpAny_bind (wpAny_load hu ?_)
  simp only [kxs_mw, show (Value.type "method-wrapper" == Value.type "method" || Value.type "method-wrapper" == Value.type "builtin_function_or_method" || Value.type "method-wrapper" == Value.type "method-wrapper") = true by decide, if_true]
  refine KFB.if_so (by decide) ?_
  refine wpAny_bind (check_bound_init F.excBase_ValueError.toExcCallFacts hC he rfl ?_)
  refine wpAny_bind (wpAny_pure (wpAny_pure ?_))
  refine ⟨plainId_quiet F.excBase_ValueError.init.plain _, codeAny_builtin F.excBase_ValueError.initEntry ?_⟩
  exact exc_init_tree (cls := .ref C) (t0 := t0) (dv := none) (c2 := .none) (c3 := .none) (b4 := .bool false) he hz fun h' k1 k2 _ => hq h' _ k1 k2
theorem bad_init (T : BadTxt prog K mg nx pre C fI) {x t0 : Addr} {i : Int} {ti : Tok} (hi : i.natAbs.log2 < 1920) (hz2 : (Str.empty ++ pre ++ Str.ofString (toString i)).length ≤ sizeLine) {mb : Str → Option Value} (X : K.In s.heap) (hgl : s.heap.Ns mainGlobals mg) (hbl : s.heap.Ns builtinsNs mb) (hb2 : ∀ x : Str, x ≠ "__name__" → mb x = bootBuiltins x)
    (hlim : s.heap.NoLimit) (hx : s.heap.get? x = some (excO C t0)) (hnx : K.lookup x = none) (hroom : A.depth < recursionLimit)
    (hq : ∀ h' tk dx, InitEnd s.heap h' x C dx (.int i ti) → R (.ok (.ret .none)) { s with heap := h', toks := tk }) :
    codeAny (model prog w) A (.call (.ref fI) ⟨[.ref x, .int i ti], []⟩) R s := by
  obtain ⟨qual, oc, od, doc, pm, an, cda, cc, ct, osl, p1, p2, P, ccl, cl, cdd, cld, ccs, csl, vs, file, tf, ho, hcd, hcode, hvs, hfile, hcell, hpc⟩ := T.fn
  obtain ⟨nm, q, N, bs, bm, sn, sub, ab, col, dd, k0, k1, k2, k3, k5, hC, hbm⟩ := T.cls
  have hcl : clsIn K C = some { name := nm, bases := bs, mro := .ref C :: bm, ns := N, qualname := q, hasDict := true, slotNames := sn, subclasses := sub, abstract := ab, collection := col, hasDel := false } := by unfold clsIn; rw [hC] <;> rfl
  have hxC : x ≠ C := fun z => by rw [z, hC] at hnx; cases hnx
  refine ks_codeAny_call_defAt (fd := ksFn "__init__" qual (iA p1 p2) (iB pre P) iS .none .none doc pm an (.ref cda) ct cc) (body := iB pre P) (binds := [("self", .ref x), ("place", .int i ti)]) hroom (X _ _ ho) rfl hlim (codeRec_of X hcd) rfl
    (BindsTo.of_eq (by first | rfl | with_unfolding_all rfl)) (by show ∀ x ∈ iS.names, x.2 ≠ .cell; decide) (by
      intro y hy
      simp only [List.mem_cons, List.not_mem_nil, or_false] at hy
      rcases hy with rfl | rfl <;> rfl) (fun h₁ hns hk₁ => ?_)
  have X₁ : K.In h₁ := X.keeps hk₁
  have hx₁ := hk₁ _ _ hx
  have hlL : s.heap.objs.size ≠ x := Nat.ne_of_gt (Heap.lt_size hx)
  obtain ⟨pl, hpl⟩ := hpc (callEnv (ksFn "__init__" qual (iA p1 p2) (iB pre P) iS .none .none doc pm an (.ref cda) ct cc) s.heap.objs.size fI)
  refine ks_wpAt_execs_cons (ks_wpAt_Expr_any (ks_wpAt_MethodCall ?_ hpl))
  refine ks_wpAt_super_base (f := fI) (cc := cda) (by rfl) (by rfl) (by decide) rfl (X₁ _ _ ho) rfl rfl rfl (X₁ _ _ hcode) rfl hvs hfile T.top ?_
  refine ks_loadName_global (by rfl) (by rfl) (loadGlobal_builtin (env := callEnv (ksFn "__init__" qual (iA p1 p2) (iB pre P) iS .none .none doc pm an (.ref cda) ct cc) s.heap.objs.size fI) (hgl.keeps hk₁) T.gS (hbl.keeps hk₁) ((hb2 _ (by decide)).trans (by decide +kernel : bootBuiltins "super" = some (.type "super"))) ⟨rfl, ?_⟩)
  refine wpAny_loadName_free (by rfl) (by rfl) rfl ⟨_, X₁ _ _ hcell, rfl⟩ ?_
  refine wpAny_loadName_local (by rfl) (by rfl) hns (by first | rfl | with_unfolding_all rfl | kernel_rfl) ?_
  refine ks_wpAny_isType_cls (X₁ _ _ hC) rfl ⟨rfl, ?_⟩
  refine ks_wpAny_call_super (X₁ _ _ hC) rfl hx₁ rfl (fun c e => by cases e) (looks_mroIn X₁ T.subC) (fun h₂ e₂ hk₂ => ?_)
  have X₂ : K.In h₂ := X₁.keeps hk₂
  have hx₂ := hk₂ _ _ hx₁
  have hsup : alongIn K "__init__" (((Value.ref C :: bm).dropWhile (· != .ref C)).drop 1) = some (some (.builtin "ValueError.__init__")) := by
    have := T.sup
    unfold ks_superIn at this
    rw [hcl] at this
    exact this
  have I₂ : PySem.W.InstAt h₂ x (excO C t0) C none := ⟨hx₂, rfl, rfl, trivial⟩
  refine kxs_getMethod kxs_ValueError e₂ (looks_opaque X₂ T.opq) (l₀ := .ref C :: bm) (fun A Q E s k q => wpAny_bind ((looks_clsIn X₂ hcl) A _ E s k (wpAny_pure q))) rfl X₂ hsup (I₂.type.andThen (looks_subIn X₂ T.subV)) hxC (by decide) ?_
  have hk₃ : ∀ b o, h₂.get? b = some o → (h₂.push (kxs_mw "ValueError.__init__" x)).get? b = some o := fun b o e => Heap.get?_push_of_some _ e
  have hu₃ : (h₂.push (kxs_mw "ValueError.__init__" x)).get? h₂.objs.size = some (kxs_mw "ValueError.__init__" x) := Heap.get?_push_at rfl rfl
  generalize h₂.push (kxs_mw "ValueError.__init__" x) = h₃ at hk₃ hu₃ ⊢
  have hns₃ := (hns.keeps hk₂).keeps hk₃
  rw [show starEach [Expr.JoinedStr [.Constant (.str pre) 0 P.d, .FormattedValue (.Name "place" P.e) (-1) none P.f] P.g] (callEnv (ksFn "__init__" qual (iA p1 p2) (iB pre P) iS .none .none doc pm an (.ref cda) ct cc) s.heap.objs.size fI) =
    (false, eval (Expr.JoinedStr [.Constant (.str pre) 0 P.d, .FormattedValue (.Name "place" P.e) (-1) none P.f] P.g) (callEnv (ksFn "__init__" qual (iA p1 p2) (iB pre P) iS .none .none doc pm an (.ref cda) ct cc) s.heap.objs.size fI)) :: starEach [] (callEnv (ksFn "__init__" qual (iA p1 p2) (iB pre P) iS .none .none doc pm an (.ref cda) ct cc) s.heap.objs.size fI) from rfl]
  refine kxs_callWith (i := "ValueError.__init__") (x := x) (by rfl) (evalArgs_plain ?_)
  show wpAny _ _ (spliced ((false, eval _ (callEnv (ksFn "__init__" qual (iA p1 p2) (iB pre P) iS .none .none doc pm an (.ref cda) ct cc) s.heap.objs.size fI)) :: backTo P.h (starEach [] (callEnv (ksFn "__init__" qual (iA p1 p2) (iB pre P) iS .none .none doc pm an (.ref cda) ct cc) s.heap.objs.size fI)))) _ _ _
  refine Calls.spliced_cons (wpAny_JoinedStr ?_)
  refine Calls.Constant_str ⟨_, _, rfl, ?_, ?_⟩
  · have e : (Str.empty ++ pre).length = pre.length := by
      rw [PySem.Str.length_append]
      show 0 + pre.length = _
      omega
    rw [e, sizeLine_eq]
    have := T.pz
    omega
  refine wpAny_FormattedValue_plain (wpAny_Name (wpAny_loadName_local (by rfl) (by rfl) hns₃ (v := .int i ti) (by first | rfl | with_unfolding_all rfl | kernel_rfl) ?_) (by decide))
  refine wpAny_formatField_int hi ⟨_, _, rfl, hz2, hz2, ?_⟩
  refine Calls.spliced_nil ⟨hu₃, ?_⟩
  have hC₃ := hk₃ _ _ (X₂ _ _ hC)
  refine call_mw hC₃ hu₃ (hk₃ _ _ hx₂) (by rw [sizeLine_eq]; exact (by decide : 1 ≤ 16777216)) (fun h₄ t1 k₄ hx₄ => ?_)
  have hk₁₂ : ∀ b o, s.heap.get? b = some o → h₃.get? b = some o := fun b o e => hk₃ _ _ (hk₂ _ _ (hk₁ b o e))
  have X₄ : K.In h₄ := fun b o e => k₄ b o (fun z => by rw [z, hnx] at e; cases e) (hk₃ _ _ (X₂ _ _ e))
  have hns₄ := hns₃
  obtain ⟨oL, es, ep, hL, hr⟩ := hns₄
  have hns₄ : h₄.Ns s.heap.objs.size _ := ⟨oL, es, ep, k₄ _ _ hlL hL, hr⟩
  show wpAt _ _ _ (execs _ _) _ _ _
  refine wpAt_of_wpAny ?_
  refine wpAny_execs_cons (plainObj_wpAny_Assign_Attribute ?_)
  refine wpAny_Name (wpAny_loadName_local (by rfl) (by rfl) hns₄ (v := .int i ti) (by first | rfl | with_unfolding_all rfl | kernel_rfl) ?_) (by decide)
  refine wpAny_Name (wpAny_loadName_local (by rfl) (by rfl) hns₄ (v := .ref x) (by first | rfl | with_unfolding_all rfl | kernel_rfl) ?_) (by decide)
  refine set_plain X₄ (ox := excO C t1) (od := none) ⟨hx₄, rfl, rfl, trivial⟩ T.sa ?_
  refine exc_osa X₄ hx₄ hcl (show refsVE (.ref C :: bm) = true from hbm) rfl T.noN (fun h₅ tk₅ dx k₅ dn dne hx₅ hn₅ => ?_)
  show wpAny _ _ (execs _ _) _ _ _
  have z : s.heap.objs.size < h₄.objs.size := hns₄.lt
  exact wpAny_execs_nil (hq h₅ tk₅ dx ⟨fun b o hb e => k₅ b o hb (k₄ b o hb (hk₁₂ b o e)), ⟨_, hx₅⟩, Nat.le_of_lt (Nat.lt_of_lt_of_le z dn), dne, hn₅⟩)
theorem one_size (v : Value) : [v].length ≤ sizeLine := by
  rw [sizeLine_eq]
  exact (by decide : 1 ≤ 16777216)
/-- a made one -/
structure OwnMade (h h' : Heap) (e C d : Addr) (v : Value) : Prop where
  keep : ∀ b o, h.get? b = some o → h'.get? b = some o
  new : h.objs.size ≤ e
  obj : ∃ oe vs, h'.get? e = some oe ∧ oe.cls = .ref C ∧ oe.dict = some d ∧ oe.data = .fields vs ∧ vs[1]? = some .none
  dbig : h.objs.size ≤ d
  dne : d ≠ e
  ns : h'.Ns1 d (fun y => if y = "place" then some v else none)
theorem bad_made (T : BadTxt prog K mg nx pre C fI) {i : Int} {ti : Tok} (hi : i.natAbs.log2 < 1920) (hz2 : (Str.empty ++ pre ++ Str.ofString (toString i)).length ≤ sizeLine) {mb : Str → Option Value} (X : K.In s.heap) (hgl : s.heap.Ns mainGlobals mg) (hbl : s.heap.Ns builtinsNs mb) (hb2 : ∀ x : Str, x ≠ "__name__" → mb x = bootBuiltins x)
    (hlim : s.heap.NoLimit) (hroom : A.depth + 1 < recursionLimit)
    (hq : ∀ h' tk e d, OwnMade s.heap h' e C d (.int i ti) → R (.ok (.ret (.ref e))) { s with heap := h', toks := tk }) :
    codeAny (model prog w) A (.call (.ref C) ⟨[.int i ti], []⟩) R s := by
  obtain ⟨nm, q, N, bs, bm, sn, sub, ab, col, dd, k0, k1, k2, k3, k5, hC, hbm⟩ := T.cls
  obtain ⟨hp, g, dr, tk, os⟩ := s
  have k : ∀ b o, hp.get? b = some o → ((hp.push (kdv_tup [.int i ti])).push (excO C hp.objs.size)).get? b = some o := fun b o e => Heap.get?_push_of_some _ (Heap.get?_push_of_some _ e)
  have hget : ((hp.push (kdv_tup [.int i ti])).push (excO C hp.objs.size)).get? (hp.objs.size + 1) = some (excO C hp.objs.size) := by heap_get
  have hnx : K.lookup (hp.objs.size + 1) = none := by
    cases e : K.lookup (hp.objs.size + 1) with
    | none => rfl
    | some o =>
      have z : hp.get? (hp.objs.size + 1) = some o := X _ _ e
      exact absurd (Nat.lt_of_succ_lt (Heap.lt_size z)) (Nat.lt_irrefl _)
  refine call_own F.excBase_ValueError (fun X => refsVE_contains X bm hbm) (X _ _ hC) (looks_findIn X T.iC) (fun self => bind_fn X self T.tC) (one_size _) ?_
  refine bad_init (s := ⟨(hp.push (kdv_tup [.int i ti])).push (excO C hp.objs.size), g, dr, tk, os⟩) T hi hz2 (X.keeps k) (hgl.keeps k) (hbl.keeps k) hb2 (hlim.keeps k) hget hnx ?_ fun h' tk' dx ⟨k', ⟨t1, hx⟩, dn, dne, hns⟩ => ?_
  · show A.depth + 1 < recursionLimit
    exact hroom
  · have old : ∀ b o, hp.get? b = some o → h'.get? b = some o := fun b o e => k' b o (Nat.ne_of_lt (Nat.lt_succ_of_lt (Heap.lt_size e))) (k b o e)
    have z : hp.objs.size + 1 + 1 ≤ dx := by
      first
        | (simpa only [Heap.size_push] using dn)
        | exact dn
        | (have q := dn; rw [Heap.size_push, Heap.size_push] at q; exact q)
    exact ⟨rfl, hq h' tk' (hp.objs.size + 1) dx ⟨old, Nat.le_succ _, ⟨_, _, hx, rfl, rfl, rfl, rfl⟩, Nat.le_trans (Nat.le_trans (Nat.le_succ _) (Nat.le_succ _)) z, dne, hns⟩⟩
end
end BadX
end PySem
namespace Ly
open PySem L2 PyProof.Rows
open PySem.BadX (BadTxt)
theorem relO_place {v : V} {v' : Value} (r : RelV v v') (f : Str) : RelO (List.lookup f [(("place" : Str), v)]) (if f = "place" then some v' else none) := by
  by_cases hw : f = "place"
  · subst hw
    rw [if_pos rfl]
    have q : List.lookup ("place" : Str) [(("place" : Str), v)] = some v := by simp [List.lookup]
    rw [q]
    exact r
  · rw [if_neg hw]
    have qw : (f == ("place" : Str)) = false := by simpa using hw
    have q2 : List.lookup f [(("place" : Str), v)] = none := by simp [List.lookup, qw]
    rw [q2]
    trivial
def placeOk (i : Int) : Bool := decide (-1 ≤ i) && decide (i ≤ 1000)
theorem place_text : ∀ k : Fin 1001, (Str.ofString (toString ((k.val : Int)))).length ≤ 10 := by decide +kernel
theorem place_ok {i : Int} (h : placeOk i = true) : i.natAbs.log2 < 1920 ∧ (Str.ofString (toString i)).length ≤ 10 := by
  unfold placeOk at h
  rw [Bool.and_eq_true, decide_eq_true_eq, decide_eq_true_eq] at h
  refine ⟨?_, ?_⟩
  · have : i.natAbs ≤ 1000 := by omega
    have h2 : i.natAbs.log2 ≤ i.natAbs := Nat.log2_le_self _
    omega
  · by_cases h1 : i = -1
    · subst h1
      decide +kernel
    · have := place_text ⟨i.toNat, by omega⟩
      rw [show ((i.toNat : Nat) : Int) = i by omega] at this
      exact this
section
variable {X : Cx} {C fI : Addr} {nx pre : Str}
def tMkP (C : Addr) (ta : TA) : L2.St → Hp → XK → Prop := fun σ H Q => ta σ H fun vs H1 => ∃ i : Int, vs = [.int i] ∧ placeOk i = true ∧ ∀ d, H1 d = none → Q (.ref C) (some d) (upd H1 d (.xd [(("place" : Str), .int i)]))
theorem pmk_place {a : Expr} {ta : TA} {p pos : Pos} {k : Nat} (T : BadTxt X.prog X.K X.mg nx pre C fI) (hr : Room k X.A) (ha : PA X [a] ta) (hg : Gl X nx) (hdb : (nx == ("__debug__" : Str)) = false)
    (he : starEach (a :: []) X.env = (false, eval a X.env) :: starEach [] X.env := by rfl) (hpl : (backTo pos (starEach [] X.env)).any (·.1) = false := by rfl) :
    PMk X (.Call (.Name nx p) [a] [] pos) (tMkP C ta) := by
  intro pins s σ H Q I h
  refine wpAny_Call_Name_kw (ld_glob I hg T.gC ?_ hdb)
  refine PySem.W.callWith_K (h₀ := X.base) I.ok.mod.kin T.kC (thn (ha.run pos pins s σ H _ I h) fun us s1 hh => ?_) he hpl
  obtain ⟨vs, H1, I1, r1, i, ev, hi, q1⟩ := hh
  subst ev
  refine ⟨I1.kIn, ?_⟩
  cases r1 with
  | cons rv rn =>
    rename_i v' us'
    cases rn
    obtain ⟨ti, rfl⟩ := id rv
    show wpAny _ _ (call (.ref C) [.int i ti]) _ _ _
    have hlim := I1.nolimit
    obtain ⟨mb, hb1, hb2⟩ := I1.mod.blt
    have hgl := I1.mod.glob.keeps I1.bk
    have hbl := hb1.keeps I1.bk
    obtain ⟨o1, o2⟩ := place_ok hi
    have hz2 : (Str.empty ++ pre ++ Str.ofString (toString i)).length ≤ sizeLine := by
      rw [Str.length_append, Str.empty_append, sizeLine_eq]
      have := T.pz
      omega
    obtain ⟨hp, g, dr, tk, os⟩ := s1
    refine wpAny_call (PySem.BadX.bad_made T o1 hz2 I1.kIn hgl hbl hb2 hlim (by have := hr.dp; omega) fun h' tk' e d M => ?_)
    show MkP X pins σ Q (.ref e) ⟨h', g, dr, tk', os⟩
    obtain ⟨oe, fv, hoe, hc, hd, hdat, h1⟩ := M.obj
    have hns := M.ns
    obtain ⟨G', g1, g2⟩ := restrict h' fun b => decide (b ≠ e)
    have gk : ∀ b, b ≠ e → G'.get? b = h'.get? b := fun b hb => g1 b (decide_eq_true hb)
    have ge : G'.get? e = none := g2 e (by simp)
    have old : ∀ b o, hp.get? b = some o → G'.get? b = some o := fun b o q => (gk b (Nat.ne_of_lt (Nat.lt_of_lt_of_le (Heap.lt_size q) M.new))).trans (M.keep b o q)
    have ob : ObjOk X.prog X.w (upd H1 d (.xd [(("place" : Str), .int i)])) G' d (.xd [(("place" : Str), .int i)]) :=
      ⟨_, hns.at (fun o q => (gk d M.dne).trans q), fun f => relO_place rv f⟩
    have J : Inv X pins σ (upd H1 d (.xd [(("place" : Str), .int i)])) ⟨G', g, dr, tk', os⟩ := I1.laid (t' := tk') old M.dbig ob
    refine ⟨e, oe, fv, ⟨G', g, dr, tk', os⟩, _, .ref C, some d, rfl, J, fun b o q => ?_, ge, hoe, ⟨hc, hd⟩, hdat, h1, ?_, rfl, I1.bare, raises_own T.exC T.tyC, q1 d (I1.hok.fresh M.dbig)⟩
    · by_cases hb : b = e
      · have q' : G'.get? b = some o := q
        rw [hb, ge] at q'; cases q'
      · exact (gk b hb).symm.trans q
    · rw [upd_ne (Ne.symm M.dne)]
      exact I1.hok.fresh M.new
/-- raise C(e) -/
def raiseK (x : Str) : R → Ge → Out Fl := fun r Γ => match r with
  | .d (.int i) => if placeOk i = true then .ex ⟨x, some (.int i)⟩ Γ else .no
  | _ => .no
def raisePF (x : Str) (f : EF) : SF := fun Γ => (f Γ).bind (raiseK x)
theorem psx_raiseP {a : Expr} {f : EF} {p pos pos' : Pos} {k : Nat} (hc : X.calm = true) (T : BadTxt X.prog X.K X.mg nx pre C fI) (hr : Room k X.A) (pe : PX X a f) (hg : Gl X nx) (hdb : (nx == ("__debug__" : Str)) = false := by decide)
    (he : starEach (a :: []) X.env = (false, eval a X.env) :: starEach [] X.env := by rfl) (hpl : (backTo pos (starEach [] X.env)).any (·.1) = false := by rfl) :
    PSx X (.Raise (some (.Call (.Name nx p) [a] [] pos)) none pos') (raisePF nx f) := by
  refine ⟨fun W tk S H σ Γ Z E G => tWS_of (ps_raise hc tk (pmk_place T hr (pa_cons pe_w pa_nil he) hg hdb he hpl)) ?_⟩
  refine tW_mono (pe.run W tk S H σ Γ _ E (SG.bind G)) fun v H1 ⟨S1, r, Γ1, e1, F1, E1, R1, G1⟩ => ?_
  unfold raiseK at G1
  cases r with
  | l _ => exact G1.elim
  | s _ => exact G1.elim
  | o _ => exact G1.elim
  | d y =>
    cases y <;> first
      | exact G1.elim
      | skip
    rename_i i
    dsimp only at G1
    by_cases hi : placeOk i = true
    · rw [if_pos hi] at G1
      cases R1
      exact ⟨i, rfl, hi, fun d hd => G1 S1 _ σ _ _ (F1.trans (.push E1 hd _)) (E1.push hd _) ⟨C, T.gC, rfl, d, _, rfl, upd_same, .int i⟩⟩
    · rw [if_neg hi] at G1
      exact G1.elim
end
@[simp] theorem raisePF_eq {x : Str} {f : EF} {Γ : Ge} : raisePF x f Γ = (f Γ).bind (raiseK x) := id rfl
@[simp] theorem raiseK_d {x : Str} {i : Int} {Γ : Ge} : raiseK x (.d (.int i)) Γ = if placeOk i = true then .ex ⟨x, some (.int i)⟩ Γ else .no := id rfl
end Ly
set_option maxRecDepth 100000
set_option maxHeartbeats 2000000
/-! Lyw: a tuple times one is itself. -/
namespace Ly
open PySem L2 PyProof.Rows
theorem tuple_mul1 (l : Addr) (items : Array Value) (n : Nat) (dd : Option Addr) (sl : Array (Option Value)) (u : Tok) :
    Meets (Builtin.«tuple.__mul__» ⟨[.ref l, .int 1 u], []⟩) (fun _ R s => s.heap.get? l = some { cls := .type "tuple", dict := dd, data := .seq items n, slots := sl } ∧ R (.ok (.ret (Value.ref l))) s) :=
  .of_wp fun prog w A R s h => by
    obtain ⟨hp, g, d, tk, os⟩ := s
    obtain ⟨hl, h⟩ := h
    have f1 := AutoSeq1.idx_int
    wp_walk using wpAny_loadPart' hl
    exact ⟨_, rfl, h⟩
def rRepT1 (K : Kx) : R2 := fun x y H Q => ∃ l xs, x = .ref l ∧ y = .int 1 ∧ SqT K H l xs ∧ Q (.ref l) H
section
variable {X : Cx}
theorem op_repT1 : OpR X (binaryOp .Mult) (rRepT1 (kx X)) := by
  intro pins s σ H x y v u Q I rx ry h
  obtain ⟨l, xs, rfl, rfl, hT, q⟩ := h
  cases rx
  obtain ⟨t, rfl⟩ := ry
  obtain ⟨its, r, ⟨⟨cls, dd, data, sl⟩, ho, hc, n, hd⟩, hs⟩ := I.tuple hT
  simp only at hc hd
  subst hc hd
  exact wpAny_binaryOp_repeat_ref (T := "tuple") (U := "int") (by decide) ⟨_, ho, rfl⟩ (fun s' => typeIs_int s' 1 t) noFill_tuple_mul F.fills_int_mul F.slot_int_rmul repeat_tuple F.slot_int_index.lookup
    (call_meets F.slot_int_rmul (typeIs_int s 1 t) F.entry_int_rmul (F.args_int_rmul_2 _ _) (int_rmul_tuple 1 t l its.toArray n dd sl)
      ⟨ho, rfl, ⟨_, ho, rfl⟩, call_meets F.slot_tuple_mul ⟨_, ho, rfl⟩ F.entry_tuple_mul (F.args_tuple_mul_2 _ _) (tuple_mul1 l its.toArray n dd sl t) ⟨ho, ⟨.ref l, H, I, rfl, q⟩⟩⟩)
def rMulB (K : Kx) : R2 := fun x y H Q => rRepT1 K x y H Q ∨ rMulA K x y H Q
theorem op_mulB : OpR X (binaryOp .Mult) (rMulB (kx X)) := by
  intro pins s σ H x y v u Q I rx ry h
  rcases h with h | h
  · exact op_repT1 pins s σ H x y v u Q I rx ry h
  · exact op_mulA pins s σ H x y v u Q I rx ry h
end
def isOne : D → D → Bool
  | .tuple _, .int 1 => true
  | _, _ => false
def mulB : D → D → Option O := fun x y => if isOne x y = true then some (.d x) else mulA x y
theorem opD_mulB {K : Kx} : OpD K (rMulB K) mulB := by
  intro S H x y d e o Q hS hx hy he q
  unfold mulB at he
  by_cases h1 : isOne d e = true
  · rw [if_pos h1] at he
    cases he
    cases d <;> first
      | (cases h1; done)
      | skip
    rename_i xs
    have hy1 : e = .int 1 := by
      cases e <;> first
        | (cases h1; done)
        | skip
      rename_i k
      by_cases hk : k = 1
      · rw [hk]
      · exfalso
        unfold isOne at h1
        split at h1
        · rename_i e1
          injection e1 with e1
          exact hk e1
        · cases h1
    subst hy1
    obtain ⟨a, vs, rfl, h2, h3⟩ := hx.tup hS
    have hd : Dq K S (.ref a) (.tuple xs) := by
      rcases hx with h | ⟨_, _, _, _, q, _⟩ | ⟨_, _, _, _, q, _⟩ | ⟨_, _, _, _, q, _⟩
      · exact h
      all_goals cases q
    exact .inl ⟨a, vs, rfl, hy.int, h2, q _ hd⟩
  · rw [if_neg h1] at he
    exact .inr (opD_mulA S H x y d e o Q hS hx hy he q)
@[simp] theorem mulB_1 {xs : List D} : mulB (.tuple xs) (.int 1) = some (.d (.tuple xs)) := id rfl
theorem mulB_n {xs : List D} {k : Int} (h : k ≠ 1) : mulB (.tuple xs) (.int k) = mulA (.tuple xs) (.int k) := by
  unfold mulB
  rw [if_neg]
  intro h1
  unfold isOne at h1
  split at h1
  · rename_i e1
    injection e1 with e1
    exact h e1
  · cases h1
end Ly
set_option maxRecDepth 100000
set_option maxHeartbeats 2000000
/-! Lyx: a list, of one's own or not, again and again. -/
namespace Ly
open PySem L2 PyProof.Rows
def rRepL (K : Kx) : R2 := fun x y H Q => ∃ l k xs, x = .ref l ∧ y = .int k ∧ Ls K H l xs ∧ -(2 ^ 63) ≤ k ∧ k < 2 ^ 63 ∧ xs.length * k.toNat ≤ sizeLine ∧
  ∀ p, H p = none → Q (.ref p) (upd H p (.lst (List.replicate k.toNat xs).flatten))
section
variable {X : Cx}
theorem op_repL : OpR X (binaryOp .Mult) (rRepL (kx X)) := by
  intro pins s σ H x y v u Q I rx ry h
  obtain ⟨l, k, xs, rfl, rfl, hH, h1, h2, hz, q⟩ := h
  cases rx
  obtain ⟨t, rfl⟩ := ry
  obtain ⟨z, its, n, r, e⟩ := hH.obj I
  have hl : xs.length = its.length := r.length
  have hlen : its.toArray.size * k.toNat ≤ sizeLine := by rw [List.size_toArray, ← hl]; exact hz
  have hcap : ¬ its.toArray.size * k.toNat > (2 ^ 63 - 1) / 8 := by
    have : (sizeLine : Nat) ≤ (2 ^ 63 - 1) / 8 := by decide
    omega
  have hfit : ¬ (!Builtin.List.listFitsIndex k) = true := by
    rw [fitsIndex_both h1 h2]
    exact Bool.false_ne_true
  have hlong : ¬ Builtin.List.listTooLong (its.toArray.size * k.toNat) = true := by
    rw [notLongL hlen]
    exact Bool.false_ne_true
  have hnew : List.foldl (fun x1 x2 => x1 ++ x2) #[] (List.replicate (if its.toArray.isEmpty = true then 0 else k.toNat) its.toArray) = (List.replicate k.toNat its).flatten.toArray := by
    have f0 : ∀ m : Nat, List.foldl (fun x1 x2 => x1 ++ x2) #[] (List.replicate m its.toArray) = (List.replicate m its).flatten.toArray := fun m => by
      have := foldl_rep its m []
      rw [List.nil_append] at this
      exact this
    rw [f0]
    cases its with
    | nil => simp
    | cons a r' => rw [if_neg (by simp)]
  refine wpAny_binaryOp_repeat_ref (T := "list") (U := "int") (by decide) ⟨_, e, rfl⟩ (fun s' => typeIs_int s' k t) noFill_list_mul F.fills_int_mul F.slot_int_rmul repeat_list F.slot_int_index.lookup
    (call_meets F.slot_int_rmul (typeIs_int s k t) F.entry_int_rmul (F.args_int_rmul_2 _ _) (int___rmul___int_list k t l its.toArray n)
      ⟨e, rfl, ⟨_, e, rfl⟩, call_meets F.slot_list_mul ⟨_, e, rfl⟩ F.entry_list_mul (F.args_list_mul_2 _ _) (AutoListH.list___mul___list_int_3 l its.toArray n k t hfit hcap hlong) ⟨e, ?_⟩⟩)
  rw [hnew]
  exact ⟨.ref _, _, I.lnew (t' := s.toks) (r.rep k.toNat) (by rw [PyProof.Rows.lm_len_rep_flat, Nat.mul_comm]; exact hz), rfl, q _ I.fresh⟩
end
def timesD : D → D → Option O := fun x y => match x, y with
  | .list xs, .int k => if 0 ≤ k ∧ k ≤ 1000 ∧ xs.length ≤ 1000 then some (.l (timesL k.toNat xs)) else none
  | _, _ => none
theorem opD_repL {K : Kx} : OpD K (rRepL K) timesD := by
  intro S H x y d e o Q hS hx hy he q
  cases d <;> first
    | (cases he; done)
    | skip
  cases e <;> first
    | (cases he; done)
    | skip
  rename_i xs k
  have he : (if 0 ≤ k ∧ k ≤ 1000 ∧ xs.length ≤ 1000 then some (O.l (timesL k.toNat xs)) else none) = some o := he
  by_cases hc : 0 ≤ k ∧ k ≤ 1000 ∧ xs.length ≤ 1000
  rotate_left
  · rw [if_neg hc] at he
    cases he
  rw [if_pos hc] at he
  cases he
  obtain ⟨l, vs, rfl, h1, h2⟩ := hx.list hS
  have hz : vs.length * k.toNat ≤ sizeLine := by
    rw [DqAll.length h2]
    have h3 : k.toNat ≤ 1000 := by omega
    have h4 := Nat.mul_le_mul hc.2.2 h3
    have h6 : (1000 * 1000 : Nat) ≤ sizeLine := by rw [sizeLine_eq]; decide
    exact Nat.le_trans h4 h6
  exact ⟨l, k, vs, rfl, hy.int, h1, by omega, by omega, hz, fun p hp => q p _ hp (DqAll.rep h2 _)⟩
@[simp] theorem timesD_l {xs : List D} {k : Int} : timesD (.list xs) (.int k) = if 0 ≤ k ∧ k ≤ 1000 ∧ xs.length ≤ 1000 then some (.l (timesL k.toNat xs)) else none := id rfl
end Ly
set_option maxRecDepth 100000
/-! defs with defaults and keyword-only parameters; calls with keywords -/
namespace Ly
open PySem L2

theorem ROkAll.append {K : Kx} {S : Sx} {H0 H : Hp} {σ : L2.St} : ∀ {vs ws : List V} {rs qs : List R}, ROkAll K σ S0 H0 S H vs rs → ROkAll K σ S0 H0 S H ws qs → ROkAll K σ S0 H0 S H (vs ++ ws) (rs ++ qs)
  | [], _, [], _, _, h => h
  | _ :: _, _, _ :: _, _, h, q => ⟨h.1, ROkAll.append h.2 q⟩
  | [], _, _ :: _, _, h, _ => h.elim
  | _ :: _, _, [], _, h, _ => h.elim
theorem ROkAll.ofD {K : Kx} {S : Sx} {H0 H : Hp} {σ : L2.St} : ∀ {vs : List V} {ds : List D}, DqAll K S vs ds → ROkAll K σ S0 H0 S H vs (ds.map R.d)
  | _, _, .nil => trivial
  | _, _, .cons h t => ⟨h, ROkAll.ofD t⟩
/-- what stands at the told places, in this order -/
def permL {α : Type} : List Nat → List α → List α
  | [], _ => []
  | i :: is, xs => match xs[i]? with
    | some x => x :: permL is xs
    | none => permL is xs
theorem ROkAll.perm {K : Kx} {S : Sx} {H0 H : Hp} {σ : L2.St} {vs : List V} {rs : List R} (h : ROkAll K σ S0 H0 S H vs rs) : ∀ ix : List Nat, ROkAll K σ S0 H0 S H (permL ix vs) (permL ix rs)
  | [] => trivial
  | i :: is => by
    unfold permL
    cases e : rs[i]? with
    | none =>
      have : vs[i]? = none := by
        rw [List.getElem?_eq_none_iff] at e ⊢
        rw [ROkAll.len h]
        exact e
      rw [this]
      exact ROkAll.perm h is
    | some r =>
      obtain ⟨v, h1, h2⟩ := ROkAll.get h e
      rw [h1]
      exact ⟨h2, ROkAll.perm h is⟩
theorem vals_perm {vs : List V} {us : List Value} (h : Vals vs us) : ∀ ix : List Nat, Vals (permL ix vs) (permL ix us)
  | [] => .nil
  | i :: is => by
    unfold permL
    cases e : vs[i]? with
    | none =>
      rw [Vals.none_of h e]
      exact vals_perm h is
    | some v =>
      obtain ⟨u, h1, h2⟩ := Vals.get h e
      rw [h1]
      exact .cons h2 (vals_perm h is)

/-- how a call of n written arguments and the keywords ks binds: behind them stand the defaults ds; ix puts all of it into the parameters' order -/
def BindsP (K : PySem.W.Frag) (fd : FuncData) (ps : List Str) (n : Nat) (ks : List Str) (ix : List Nat) (ds : List D) : Prop :=
  ∃ (dvs : List V) (dus : List Value), Vals dvs dus ∧ (∀ (Kk : Kx) (S : Hp), Kk.fr = K → DqAll Kk S dvs ds) ∧ ∀ (s : Shared) (us ws : List Value), K.In s.heap → us.length = n → ws.length = ks.length → BindsTo s fd ⟨us, ks.zip ws⟩ (ps.zip (permL ix (us ++ (ws ++ dus))))

/-! ### keywords -/
def tWK (X : Cx) (kws : List Keyword) : TA := fun σ H Q => ∀ (pos : Pos) pins s, Inv X pins σ H s → wpAny (model X.prog X.w) X.A (evalAll ((backToKw pos (keywordEach kws X.env)).map (·.2))) (AP X pins σ Q) X.xe s
section
variable {X : Cx} {kws : List Keyword} {e : Expr} {f : EF} {t : Ge → Out (List R)} {nm : Option Str} {kpos : Pos}
theorem pk_w : PK X kws (tWK X kws) := ⟨fun pos pins s _ _ _ I h => h pos pins s I⟩
theorem tWK_of {t : TA} (h : PK X kws t) {σ : L2.St} {H : Hp} {Q : List V → Hp → Prop} (q : t σ H Q) : tWK X kws σ H Q := fun pos pins s I => h.run pos pins s σ H Q I q
theorem tWK_mono {σ : L2.St} {H : Hp} {Q Q' : List V → Hp → Prop} (h : tWK X kws σ H Q) (m : ∀ v H', Q v H' → Q' v H') : tWK X kws σ H Q' := fun pos pins s I =>
  thn (h pos pins s I) fun _ _ ⟨v, H', I', r, q⟩ => ⟨v, H', I', r, m v H' q⟩
structure PKx (X : Cx) (kws : List Keyword) (f : Ge → Out (List R)) : Prop where
  run : ∀ (W : WX), Takes X W → ∀ (S : Sx) (H : Hp) (σ : L2.St) (Γ : Ge) (Q : List V → Hp → Prop), EnvOk (kx X) S H σ Γ → AG (kx X) X.mg W S H σ Γ Q (f Γ) → tWK X kws σ H Q
theorem pkx_nil : PKx X [] argN := ⟨fun W tk S H σ Γ Q E G => tWK_of pk_nil (G S H [] .refl E trivial)⟩
theorem pkx_cons (pa : PX X e f) (pt : PKx X kws t) : PKx X (⟨nm, e, kpos⟩ :: kws) (argC f t) := by
  refine ⟨fun W tk S H σ Γ Q E G => tWK_of (pk_cons pe_w pk_w) ?_⟩
  refine tW_mono (pa.run W tk S H σ Γ _ E (OG.bind G)) fun x H1 ⟨S1, r1, Γ1, e1, F1, E1, R1, G1⟩ => ?_
  refine tWK_mono (pt.run W tk S1 H1 σ Γ1 _ E1 (OG.bind (OG.shift F1 (fun _ _ _ _ _ _ z => z) G1))) fun y H2 ⟨S2, r2, Γ2, e2, F2, E2, R2, _⟩ => ?_
  rw [e2] at G1
  exact G1 S2 H2 (x :: y) (F1.trans F2) E2 ⟨R1.on F2, R2.back F1⟩
end

def callPM (M : FM) (ix : List Nat) (ds : List D) (rs zs : List R) (Γ : Ge) : Out R := callM M (permL ix (rs ++ (zs ++ ds.map R.d))) Γ
def callPF (M : FM) (ix : List Nat) (ds : List D) (t tk : Ge → Out (List R)) : EF := fun Γ => (t Γ).bind fun rs Γ1 => (tk Γ1).bind fun zs Γ2 => callPM M ix ds rs zs Γ2
section
variable {X : Cx} {k n m : Nat} {f : Addr} {fd : FuncData} {ps ks : List Str} {M : FM} {x : Str} {p pos : Pos} {e : Expr} {es : List Expr} {kws : List Keyword} {t tk : Ge → Out (List R)} {ix : List Nat} {ds : List D}
theorem permL_len {α : Type} {xs : List α} : ∀ {ix : List Nat}, (∀ i ∈ ix, i < xs.length) → (permL ix xs).length = ix.length
  | [], _ => rfl
  | i :: is, h => by
    have hi := h i List.mem_cons_self
    unfold permL
    rw [List.getElem?_eq_getElem hi]
    show (_ :: permL is xs).length = _
    rw [List.length_cons, permL_len fun j hj => h j (List.mem_cons_of_mem _ hj)]
    rfl
theorem run_fnP {E : L2.St → XK} {sp : Sp} {pins : List (Addr × Obj)} {σ : L2.St} {H : Hp} {s : Shared} {Q : VK} {args : Args} {us : List Value} {vs : List V} (F : FnOk X.prog X.w X.K X.mg X.base (L2.CX X.prog X.w) k f fd ps sp) (hr : Room k X.A) (hb : BindsTo s fd args (ps.zip us)) (hx : PassesAt (L2.CX X.prog X.w) X σ (E σ))
    (I : Inv X pins σ H s) (r : Vals vs us) (h : sp vs H Q (E σ)) : wpAny (model X.prog X.w) X.A (call (.ref f) args.pos args.kw) (EP X pins σ Q) X.xe s := by
  refine wpAny_call (codeAny_mono (F.run X.A X.stack s H args us vs Q (E σ) hr I.env0 hb r h) fun r s' hq => ?_)
  cases r with
  | error e => exact hx pins H s e s' I hq
  | ok fl =>
    cases fl with
    | ret u => exact I.after hq
    | next => exact False.elim hq
    | brk => exact False.elim hq
    | cont => exact False.elim hq
/-- the callee, by the values of all arguments -/
theorem sp_ofP {W : WX} {S0 S : Sx} {H0 H : Hp} {σ : L2.St} {Γ0 Γ : Ge} {vs zs dvs : List V} {rs qs : List R} {Q : VK} {K : Kx} {mg : Str → Option Value} (E : EnvOk K S H σ Γ) (F : Frm S0 H0 σ Γ0 S H σ Γ) (R : ROkAll K σ S0 H0 S H vs rs) (R2 : ROkAll K σ S0 H0 S H zs qs)
    (hd : DqAll K S dvs ds) (hn : ix.length = m) (hix : ∀ i ∈ ix, i < rs.length + (qs.length + ds.length))
    (G : EG K mg W S0 H0 σ Γ0 Q (callPM M ix ds rs qs Γ)) : spM K mg m M (permL ix (vs ++ (zs ++ dvs))) H Q (fun c d H' => W c d σ H') := by
  refine sp_of E F ((ROkAll.append R (ROkAll.append R2 (ROkAll.ofD hd))).perm ix) ?_ G
  rw [permL_len (by simpa using hix), hn]
variable (F : FnOk X.prog X.w X.K X.mg X.base (L2.CX X.prog X.w) k f fd ps (spM (kx X) X.mg m M)) (hr : Room k X.A) (hg : Gl X x) (hm : X.mg x = some (.ref f)) (hk : PySem.W.keepIn X.K (.ref f) = true) (hb : BindsP X.K fd ps n ks ix ds)
include F hr hg hm hk hb
/-- f(e, ..), the defaults behind -/
theorem px_callD (hks : ks = []) (pa : PAx X (e :: es) t) (hl : ∀ Γ rs Γ', t Γ = .ok rs Γ' → rs.length = n) (hn : ix.length = m := by rfl) (hix : ∀ i ∈ ix, i < n + ds.length := by decide) (hdb : (x == ("__debug__" : Str)) = false := by decide)
    (he : starEach (e :: es) X.env = (false, eval e X.env) :: starEach es X.env := by rfl) (hpl : (backTo pos (starEach es X.env)).any (·.1) = false := by rfl) :
    PX X (.Call (.Name x p) (e :: es) [] pos) (callPF M ix ds t argN) := by
  subst hks
  refine ⟨fun W tk S H σ Γ Q E G => tW_of (t := fun σ H Q => tWA X (e :: es) σ H fun vs H1 => ∃ dus dvs, Vals dvs dus ∧ (∀ (s : Shared) (us : List Value), X.K.In s.heap → us.length = vs.length → BindsTo s fd ⟨us, []⟩ (ps.zip (permL ix (us ++ ([] ++ dus))))) ∧
    spM (kx X) X.mg m M (permL ix (vs ++ ([] ++ dvs))) H1 Q (fun c d H' => W c d σ H')) ⟨fun pins s σ H Q I h => ?_⟩ ?_⟩
  · refine wpAny_Call_Name_kw (ld_glob I hg hm ?_ hdb)
    refine PySem.W.callWith_K (h₀ := X.base) I.ok.mod.kin hk (thn (pa_w.run pos pins s σ H _ I h) fun us s1 ⟨vs, H1, I1, r, dus, dvs, q1, q2, q3⟩ => ⟨I1.kIn, ?_⟩) he hpl
    exact run_fnP (E := fun σ c d H' => W c d σ H') (args := ⟨us, []⟩) F hr (q2 s1 us I1.kIn r.length.symm) (passAt tk σ) I1 (vals_perm (r.append (Vals.append .nil q1)) ix) q3
  · obtain ⟨dvs, dus, d1, d2, d3⟩ := hb
    refine tWA_mono (pa.run W tk S H σ Γ _ E (OG.bind G)) fun vs H2 ⟨S2, rs, Γ2, eo, F2, E2, R2, G2⟩ => ?_
    have hlr := hl _ _ _ eo
    refine ⟨dus, dvs, d1, fun s us X2 hl2 => ?_, ?_⟩
    · have := d3 s us [] X2 (by rw [hl2, ROkAll.len R2, hlr]) rfl
      simpa using this
    · exact sp_ofP E2 F2 R2 (rs := rs) (qs := []) trivial (d2 (kx X) S2.hp rfl) hn (fun i hi => by simpa [hlr] using hix i hi) G2
/-- f(e, .., k = v, ..) -/
theorem px_callK (pa : PAx X (e :: es) t) (pk : PKx X kws tk) (hl : ∀ Γ rs Γ', t Γ = .ok rs Γ' → rs.length = n) (hlk : ∀ Γ rs Γ', tk Γ = .ok rs Γ' → rs.length = ks.length) (hn : ix.length = m := by rfl) (hix : ∀ i ∈ ix, i < n + (ks.length + ds.length) := by decide)
    (hall : (backToKw pos (keywordEach kws X.env)).all (·.1.isSome) = true := by rfl) (hks : (backToKw pos (keywordEach kws X.env)).filterMap (·.1) = ks := by rfl)
    (hdb : (x == ("__debug__" : Str)) = false := by decide) (he : starEach (e :: es) X.env = (false, eval e X.env) :: starEach es X.env := by rfl)
    (hpl : ((backTo pos (starEach (e :: es) X.env)).any (·.1) || (backToKw pos (keywordEach kws X.env)).any (·.1.isNone)) = false := by rfl) :
    PX X (.Call (.Name x p) (e :: es) kws pos) (callPF M ix ds t tk) := by
  refine ⟨fun W tke S H σ Γ Q E G => tW_of (t := fun σ H Q => tWA X (e :: es) σ H fun vs H1 => tWK X kws σ H1 fun zs H2 => ∃ dus dvs, Vals dvs dus ∧ (∀ (s : Shared) (us ws : List Value), X.K.In s.heap → us.length = vs.length → ws.length = zs.length → BindsTo s fd ⟨us, ks.zip ws⟩ (ps.zip (permL ix (us ++ (ws ++ dus))))) ∧
    spM (kx X) X.mg m M (permL ix (vs ++ (zs ++ dvs))) H2 Q (fun c d H' => W c d σ H')) ⟨fun pins s σ H Q I h => ?_⟩ ?_⟩
  · refine wpAny_Call_Name_kw (ld_glob I hg hm ?_ hdb)
    refine PySem.W.callWith_KW (h₀ := X.base) I.ok.mod.kin hk hall (thn (pa_w.run pos pins s σ H _ I h) fun us s1 ⟨vs, H1, I1, r, q⟩ => ?_) hpl he
    refine thn (pk_w.run pos pins s1 σ H1 _ I1 q) fun ws s2 ⟨zs, H2, I2, rz, dus, dvs, q1, q2, q3⟩ => ⟨I2.kIn, ?_⟩
    rw [hks]
    exact run_fnP (E := fun σ c d H' => W c d σ H') (args := ⟨us, ks.zip ws⟩) F hr (q2 s2 us ws I2.kIn r.length.symm rz.length.symm) (passAt tke σ) I2 (vals_perm (r.append (rz.append q1)) ix) q3
  · obtain ⟨dvs, dus, d1, d2, d3⟩ := hb
    refine tWA_mono (pa.run W tke S H σ Γ _ E (OG.bind G)) fun vs H1 ⟨S1, rs, Γ1, e1, F1, E1, R1, G1⟩ => ?_
    refine tWK_mono (pk.run W tke S1 H1 σ Γ1 _ E1 (OG.bind (OG.shift F1 (fun _ _ _ _ _ _ z => z) G1))) fun zs H2 ⟨S2, qs, Γ2, e2, F2, E2, R2, _⟩ => ?_
    rw [e2] at G1
    have h1 := hl _ _ _ e1
    have h2 := hlk _ _ _ e2
    refine ⟨dus, dvs, d1, fun s us ws X2 l1 l2 => d3 s us ws X2 (by rw [l1, ROkAll.len R1, h1]) (by rw [l2, ROkAll.len R2, h2]), ?_⟩
    exact sp_ofP E2 (F1.trans F2) (ROkAll.on F2 R1) (ROkAll.back F1 R2) (d2 (kx X) S2.hp rfl) hn (fun i hi => by simpa [h1, h2] using hix i hi) G1
/-- f(k = v, ..) -/
theorem px_callK0 (h0 : n = 0) (pk : PKx X kws tk) (hlk : ∀ Γ rs Γ', tk Γ = .ok rs Γ' → rs.length = ks.length) (hn : ix.length = m := by rfl) (hix : ∀ i ∈ ix, i < ks.length + ds.length := by decide)
    (hall : (backToKw pos (keywordEach kws X.env)).all (·.1.isSome) = true := by rfl) (hks : (backToKw pos (keywordEach kws X.env)).filterMap (·.1) = ks := by rfl)
    (hdb : (x == ("__debug__" : Str)) = false := by decide)
    (hpl : ((backTo pos (starEach [] X.env)).any (·.1) || (backToKw pos (keywordEach kws X.env)).any (·.1.isNone)) = false := by rfl) :
    PX X (.Call (.Name x p) [] kws pos) (callPF M ix ds argN tk) := by
  subst h0
  refine ⟨fun W tke S H σ Γ Q E G => tW_of (t := fun σ H Q => tWK X kws σ H fun zs H2 => ∃ dus dvs, Vals dvs dus ∧ (∀ (s : Shared) (ws : List Value), X.K.In s.heap → ws.length = zs.length → BindsTo s fd ⟨[], ks.zip ws⟩ (ps.zip (permL ix (ws ++ dus)))) ∧
    spM (kx X) X.mg m M (permL ix (zs ++ dvs)) H2 Q (fun c d H' => W c d σ H')) ⟨fun pins s σ H Q I h => ?_⟩ ?_⟩
  · refine wpAny_Call_Name_kw (ld_glob I hg hm ?_ hdb)
    refine PySem.W.callWith_KW0 (h₀ := X.base) I.ok.mod.kin hk hall ?_ hpl
    refine thn (pk_w.run pos pins s σ H _ I h) fun ws s2 ⟨zs, H2, I2, rz, dus, dvs, q1, q2, q3⟩ => ⟨I2.kIn, ?_⟩
    rw [hks]
    exact run_fnP (E := fun σ c d H' => W c d σ H') (args := ⟨[], ks.zip ws⟩) F hr (q2 s2 ws I2.kIn rz.length.symm) (passAt tke σ) I2 (vals_perm (rz.append q1) ix) q3
  · obtain ⟨dvs, dus, d1, d2, d3⟩ := hb
    refine tWK_mono (pk.run W tke S H σ Γ _ E (OG.bind G)) fun zs H2 ⟨S2, qs, Γ2, e2, F2, E2, R2, G2⟩ => ?_
    have h2 := hlk _ _ _ e2
    refine ⟨dus, dvs, d1, fun s ws X2 l2 => by simpa using d3 s [] ws X2 rfl (by rw [l2, ROkAll.len R2, h2]), ?_⟩
    exact sp_ofP (vs := []) (rs := []) E2 F2 trivial R2 (d2 (kx X) S2.hp rfl) hn (fun i hi => by simpa [h2] using hix i hi) G2
end
/-! ### a def with defaults -/
section
variable {P : Program} {w : World} {K : PySem.W.Frag} {mg : Str → Option Value} {base : Heap}
theorem fnD_ok {x qual : Str} {st : Stmt} {f : Addr} {fd : FuncData} {N ps : List Str} {k n : Nat} {p : SF} {M : FM} {dvs : List V} {kws : List (Str × V)} (F : FunD K x qual (defArgs st) (defBody st) (defScope st) dvs kws f fd) (S : FnScope N ps (defScope st)) (hn : ps.length = n) (hN : n ≤ N.length) (hM : M = bodyM N.length p)
    (body : ∀ (cdv : Value) (A : Around) (outer : List Env) (s : Shared) (H : Hp) (E : XK), Room k (A.deeper (PyProof.Rows.envOfC qual (defScope st) s.heap.objs.size f cdv)) → PSsx (cxOf (L2.CX P w) P w K mg base N qual (defScope st) f cdv A outer s H E) (defBody st) p) :
    FnOk P w K mg base (L2.CX P w) (k + 1) f fd ps (spM ⟨K, P, w, clOf mg⟩ mg n M) := by
  subst hM
  refine F.ok S (fun vs H Q E h => by rw [spM_len h, hn]) (fun cdv A outer s H vs Q E hr h => ?_)
  exact ⟨tWSs _ (defBody st), pss_w, body_run (N := N) (body cdv A outer s H E hr) (takes_of rfl rfl rfl rfl) h⟩
end
/-! ### how they bind -/
section
variable {K : PySem.W.Frag} {x qual : Str} {params : Arguments} {body : List Stmt} {scope : Scope} {dvs : List V} {kws : List (Str × V)} {f : Addr} {fd : FuncData} {ps : List Str} {n : Nat} {ks : List Str} {ix : List Nat} {ds : List D}
/-- positional defaults: those behind the first j fill up; h by computing -/
theorem bp_dfl (F : FunD K x qual params body scope dvs kws f fd) (hd : dvs ≠ []) (hds : ∀ (Kk : Kx) (S : Hp), Kk.fr = K → DqAll Kk S dvs ds)
    (h : ∀ (T : Addr) (kV doc pm : Value) (an : Option Addr) (cdv ct : Value) (us ws its : List Value), us.length = n → ws.length = ks.length → its.length = dvs.length →
      ∃ k, bindArgs (PySem.W.fnOf x qual params body scope (.ref T) kV doc pm an cdv ct) ⟨us, ks.zip ws⟩ = seqItems? (.ref T) >>= k ∧ k (some its.toArray) = pure (ps.zip (permL ix (us ++ (ws ++ its))))) : BindsP K fd ps n ks ix ds := by
  obtain ⟨oc, od, dV, kV, doc, pm, an, cdv, ct, osl, rfl, lk, hcd, hD, hK⟩ := F.ex
  rcases hD with ⟨e, _⟩ | ⟨_, T, o, its, m, rfl, lT, oT, rT⟩
  · exact absurd e hd
  · refine ⟨dvs, its, rT, hds, fun s us ws X l1 l2 => ?_⟩
    obtain ⟨k, e1, e2⟩ := h T kV doc pm an cdv ct us ws its l1 l2 rT.length.symm
    refine BindsTo.of_looks fun M => ?_
    rw [e1]
    exact looks_items X lT oT (.of_pure e2)
/-- keyword-only defaults, no others, all of them lack -/
theorem bp_kwd (F : FunD K x qual params body scope [] kws f fd) (hk : kws ≠ []) (hds : ∀ (Kk : Kx) (S : Hp), Kk.fr = K → DqAll Kk S (kws.map (·.2)) ds)
    (h : ∀ (D : Addr) (doc pm : Value) (an : Option Addr) (cdv ct : Value) (us ms : List Value), us.length = n → ms.length = kws.length →
      KwChain D ((kws.map (·.1)).zip ms) (bindArgs (PySem.W.fnOf x qual params body scope .none (.ref D) doc pm an cdv ct) ⟨us, []⟩) (ps.zip (permL ix (us ++ ([] ++ ms))))) : BindsP K fd ps n [] ix ds := by
  obtain ⟨oc, od, dV, kV, doc, pm, an, cdv, ct, osl, rfl, lk, hcd, hD, hK⟩ := F.ex
  rcases hD with ⟨_, rfl⟩ | ⟨e, _⟩
  · rcases hK with e | ⟨D, rfl, hq⟩
    · exact absurd e hk
    · obtain ⟨ms, hl, rk, hks⟩ := kwd_vals hq
      refine ⟨kws.map (·.2), ms, rk, hds, fun s us ws X l1 l2 => ?_⟩
      have e : ws = [] := List.length_eq_zero_iff.mp l2
      subst e
      exact BindsTo.of_looks fun M => KwChain.looks X hks (h D doc pm an cdv ct us ms l1 hl)
  · exact absurd rfl e
/-- every parameter is given, some by keywords -/
theorem bp_all (F : FunD K x qual params body scope [] kws f fd)
    (h : ∀ (kV doc pm : Value) (an : Option Addr) (cdv ct : Value) (us ws : List Value), us.length = n → ws.length = ks.length → bindArgs (PySem.W.fnOf x qual params body scope .none kV doc pm an cdv ct) ⟨us, ks.zip ws⟩ = pure (ps.zip (permL ix (us ++ (ws ++ []))))) : BindsP K fd ps n ks ix [] := by
  obtain ⟨oc, od, dV, kV, doc, pm, an, cdv, ct, osl, rfl, lk, hcd, hD, hK⟩ := F.ex
  rcases hD with ⟨_, rfl⟩ | ⟨e, _⟩
  · exact ⟨[], [], .nil, fun _ _ _ => .nil, fun s us ws X l1 l2 => .of_eq (h kV doc pm an cdv ct us ws l1 l2)⟩
  · exact absurd rfl e
theorem fun_toD {st : Stmt} (F : Fun K x qual st f fd) : FunD K x qual (defArgs st) (defBody st) (defScope st) [] [] f fd := by
  obtain ⟨⟨oc, od, kV, doc, pm, an, cdv, ct, osl, e, l, c⟩, k⟩ := F
  exact ⟨⟨oc, od, .none, kV, doc, pm, an, cdv, ct, osl, e, l, c, .inl ⟨rfl, rfl⟩, .inl rfl⟩, k⟩
end
end Ly
namespace Ly
open PySem L2
@[simp] theorem permL_nil {α : Type} {xs : List α} : permL [] xs = [] := id rfl
@[simp] theorem permL_cons {α : Type} {i : Nat} {is : List Nat} {xs : List α} : permL (i :: is) xs = match xs[i]? with | some x => x :: permL is xs | none => permL is xs := id rfl
@[simp] theorem callPF_eq {M : FM} {ix : List Nat} {ds : List D} {t tk : Ge → Out (List R)} {Γ : Ge} : callPF M ix ds t tk Γ = (t Γ).bind fun rs Γ1 => (tk Γ1).bind fun zs Γ2 => callM M (permL ix (rs ++ (zs ++ ds.map R.d))) Γ2 := id rfl
end Ly
set_option maxRecDepth 100000
/-! x in xs, of data that may be compared -/
namespace Ly
open PySem L2
section
variable {K : Kx} {X : Cx}
def rInG (K : Kx) (neg : Bool) : R2 := fun x y H Q => ∃ d xs, Dp K H x d ∧ Dp K H y (.list xs) ∧ d.canLay0 = true ∧ PyData.canLayAll0 xs = true ∧ d.depth ≤ 60 ∧ Q (.bl (if neg then !(xs.any fun z => PyData.eqv z d) else xs.any fun z => PyData.eqv z d)) H
theorem op_inG (hu : X.A.units + 64 < cLine) : OpR X (compareOp .In) (rInG (kx X) false) := by
  intro pins s σ H x y v u Q I rx ry h
  obtain ⟨d, xs, hd, he, c1, c2, c3, q⟩ := h
  obtain ⟨as, r1⟩ := Dp.reads I d x v hd rx
  obtain ⟨bs, r2⟩ := Dp.reads I _ y u he ry
  have hm : min (PyData.depthAll xs) d.depth ≤ d.depth := Nat.min_le_right _ _
  exact SeqAt.in_list_reads r2 r1 c2 c1 (by omega) ⟨.bl _, H, I, rfl, q⟩
theorem op_notInG (hu : X.A.units + 64 < cLine) : OpR X (compareOp .NotIn) (rInG (kx X) true) := by
  intro pins s σ H x y v u Q I rx ry h
  obtain ⟨d, xs, hd, he, c1, c2, c3, q⟩ := h
  obtain ⟨as, r1⟩ := Dp.reads I d x v hd rx
  obtain ⟨bs, r2⟩ := Dp.reads I _ y u he ry
  have hm : min (PyData.depthAll xs) d.depth ≤ d.depth := Nat.min_le_right _ _
  exact SeqAt.notIn_list_reads r2 r1 c2 c1 (by omega) ⟨.bl _, H, I, rfl, q⟩
def inG (neg : Bool) : D → D → Option O := fun x y => match y with
  | .list xs => if x.canLay0 = true ∧ PyData.canLayAll0 xs = true ∧ x.depth ≤ 60 then some (.d (.bool (if neg then !(xs.any fun z => PyData.eqv z x) else xs.any fun z => PyData.eqv z x))) else none
  | _ => none
theorem opD_inG {neg : Bool} : OpD K (rInG K neg) (inG neg) := by
  intro S H x y d e o Q hS hx hy he q
  cases e <;> first
    | (cases he; done)
    | skip
  rename_i xs
  have he : (if d.canLay0 = true ∧ PyData.canLayAll0 xs = true ∧ d.depth ≤ 60 then some (O.d (.bool (if neg then !(xs.any fun z => PyData.eqv z d) else xs.any fun z => PyData.eqv z d))) else none) = some o := he
  split at he
  · rename_i hc
    cases he
    exact ⟨d, xs, (hx.dq hS).dp (shaped_flat hc.1), (hy.dq hS).dp (shaped_flat (by simpa [PyData.canLay0] using hc.2.1)), hc.1, hc.2.1, hc.2.2, q _ (.bl _)⟩
  · cases he
end
theorem inG_l {neg : Bool} {n : Nat} {x : D} {xs : List D} (h : Sh n x) (h2 : ∀ y ∈ xs, Sh n y) (hn : n ≤ 60 := by decide) : inG neg x (.list xs) = some (.d (.bool (if neg then !(xs.any fun z => PyData.eqv z x) else xs.any fun z => PyData.eqv z x))) := by
  show (if x.canLay0 = true ∧ PyData.canLayAll0 xs = true ∧ x.depth ≤ 60 then some _ else none) = _
  rw [if_pos ⟨h.1, (sh_all h2).1, Nat.le_trans h.2 hn⟩]
end Ly
set_option maxRecDepth 100000
/-! return x, y with a list of one's own; x, y = such a pair -/
namespace Ly
open PySem L2
section
variable {X : Cx} {ex ey : Expr} {pos : Pos}
def pairO (i j : Nat) : EF := fun Γ => match Γ[i]?, Γ[j]? with
  | some (.l xs), some (.d y) => .ok (.o (.t [.l xs, .d y])) (Γ.set i .un)
  | _, _ => .no
theorem px_pairO {i j : Nat} {x1} (hx : PE X ex (tVar i)) (hy : PE X ey (tVar j)) (hs1 : starEach [ex, ey] X.env = (false, eval ex X.env) :: starEach [ey] X.env := by rfl) (hs2 : starEach [ey] X.env = (false, eval ey X.env) :: starEach [] X.env := by rfl) : PX X (.Tuple [ex, ey] x1 pos) (pairO i j) := by
  refine ⟨fun W tk S H σ Γ Q E G => tW_of (pe_tup (pa_cons hx (pa_cons hy pa_nil hs2) hs1)) ?_⟩
  unfold pairO at G
  cases e1 : Γ[i]? with
  | none => rw [e1] at G; exact G.elim
  | some s1 =>
    cases s1 with
    | l xs =>
      cases e2 : Γ[j]? with
      | none => rw [e1, e2] at G; exact G.elim
      | some s2 =>
        cases s2 with
        | d y =>
          rw [e1, e2] at G
          obtain ⟨a, vs, q1, q2, q3, q4, q5⟩ := E.ownF i xs (.inl e1)
          obtain ⟨v, w1, w2⟩ := E.dat j y e2
          have ha : a ∈ S.fp i := by rw [q5]; simp
          refine ⟨.ref a, q1, v, w1, mk_len (n := 2) (by omega), fun p hp => ?_⟩
          obtain ⟨F', E', n⟩ := letgo_sl (sl := .un) E e1 q1 rfl rfl
          have hpa : a ≠ p := fun h => by rw [h, hp] at q3; cases q3
          have F2 := F'.trans (.push E' hp (.tup [.ref a, v]))
          have E2 := E'.push hp (.tup [.ref a, v])
          have hnp : ¬ Own (S.fput i []) p := fun q => by
            obtain ⟨ws, _, q⟩ := own_tracked E' q
            rw [hp] at q; cases q
          refine G _ _ _ F2 E2 ⟨p :: ([a] ++ ([] ++ [])), .t (E'.free hp) upd_same (.cons (.l q2 (by rw [upd_ne hpa]; exact q3) q4) (.cons (.d w2) .nil)), by simp; exact fun h => hpa h.symm, fun b hb => ?_⟩
          simp at hb
          rcases hb with rfl | rfl
          · exact ⟨hnp, .inl hp⟩
          · exact ⟨n _ ha, .inr ⟨i, ha⟩⟩
        | _ => rw [e1, e2] at G; exact G.elim
    | _ => rw [e1] at G; exact G.elim
def gTwo (i j : Nat) : GF := fun r Γ => match r with
  | .o (.t [.l xs, .d y]) => match Γ[i]?, Γ[j]? with
    | some s1, some s2 => if notB' s1 = true ∧ notB' s2 = true then .ok () ((Γ.set i (.l xs)).set j (.d y)) else .no
    | _, _ => .no
  | _ => gTp 2 (gsC (gN i) (gsC (gN j) gsN)) r Γ
theorem pgx_two {i j k : Nat} {x y : Str} {p1 p2 : Pos} (hc : X.calm = true) (hx : PG X (.Name x p1) (gName i)) (hy : PG X (.Name y p2) (gName j)) (hij : j ≠ i := by decide)
    (hn : (assignEach [.Name x p1, .Name y p2] X.env).length = 2 := by rfl) (hst : (assignEach [.Name x p1, .Name y p2] X.env).findIdx? (·.1) = none := by rfl)
    (hs1 : (assignEach [.Name x p1, .Name y p2] X.env).map (·.2) = assign (.Name x p1) X.env :: (assignEach [.Name y p2] X.env).map (·.2) := by rfl)
    (hs2 : (assignEach [.Name y p2] X.env).map (·.2) = assign (.Name y p2) X.env :: (assignEach [] X.env).map (·.2) := by rfl) : PGx X (.Tuple [.Name x p1, .Name y p2] k pos) (gTwo i j) := by
  have old : PGx X (.Tuple [.Name x p1, .Name y p2] k pos) (gTp 2 (gsC (gN i) (gsC (gN j) gsN))) := pgx_tup hc (pgsx_cons (pgx_name hx) (pgsx_cons (pgx_name hy) pgsx_nil hs2) hs1) hn hst
  refine ⟨fun W tk S0 H0 σ0 Γ0 S H σ Γ v r Q F E R G => ?_⟩
  by_cases hr : ∃ xs d, r = .o (.t [.l xs, .d d])
  · obtain ⟨xs, d, rfl⟩ := hr
    obtain ⟨FF, h1, h2, h3⟩ := R
    refine tWG_of (pg_tup hc (pgs_cons hx (pgs_cons hy pgs_nil hs2) hs1) hn hst) ?_
    unfold gTwo at G
    cases h1 with
    | t t1 t2 t3 =>
      cases t3 with
      | cons u1 t4 =>
        cases t4 with
        | cons u2 t5 =>
          cases t5
          cases u1 with
          | l l1 l2 l3 =>
            rename_i p a vs
            cases u2 with
            | d m1 =>
              rename_i vb
              cases e1 : Γ[i]? with
              | none => simp only [e1] at G; exact G.elim
              | some s1 =>
                cases e2 : Γ[j]? with
                | none => simp only [e1, e2] at G; exact G.elim
                | some s2 =>
                  simp only [e1, e2] at G
                  by_cases hb : notB' s1 = true ∧ notB' s2 = true
                  · rw [if_pos hb] at G
                    have hl1 : i < Γ.length := (List.getElem?_eq_some_iff.mp e1).1
                    have hl2 : j < Γ.length := (List.getElem?_eq_some_iff.mp e2).1
                    have ha := h3 a (by simp)
                    have F1 := F.setSl (sl := .l xs) (ov := some (.ref a)) (G := [a]) e1 hb.1 (fun c ec => by rw [List.mem_singleton.mp ec]; exact ha.2.symm)
                    have E1 := E.setL hl1 l1 l2 l3 ha.1
                    have e3 : (Γ.set i (.l xs))[j]? = some s2 := by rw [getset_ne hij]; exact e2
                    have F2 := F1.setSl (sl := .d d) (ov := some vb) (G := []) e3 hb.2 (fun c ec => by simp at ec)
                    have E2 := E1.setD (x := d) (v := vb) (i := j) (by rw [List.length_set]; exact hl2) m1
                    exact ⟨_, _, rfl, .inl (.inl t2), rfl, _, _, rfl, _, _, rfl, rfl, G _ _ _ F2 E2⟩
                  · rw [if_neg hb] at G
                    exact G.elim
  · have G : UG (kx X) S0 H0 σ0 Γ0 Q (gTp 2 (gsC (gN i) (gsC (gN j) gsN)) r Γ) := by
      unfold gTwo at G
      split at G
      · exact absurd ⟨_, _, rfl⟩ hr
      · exact G
    exact old.run W tk S0 H0 σ0 Γ0 S H σ Γ v r Q F E R G
theorem noex_two {i j : Nat} : NoEx (gTwo i j) := fun r Γ x Γ' h => by
  unfold gTwo at h
  split at h
  · split at h
    · split at h <;> cases h
    · cases h
  · exact noex_tup (noexs_cons noex_name (noexs_cons noex_name noexs_nil)) r Γ x Γ' h
end
/-! simp -/
@[simp] theorem pairO_eq {i j : Nat} {Γ : Ge} : pairO i j Γ = match Γ[i]?, Γ[j]? with | some (.l xs), some (.d y) => .ok (.o (.t [.l xs, .d y])) (Γ.set i .un) | _, _ => .no := id rfl
@[simp] theorem gTwo_o {i j : Nat} {xs : List D} {y : D} {Γ : Ge} : gTwo i j (.o (.t [.l xs, .d y])) Γ = match Γ[i]?, Γ[j]? with | some s1, some s2 => if notB' s1 = true ∧ notB' s2 = true then .ok () ((Γ.set i (.l xs)).set j (.d y)) else .no | _, _ => .no := id rfl
end Ly
set_option maxRecDepth 100000
/-! instances at slots: fields read and stored, methods called -/
namespace Ly
open PySem L2
def instAt (Γ : Ge) (i : Nat) : Option (Str × List (Str × T)) := match Γ[i]? with
  | some (.o (.i C fs)) => some (C, fs)
  | some (.p (.i C fs)) => some (C, fs)
  | _ => none
section
variable {K : Kx} {S : Sx} {H : Hp} {σ : L2.St} {Γ : Ge} {i : Nat} {C : Str} {fs : List (Str × T)}
theorem inst_ok (E : EnvOk K S H σ Γ) (h : instAt Γ i = some (C, fs)) : ∃ a c dx vs F, σ[i]? = some (some (.ref a)) ∧ K.cl C = some c ∧ S.hp a = none ∧ S.hp dx = none ∧ H a = some (.ins c dx vs) ∧ H dx = some (.own a) ∧ TFs K S.hp H vs fs F ∧ S.fp i = a :: dx :: F ∧ (S.fp i).Nodup ∧
    (Γ[i]? = some (.o (.i C fs)) ∨ Γ[i]? = some (.p (.i C fs))) := by
  have hs : Γ[i]? = some (.o (.i C fs)) ∨ Γ[i]? = some (.p (.i C fs)) := by
    unfold instAt at h
    split at h
    · rename_i q; cases h; exact .inl q
    · rename_i q; cases h; exact .inr q
    · cases h
  obtain ⟨v, h1, h2, h3⟩ := E.tree i _ hs
  generalize hF : S.fp i = FF at *
  cases h2 with
  | i c0 c1 c2 c3 c4 c5 => exact ⟨_, _, _, _, _, h1, c0, c1, c2, c3, c4, c5, rfl, h3, hs⟩
end
theorem TFs.look {K : Kx} {S H : Hp} (f : Str) : ∀ {vs : List (Str × V)} {fs : List (Str × T)} {F : List Addr}, TFs K S H vs fs F → (fs.lookup f = none → vs.lookup f = none) ∧ ∀ t, fs.lookup f = some t → ∃ v Ft, vs.lookup f = some v ∧ TOk K S H t v Ft ∧ ∀ a ∈ Ft, a ∈ F
  | _, _, _, .nil => ⟨fun _ => rfl, fun t h => by cases h⟩
  | _, _, _, .cons (x := x) (v := v) (vs := vs) (t := t0) (ts := ts) (F := F) (G := G) h r => by
    obtain ⟨q1, q2⟩ := TFs.look f r
    simp only [List.lookup_cons]
    cases hx : f == x with
    | true =>
      refine ⟨?_, ?_⟩
      · intro h; cases h
      · intro t e
        cases e
        exact ⟨_, _, rfl, h, fun a ha => by simp [ha]⟩
    | false => exact ⟨q1, fun t e => by
        obtain ⟨w, Ft, e1, e2, e3⟩ := q2 t e
        exact ⟨w, Ft, e1, e2, fun a ha => by simp [e3 a ha]⟩⟩
theorem TFs.len {K : Kx} {S H : Hp} : ∀ {vs : List (Str × V)} {fs : List (Str × T)} {F : List Addr}, TFs K S H vs fs F → vs.length = fs.length
  | _, _, _, .nil => rfl
  | _, _, _, .cons h r => by simp [TFs.len r]
theorem TFs.stay {K : Kx} {S H S' H' : Hp} (e : Same S S') : ∀ {vs : List (Str × V)} {fs : List (Str × T)} {F : List Addr}, TFs K S H vs fs F → (∀ a ∈ F, S a = none → S' a = none) → (∀ a ∈ F, ∀ o, H a = some o → H' a = some o) → TFs K S' H' vs fs F
  | _, _, _, .nil, _, _ => .nil
  | _, _, _, .cons h r, f, g => .cons (h.stay e (fun a ha => f a (by simp [ha])) fun a ha => g a (by simp [ha])) (TFs.stay e r (fun a ha => f a (by simp [ha])) fun a ha => g a (by simp [ha]))
/-- a field's new value -/
def putA (f : Str) (t : T) : List (Str × T) → List (Str × T)
  | [] => [(f, t)]
  | (g, x) :: r => if g = f then (g, t) :: r else (g, x) :: putA f t r
theorem TFs.putD {K : Kx} {S H : Hp} {f : Str} {v : V} {x : D} (hv : Dq K S v x) : ∀ {vs : List (Str × V)} {fs : List (Str × T)} {F : List Addr}, TFs K S H vs fs F → ∃ G, TFs K S H (putF f v vs) (putA f (.d x) fs) G ∧ G.Sublist F
  | _, _, _, .nil => ⟨[] ++ [], .cons (.d hv) .nil, by simp⟩
  | _, _, _, .cons (x := y) (F := F1) (G := G1) h r => by
    unfold putF putA
    by_cases e : y = f
    · rw [if_pos e, if_pos e]
      exact ⟨[] ++ G1, .cons (.d hv) r, by simp⟩
    · rw [if_neg e, if_neg e]
      obtain ⟨G, q1, q2⟩ := TFs.putD hv r
      exact ⟨F1 ++ G, .cons h q1, List.Sublist.append (List.Sublist.refl _) q2⟩
def fldF (i : Nat) (C f : Str) : EF := fun Γ => match instAt Γ i with
  | some (C', fs) => if C' = C then match fs.lookup f with
      | some (.d x) => .ok (.d x) Γ
      | _ => .no
    else .no
  | none => .no
/-- what is asked of a field: no class of the instance has the name -/
structure FldOk (K : PySem.W.Frag) (mg : Str → Option Value) (C f : Str) (c : Addr) : Prop where
  m : mg C = some (.ref c)
  cls : Cls K c
  noa : NoAttr K c f
section
variable {X : Cx} {o e : Expr} {i : Nat} {C f : Str} {c : Addr} {pos pos' : Pos} {g : EF}
theorem cl_of {mg : Str → Option Value} (h : mg C = some (.ref c)) : clOf mg C = some c := by
  unfold clOf
  rw [h]
theorem px_fld (he : PE X o (tVar i)) (h : FldOk X.K X.mg C f c) (hb : attributeBase o f X.env (eval o X.env) = eval o X.env := by rfl) : PX X (.Attribute o f pos) (fldF i C f) := by
  refine ⟨fun W tk S H σ Γ Q E G => tW_of (pe_fld he hb) ?_⟩
  unfold fldF at G
  cases e1 : instAt Γ i with
  | none => rw [e1] at G; exact G.elim
  | some p =>
    obtain ⟨C', fs⟩ := p
    rw [e1] at G
    dsimp only at G
    by_cases hC : C' = C
    · subst hC
      rw [if_pos rfl] at G
      obtain ⟨a, c1, dx, vs, F, q1, q2, q3, q4, q5, q6, q7, q8, q9, q10⟩ := inst_ok E e1
      rw [show (kx X).cl C' = some c from cl_of h.m] at q2
      cases q2
      cases el : fs.lookup f with
      | none => rw [el] at G; exact G.elim
      | some t =>
        rw [el] at G
        obtain ⟨v, Ft, l1, l2, -⟩ := (q7.look f).2 t el
        cases t with
        | d x =>
          cases l2 with
          | d hx => exact ⟨.ref a, q1, a, c, dx, vs, v, rfl, q5, h.cls, h.noa, l1, G S H v .refl E hx⟩
        | _ => exact G.elim
    · rw [if_neg hC] at G
      exact G.elim
/-! o.f = e, data -/
def putS (i : Nat) (C f : Str) (r : R) (Γ : Ge) : Out Fl := match r with
  | .d x => match instAt Γ i with
    | some (C', fs) => if C' = C ∧ fs.length < 1000 then .ok .nx (putT Γ i (.i C (putA f (.d x) fs))) else .no
    | none => .no
  | _ => .no
def fldS (i : Nat) (C f : Str) (g : EF) : SF := fun Γ => (g Γ).bind fun r Γ1 => putS i C f r Γ1
theorem psx_fld (ho : PE X o (tVar i)) (pe : PX X e g) (h : FldOk X.K X.mg C f c) (hs : swapsWith e (some (.Attribute o f pos')) pos.line X.env = pure false := by rfl) : PSx X (.Assign [.Attribute o f pos'] e pos) (fldS i C f g) := by
  refine ⟨fun W tk S0 H0 σ Γ0 Z E0 G => tWS_of (ps_fld ho pe_w hs) ?_⟩
  refine tW_mono (pe.run W tk S0 H0 σ Γ0 _ E0 (SG.bind G)) fun v H ⟨S, r, Γ, _, F0, E, R, G1⟩ => ?_
  cases r with
  | l _ => exact G1.elim
  | s _ => exact G1.elim
  | o _ => exact G1.elim
  | d x =>
    have G1 : SG (kx X) X.mg W S0 H0 σ Γ0 Z (putS i C f (.d x) Γ) := G1
    unfold putS at G1
    cases e1 : instAt Γ i with
    | none => simp only [e1] at G1; exact G1.elim
    | some p =>
      obtain ⟨C', fs⟩ := p
      simp only [e1] at G1
      by_cases hC : C' = C ∧ fs.length < 1000
      · rw [if_pos hC] at G1
        obtain ⟨rfl, hl⟩ := hC
        obtain ⟨a, c1, dx, vs, F, q1, q2, q3, q4, q5, q6, q7, q8, q9, q10⟩ := inst_ok E e1
        have hcl := q2
        rw [show (kx X).cl C' = some c from cl_of h.m] at q2
        cases q2
        have hx : Dq (kx X) S.hp v x := R
        rw [q8] at q9
        have n1 := List.nodup_cons.mp q9
        have n2 := List.nodup_cons.mp n1.2
        have hdx : dx ≠ a := fun z => n1.1 (by simp [z])
        have haF : a ∉ F := fun z => n1.1 (by simp [z])
        have q7' : TFs (kx X) S.hp (upd H a (.ins c dx (putF f v vs))) vs fs F := q7.stay (Same.refl _) (fun _ _ h => h) fun b hb o hh => by rw [upd_ne (fun z => haF (by rw [← z]; exact hb))]; exact hh
        obtain ⟨G2, t1, t2⟩ := q7'.putD (f := f) hx
        have hT : TOk (kx X) S.hp (upd H a (.ins c dx (putF f v vs))) (.i C' (putA f (.d x) fs)) (.ref a) (a :: dx :: G2) := .i hcl q3 q4 upd_same (by rw [upd_ne hdx]; exact q6) t1
        have hN : (a :: dx :: G2).Nodup := q9.sublist (List.Sublist.cons₂ a (List.Sublist.cons₂ dx t2))
        refine ⟨.ref a, q1, a, c, dx, vs, rfl, q5, h.cls, h.noa, by rw [q7.len]; exact hl, ?_⟩
        have key : ∀ s1 sl : Sl, Γ[i]? = some s1 → kindOf s1 sl → SlOk (kx X) S.hp (upd H a (.ins c dx (putF f v vs))) sl (some (.ref a)) (a :: dx :: G2) → Frm S H σ Γ (S.fput i (a :: dx :: G2)) (upd H a (.ins c dx (putF f v vs))) σ (Γ.set i sl) ∧ EnvOk (kx X) (S.fput i (a :: dx :: G2)) (upd H a (.ins c dx (putF f v vs))) σ (Γ.set i sl) := fun s1 sl w1 w2 w3 =>
          mut_sl E w1 q1 w2 (fun b o hb n => by rw [upd_ne (fun z => n (by rw [q8, z]; simp))]; exact hb) (fun b o hb => by rw [upd_ne (fun z : b = a => by rw [z, q3] at hb; cases hb)]; exact E.sub b o hb) w3
            (fun b hb => .inl (by
              rw [q8]
              rcases List.mem_cons.mp hb with rfl | hb
              · simp
              · rcases List.mem_cons.mp hb with rfl | hb
                · simp
                · simp [t2.subset hb]))
        rcases q10 with hg | hg
        · obtain ⟨F1, E1⟩ := key _ (.o (.i C' (putA f (.d x) fs))) hg trivial ⟨_, rfl, hT, hN⟩
          have : putT Γ i (.i C' (putA f (.d x) fs)) = Γ.set i (.o (.i C' (putA f (.d x) fs))) := by unfold putT; rw [hg]
          rw [this] at G1
          exact G1 _ _ _ (F0.trans F1) E1
        · obtain ⟨F1, E1⟩ := key _ (.p (.i C' (putA f (.d x) fs))) hg ⟨_, rfl⟩ ⟨_, rfl, hT, hN⟩
          have : putT Γ i (.i C' (putA f (.d x) fs)) = Γ.set i (.p (.i C' (putA f (.d x) fs))) := by unfold putT; rw [hg]
          rw [this] at G1
          exact G1 _ _ _ (F0.trans F1) E1
      · rw [if_neg hC] at G1
        exact G1.elim
end
end Ly
set_option maxRecDepth 100000
/-! methods called, instances made -/
namespace L2
open PySem PySem.Spec PyProof.Rows
section
variable {X : Cx} {CX : CXT} {k : Nat} {f C : Addr} {fd : FuncData} {ps : List Str} {sp : Sp} {dvs : List V} {ds : List Value} {E : St → XK} {x m : Str} {p pos apos : Pos} {e o : Expr} {es : List Expr} {ta : TE} {t : TA}
def tMethSD (C : Addr) (m : Str) (sp : Sp) (dvs : List V) (E : St → XK) (ta : TE) (t : TA) : TE := fun σ H Q => ta σ H fun x H1 => ∃ a dx fs, x = .ref a ∧ H1 a = some (.ins C dx fs) ∧ fs.lookup m = none ∧
  t σ H1 fun vs H2 => sp (x :: (vs ++ dvs)) H2 Q (E σ)
theorem pe_methSD {pl : Sem Bool} (he : PE X o ta) (c : Cls X.K C) (hm : Meth X.K C m f) (F : FnOk X.prog X.w X.K X.mg X.base CX k f fd ps sp) (hr : Room k X.A) (hb : Binds X.K fd ps ds) (hd : Vals dvs ds) (hx : ∀ σ, PassesAt CX X σ (E σ)) (ha : PA X (e :: es) t)
    (hst : starEach (e :: es) X.env = (false, eval e X.env) :: starEach es X.env := by rfl) (hpl : (backTo pos (starEach es X.env)).any (·.1) = false := by rfl)
    (ht : eval (.Call (.Attribute o m apos) (e :: es) [] pos) X.env = (do
      let ov ← eval o X.env
      standAt apos.atName
      let (f, first) ← holding [ov] (getMethod ov m pl)
      callWith pos f first (backTo pos (starEach (e :: es) X.env)) (backToKw pos (keywordEach [] X.env))) := by rfl) :
    PE X (.Call (.Attribute o m apos) (e :: es) [] pos) (tMethSD C m sp dvs E ta t) := by
  refine ⟨fun pins s σ H Q I h => ?_⟩
  refine PySem.W.methodCall_KW (pl := pl) (thn (he.run pins s σ H _ I h) fun u s1 ⟨x, H1, I1, rx, a, dx, fs, ex, ea, l, q⟩ => ?_) ht
  subst ex
  obtain rfl : u = Value.ref a := rx
  refine getmeth_ok I1 ea c hm l ?_
  refine PySem.W.callWith_K (first := [.ref a]) (h₀ := X.base) I.ok.mod.kin hm.kp (thn (ha.run pos pins s1 σ H1 _ I1 q) fun us s2 ⟨vs, H2, I2, r, q2⟩ => ⟨I2.kIn, ?_⟩) hst hpl
  exact run_fnSD (us := .ref a :: us) (vs := .ref a :: vs) F hr hb hd (hx σ) I2 (.cons rfl r) q2
theorem pe_methSD0 {pl : Sem Bool} (he : PE X o ta) (c : Cls X.K C) (hm : Meth X.K C m f) (F : FnOk X.prog X.w X.K X.mg X.base CX k f fd ps sp) (hr : Room k X.A) (hb : Binds X.K fd ps ds) (hd : Vals dvs ds) (hx : ∀ σ, PassesAt CX X σ (E σ))
    (ht : eval (.Call (.Attribute o m apos) [] [] pos) X.env = (do
      let ov ← eval o X.env
      standAt apos.atName
      let (f, first) ← holding [ov] (getMethod ov m pl)
      callWith pos f first (backTo pos (starEach [] X.env)) (backToKw pos (keywordEach [] X.env))) := by rfl) :
    PE X (.Call (.Attribute o m apos) [] [] pos) (tMethSD C m sp dvs E ta tNil) := by
  refine ⟨fun pins s σ H Q I h => ?_⟩
  refine PySem.W.methodCall_KW (pl := pl) (thn (he.run pins s σ H _ I h) fun u s1 ⟨x, H1, I1, rx, a, dx, fs, ex, ea, l, q⟩ => ?_) ht
  subst ex
  obtain rfl : u = Value.ref a := rx
  refine getmeth_ok I1 ea c hm l ?_
  exact PySem.W.callWith_K0 (first := [.ref a]) I1.kIn hm.kp (run_fnSD (us := [.ref a]) (vs := [.ref a]) F hr hb hd (hx σ) I1 (.cons rfl .nil) q)
end
end L2
namespace Ly
open PySem L2
/-- o.m(..), o an instance at slot i -/
def methF (M : FM) (C m : Str) (i : Nat) (t : Ge → Out (List R)) : EF := fun Γ => match instAt Γ i with
  | some (C', fs) => if C' = C ∧ fs.lookup m = none then (t Γ).bind fun rs Γ1 => callM M (.s i :: rs) Γ1 else .no
  | none => .no
structure MethOk (K : PySem.W.Frag) (mg : Str → Option Value) (C m : Str) (c f : Addr) : Prop where
  nm : mg C = some (.ref c)
  cls : Cls K c
  met : Meth K c m f
section
variable {X : Cx} {o e : Expr} {es : List Expr} {i k n : Nat} {C m : Str} {c f : Addr} {fd : FuncData} {ps : List Str} {M : FM} {pos apos : Pos} {t : Ge → Out (List R)} {pl : Sem Bool}
theorem px_meth (he : PE X o (tVar i)) (h : MethOk X.K X.mg C m c f) (F : FnOk X.prog X.w X.K X.mg X.base (L2.CX X.prog X.w) k f fd ps (spM (kx X) X.mg (n + 1) M)) (hr : Room k X.A) (hb : Binds X.K fd ps []) (pa : PAx X (e :: es) t)
    (hl : ∀ Γ rs Γ', t Γ = .ok rs Γ' → rs.length = n) (hst : starEach (e :: es) X.env = (false, eval e X.env) :: starEach es X.env := by rfl) (hpl : (backTo pos (starEach es X.env)).any (·.1) = false := by rfl)
    (ht : eval (.Call (.Attribute o m apos) (e :: es) [] pos) X.env = (do
      let ov ← eval o X.env
      standAt apos.atName
      let (f, first) ← holding [ov] (getMethod ov m pl)
      callWith pos f first (backTo pos (starEach (e :: es) X.env)) (backToKw pos (keywordEach [] X.env))) := by rfl) :
    PX X (.Call (.Attribute o m apos) (e :: es) [] pos) (methF M C m i t) := by
  refine ⟨fun W tk S H σ Γ Q E G => tW_of (pe_methSD (E := fun σ c d H' => W c d σ H') he h.cls h.met F hr hb .nil (fun σ => passAt tk σ) pa_w hst hpl ht) ?_⟩
  unfold methF at G
  cases e1 : instAt Γ i with
  | none => rw [e1] at G; exact G.elim
  | some p =>
    obtain ⟨C', fs⟩ := p
    rw [e1] at G
    dsimp only at G
    by_cases hC : C' = C ∧ fs.lookup m = none
    · rw [if_pos hC] at G
      obtain ⟨rfl, hm⟩ := hC
      obtain ⟨a, c1, dx, vs, FF, q1, q2, q3, q4, q5, q6, q7, q8, q9, q10⟩ := inst_ok E e1
      rw [show (kx X).cl C' = some c from cl_of h.nm] at q2
      cases q2
      refine ⟨.ref a, q1, a, dx, vs, rfl, q5, (q7.look m).1 hm, ?_⟩
      refine tWA_mono (pa.run W tk S H σ Γ _ E (OG.bind G)) fun vs H2 ⟨S2, rs, Γ2, eo, F2, E2, R2, G2⟩ => ?_
      rw [List.append_nil]
      exact sp_of (rs := .s i :: rs) E2 F2 ⟨q1, R2⟩ (by rw [List.length_cons, hl _ _ _ eo]) G2
    · rw [if_neg hC] at G
      exact G.elim
theorem px_meth0 (he : PE X o (tVar i)) (h : MethOk X.K X.mg C m c f) (F : FnOk X.prog X.w X.K X.mg X.base (L2.CX X.prog X.w) k f fd ps (spM (kx X) X.mg 1 M)) (hr : Room k X.A) (hb : Binds X.K fd ps [])
    (ht : eval (.Call (.Attribute o m apos) [] [] pos) X.env = (do
      let ov ← eval o X.env
      standAt apos.atName
      let (f, first) ← holding [ov] (getMethod ov m pl)
      callWith pos f first (backTo pos (starEach [] X.env)) (backToKw pos (keywordEach [] X.env))) := by rfl) :
    PX X (.Call (.Attribute o m apos) [] [] pos) (methF M C m i argN) := by
  refine ⟨fun W tk S H σ Γ Q E G => tW_of (pe_methSD0 (E := fun σ c d H' => W c d σ H') he h.cls h.met F hr hb .nil (fun σ => passAt tk σ) ht) ?_⟩
  unfold methF at G
  cases e1 : instAt Γ i with
  | none => rw [e1] at G; exact G.elim
  | some p =>
    obtain ⟨C', fs⟩ := p
    rw [e1] at G
    dsimp only at G
    by_cases hC : C' = C ∧ fs.lookup m = none
    · rw [if_pos hC] at G
      obtain ⟨rfl, hm⟩ := hC
      obtain ⟨a, c1, dx, vs, FF, q1, q2, q3, q4, q5, q6, q7, q8, q9, q10⟩ := inst_ok E e1
      rw [show (kx X).cl C' = some c from cl_of h.nm] at q2
      cases q2
      exact ⟨.ref a, q1, a, dx, vs, rfl, q5, (q7.look m).1 hm, sp_of (vs := [.ref a]) (rs := [.s i]) E .refl ⟨q1, trivial⟩ rfl G⟩
    · rw [if_neg hC] at G
      exact G.elim
end
end Ly
set_option maxRecDepth 100000
/-! instances made -/
namespace L2
open PySem PySem.Spec PyProof.Rows
section
variable {X : Cx} {CX : CXT} {k : Nat} {f C : Addr} {fd : FuncData} {ps : List Str} {sp : Sp} {dvs : List V} {ds : List Value} {E : St → XK} {x m : Str} {p pos apos : Pos} {e o : Expr} {es : List Expr} {ta : TE} {t : TA}
def tMakeSD (C : Addr) (sp : Sp) (dvs : List V) (E : St → XK) (t : TA) : TE := fun σ H Q => t σ H fun vs H1 => ∀ x dx, H1 x = none → H1 dx = none → dx ≠ x →
  sp (.ref x :: (vs ++ dvs)) (upd (upd H1 dx (.own x)) x (.ins C dx [])) (fun v H2 => v = .non ∧ Q (.ref x) H2) (E σ)
theorem run_makeSD {pins : List (Addr × Obj)} {σ : St} {H : Hp} {s : Shared} {Q : VK} {us : List Value} {vs : List V} (M : Mk X.K C f) (F : FnOk X.prog X.w X.K X.mg X.base CX k f fd ps sp) (hr : Room (k + 1) X.A) (hb : Binds X.K fd ps ds) (hd : Vals dvs ds)
    (hx : PassesAt CX X σ (E σ)) (I : Inv X pins σ H s) (r : Vals vs us)
    (h : ∀ x dx, H x = none → H dx = none → dx ≠ x → sp (.ref x :: (vs ++ dvs)) (upd (upd H dx (.own x)) x (.ins C dx [])) (fun v H2 => v = .non ∧ Q (.ref x) H2) (E σ)) :
    wpAny (model X.prog X.w) X.A (call (.ref C) us) (EP X pins σ Q) X.xe s := by
  have hq := h (s.heap.objs.size + 1) s.heap.objs.size (I.hok.fresh (Nat.le_succ _)) (I.hok.fresh (Nat.le_refl _)) (Nat.ne_of_lt (Nat.lt_succ_self _))
  have I2 := Inv.made (C := C) I
  have r2 : Vals (V.ref (s.heap.objs.size + 1) :: (vs ++ dvs)) (Value.ref (s.heap.objs.size + 1) :: (us ++ ds)) := .cons rfl (r.append hd)
  have hl : (Value.ref (s.heap.objs.size + 1) :: us ++ ds).length = ps.length := by
    have e := r2.length
    rw [F.len _ _ _ _ hq] at e
    exact e.symm
  refine wpAny_call (make_map (f := f) I.kIn M.makes M.init (beq_iff_eq.mp M.fn) (codeAny_mono (F.run _ X.stack _ _ ⟨Value.ref (s.heap.objs.size + 1) :: us, []⟩ (Value.ref (s.heap.objs.size + 1) :: (us ++ ds)) _ _ (E σ) (hr.make C us [])
    (I2.env0.make C us []) (hb _ (Value.ref (s.heap.objs.size + 1) :: us) I2.kIn hl) r2 hq) fun r s' hq' => ?_))
  cases r with
  | error e => exact hx pins _ _ e s' I2 hq'
  | ok fl =>
    cases fl with
    | ret u =>
      obtain ⟨v, H', I3, rv, ev, q3⟩ := I2.after hq'
      subst ev
      exact ⟨rv, ⟨V.ref (s.heap.objs.size + 1), H', I3, rfl, q3⟩⟩
    | next => exact False.elim hq'
    | brk => exact False.elim hq'
    | cont => exact False.elim hq'
theorem pe_makeSD (M : Mk X.K C f) (F : FnOk X.prog X.w X.K X.mg X.base CX k f fd ps sp) (hr : Room (k + 1) X.A) (hg : Gl X x) (hm : X.mg x = some (.ref C)) (hb : Binds X.K fd ps ds) (hd : Vals dvs ds) (hx : ∀ σ, PassesAt CX X σ (E σ))
    (ha : PA X (e :: es) t) (hdb : (x == ("__debug__" : Str)) = false := by decide) (he : starEach (e :: es) X.env = (false, eval e X.env) :: starEach es X.env := by rfl) (hpl : (backTo pos (starEach es X.env)).any (·.1) = false := by rfl) :
    PE X (.Call (.Name x p) (e :: es) [] pos) (tMakeSD C sp dvs E t) := by
  refine ⟨fun pins s σ H Q I h => ?_⟩
  refine wpAny_Call_Name_kw (ld_glob I hg hm ?_ hdb)
  refine PySem.W.callWith_K (h₀ := X.base) I.ok.mod.kin M.kp (thn (ha.run pos pins s σ H _ I h) fun us s1 ⟨vs, H1, I1, r, q⟩ => ⟨I1.kIn, ?_⟩) he hpl
  exact run_makeSD M F hr hb hd (hx σ) I1 r q
theorem pe_makeSD0 (M : Mk X.K C f) (F : FnOk X.prog X.w X.K X.mg X.base CX k f fd ps sp) (hr : Room (k + 1) X.A) (hg : Gl X x) (hm : X.mg x = some (.ref C)) (hb : Binds X.K fd ps ds) (hd : Vals dvs ds) (hx : ∀ σ, PassesAt CX X σ (E σ))
    (hdb : (x == ("__debug__" : Str)) = false := by decide) : PE X (.Call (.Name x p) [] [] pos) (tMakeSD C sp dvs E tNil) := by
  refine ⟨fun pins s σ H Q I h => ?_⟩
  refine wpAny_Call_Name_kw (ld_glob I hg hm ?_ hdb)
  exact PySem.W.callWith_K0 I.kIn M.kp (run_makeSD (us := []) M F hr hb hd (hx σ) I .nil h)
end
end L2
namespace Ly
open PySem L2
def madeR (t : Ge) (Γ : Ge) (r : R) : Out R := match r, t with
  | .d .none, .p u :: _ => .ok (.o u) Γ
  | _, _ => .no
/-- C(..): the arguments are data -/
def makeM (M : FM) (C : Str) (rs : List R) (Γ : Ge) : Out R := match allD rs with
  | some ds => match M (.p (.i C []) :: ds.map Sl.d) with
    | .ok r us => madeR us Γ r
    | .ex x _ => .ex x Γ
    | .no => .no
  | none => .no
def makeF (M : FM) (C : Str) (t : Ge → Out (List R)) : EF := fun Γ => (t Γ).bind fun rs Γ1 => makeM M C rs Γ1
section
variable {X : Cx} {k n : Nat} {f c : Addr} {fd : FuncData} {ps : List Str} {M : FM} {x : Str} {p pos : Pos} {e : Expr} {es : List Expr} {t : Ge → Out (List R)}
theorem DqAll.mapGet {K : Kx} {S : Hp} : ∀ {vs : List V} {ds : List D}, DqAll K S vs ds → ∀ (i : Nat) (s2 : Sl), (ds.map Sl.d)[i]? = some s2 → ∃ v, (vs.map some)[i]? = some (some v) ∧ ∃ d, s2 = .d d ∧ Dq K S v d
  | _, _, .nil, i, s2, q => by simp at q
  | _, _, .cons (v := v) (d := d) h1 h2, 0, s2, q => by
    simp at q
    subst q
    exact ⟨v, rfl, d, rfl, h1⟩
  | _, _, .cons h1 h2, i + 1, s2, q => by
    obtain ⟨w, w1, w2⟩ := DqAll.mapGet h2 i s2 (by simpa using q)
    exact ⟨w, by simpa using w1, w2⟩
theorem first_env {K : Kx} {S : Sx} {H : Hp} {sl : Sl} {v : V} {Fp : List Addr} (e : Same S.hp H) (h : SlOk K S.hp H sl (some v) Fp) {vs : List V} {ds : List D} (hr : DqAll K S.hp vs ds) : EnvOk K ⟨S.hp, oneFp Fp⟩ H (some v :: vs.map some) (sl :: ds.map Sl.d) := by
  have hl := DqAll.length hr
  refine ⟨by simp [hl], e, fun i s2 q => ?_, fun i q => ?_, fun i j a h1 h2 => ?_⟩
  · cases i with
    | zero =>
      simp at q
      subst q
      exact ⟨_, rfl, h⟩
    | succ i =>
      obtain ⟨w, w1, d, rfl, w2⟩ := DqAll.mapGet hr i s2 (by simpa using q)
      refine ⟨some w, by simpa using w1, ?_, w, rfl, w2⟩
      show oneFp Fp (i + 1) = []
      unfold oneFp
      rw [if_neg (by omega)]
  · show oneFp Fp i = []
    unfold oneFp
    rw [if_neg (by simp at q; omega)]
  · have h1 : a ∈ oneFp Fp i := h1
    have h2 : a ∈ oneFp Fp j := h2
    unfold oneFp at h1 h2
    split at h1
    · split at h2
      · omega
      · simp at h2
    · simp at h1
/-- the class and its __init__ -/
structure MakeOk (K : PySem.W.Frag) (mg : Str → Option Value) (C : Str) (c f : Addr) : Prop where
  nm : mg C = some (.ref c)
  mkc : Mk K c f
theorem sp_ofM {W : WX} {S0 S : Sx} {H0 H : Hp} {σ : L2.St} {Γ0 Γ : Ge} {vs : List V} {rs : List R} {Q : VK} {C : Str} (hC : clOf X.mg C = some c) (E : EnvOk (kx X) S H σ Γ) (F : Frm S0 H0 σ Γ0 S H σ Γ) (R : ROkAll (kx X) σ S0 H0 S H vs rs) (hl : rs.length = n)
    (G : EG (kx X) X.mg W S0 H0 σ Γ0 Q (makeM M C rs Γ)) (y dx : Addr) (h1 : H y = none) (h2 : H dx = none) (h3 : dx ≠ y) :
    spM (kx X) X.mg (n + 1) M (.ref y :: vs) (upd (upd H dx (.own y)) y (.ins c dx [])) (fun v H2 => v = .non ∧ Q (.ref y) H2) (fun c d H' => W c d σ H') := by
  unfold makeM at G
  cases e1 : allD rs with
  | none => rw [e1] at G; exact G.elim
  | some ds =>
    rw [e1] at G
    dsimp only at G
    have hd := allD_ok R e1
    have E1 := E.push h2 (.own y)
    have h1' : (upd H dx (.own y)) y = none := by rw [upd_ne (fun z => h3 z.symm)]; exact h1
    have E2 := E1.push h1' (.ins c dx [])
    have F2 := F.trans ((Frm.push E h2 (.own y)).trans (Frm.push E1 h1' (.ins c dx [])))
    have nown : ∀ a, H a = none → ¬ Own S a ∧ (H0 a = none ∨ Own S0 a) := fun a ha => by
      refine ⟨fun q => ?_, back_own' F (.inl ha)⟩
      obtain ⟨_, o, w⟩ := own_tracked E q
      rw [ha] at w; cases w
    have hF : ∀ a ∈ [y, dx], ¬ Own S a ∧ (H0 a = none ∨ Own S0 a) := fun a ha => by
      simp at ha
      rcases ha with rfl | rfl
      · exact nown _ h1
      · exact nown _ h2
    have hT : TOk (kx X) S.hp (upd (upd H dx (.own y)) y (.ins c dx [])) (.i C []) (.ref y) (y :: dx :: []) := .i hC (E.free h1) (E.free h2) upd_same (by rw [upd_ne h3]; exact upd_same) .nil
    have hN : (y :: dx :: ([] : List Addr)).Nodup := by simp; exact fun z => h3 z.symm
    have EE := first_env (sl := .p (.i C [])) (v := .ref y) (Fp := [y, dx]) E2.sub ⟨_, rfl, hT, hN⟩ hd
    refine ⟨⟨S.hp, oneFp [y, dx]⟩, .p (.i C []) :: ds.map Sl.d, by rw [List.length_cons, List.length_map, ← hl, ← DqAll.length hd, ROkAll.len R], EE, fun i sl q => ?_, ?_⟩
    · cases i with
      | zero => simp at q; subst q; trivial
      | succ i =>
        simp at q
        obtain ⟨d, _, rfl⟩ := q
        trivial
    · cases em : M (.p (.i C []) :: ds.map Sl.d) with
      | no => rw [em] at G; exact G.elim
      | ex z us =>
        rw [em] at G
        intro S' H' c' d' F' E' q
        obtain ⟨f1, e1⟩ := lent_frm E2 F2 hF F' E'
        exact G _ H' c' d' f1 e1 q
      | ok r us =>
        rw [em] at G
        intro S' H' v F' E' q
        obtain ⟨f1, e1⟩ := lent_frm E2 F2 hF F' E'
        obtain ⟨_, t', ht'⟩ := F'.bop 0 _ rfl
        have G : EG (kx X) X.mg W S0 H0 σ Γ0 Q (madeR us Γ r) := G
        cases us with
        | nil => simp at ht'
        | cons u0 us =>
          simp at ht'
          subst ht'
          cases r with
          | s _ => exact G.elim
          | l _ => exact G.elim
          | o _ => exact G.elim
          | d z =>
            cases z <;> first
              | exact G.elim
              | skip
            have hv : v = .non := by
              have q : Dq (kx X) S'.hp v .none := q
              cases q
              rfl
            refine ⟨hv, ?_⟩
            obtain ⟨w, w1, w2, w3⟩ := E'.tree 0 t' (.inr rfl)
            simp at w1
            subst w1
            refine G _ H' (.ref y) f1 e1 ⟨S'.fp 0, w2, w3, fun a ha => ?_⟩
            have hb : H a = none := by
              rcases F'.own a ⟨0, ha⟩ with q | q
              · have := own_one q
                simp at this
                rcases this with rfl | rfl
                · exact h1
                · exact h2
              · by_cases z1 : a = y
                · rw [z1]; exact h1
                · rw [upd_ne z1] at q
                  by_cases z2 : a = dx
                  · rw [z2]; exact h2
                  · rw [upd_ne z2] at q
                    exact q
            exact nown a hb
theorem px_make (h : MakeOk X.K X.mg x c f) (F : FnOk X.prog X.w X.K X.mg X.base (L2.CX X.prog X.w) k f fd ps (spM (kx X) X.mg (n + 1) M)) (hr : Room (k + 1) X.A) (hg : Gl X x) (hb : Binds X.K fd ps [])
    (pa : PAx X (e :: es) t) (hl : ∀ Γ rs Γ', t Γ = .ok rs Γ' → rs.length = n) (hdb : (x == ("__debug__" : Str)) = false := by decide) (he : starEach (e :: es) X.env = (false, eval e X.env) :: starEach es X.env := by rfl) (hpl : (backTo pos (starEach es X.env)).any (·.1) = false := by rfl) :
    PX X (.Call (.Name x p) (e :: es) [] pos) (makeF M x t) := by
  refine ⟨fun W tk S H σ Γ Q E G => tW_of (pe_makeSD (E := fun σ c d H' => W c d σ H') h.mkc F hr hg h.nm hb .nil (fun σ => passAt tk σ) pa_w hdb he hpl) ?_⟩
  refine tWA_mono (pa.run W tk S H σ Γ _ E (OG.bind G)) fun vs H2 ⟨S2, rs, Γ2, eo, F2, E2, R2, G2⟩ => ?_
  intro y dx h1 h2 h3
  rw [List.append_nil]
  exact sp_ofM (cl_of h.nm) E2 F2 R2 (hl _ _ _ eo) G2 y dx h1 h2 h3
theorem px_make0 (h : MakeOk X.K X.mg x c f) (F : FnOk X.prog X.w X.K X.mg X.base (L2.CX X.prog X.w) k f fd ps (spM (kx X) X.mg 1 M)) (hr : Room (k + 1) X.A) (hg : Gl X x) (hb : Binds X.K fd ps [])
    (hdb : (x == ("__debug__" : Str)) = false := by decide) : PX X (.Call (.Name x p) [] [] pos) (makeF M x argN) := by
  refine ⟨fun W tk S H σ Γ Q E G => tW_of (pe_makeSD0 (E := fun σ c d H' => W c d σ H') h.mkc F hr hg h.nm hb .nil (fun σ => passAt tk σ) hdb) ?_⟩
  exact fun y dx h1 h2 h3 => sp_ofM (vs := []) (rs := []) (cl_of h.nm) E .refl trivial rfl G y dx h1 h2 h3
end
end Ly
set_option maxRecDepth 100000
/-! texts: join, split, str, f-strings -/
namespace Ly
open PySem L2
def strsD : List D → Option (List Str)
  | [] => some []
  | .str s :: ds => (strsD ds).map (s :: ·)
  | _ :: _ => none
theorem strsD_map : ∀ ys : List Str, strsD (ys.map PyData.str) = some ys
  | [] => rfl
  | y :: ys => by
    show (strsD (ys.map PyData.str)).map (y :: ·) = _
    rw [strsD_map ys]
    rfl
theorem strsD_ok {K : Kx} {S : Hp} : ∀ {vs : List V} {ds : List D} {ys : List Str}, DqAll K S vs ds → strsD ds = some ys → vs = ys.map V.str
  | _, _, ys, .nil, e => by cases e; rfl
  | _, _, ys, .cons h t, e => by
    cases h <;> first
      | (cases e; done)
      | skip
    rename_i vs ds s
    have e : (strsD ds).map (s :: ·) = some ys := e
    obtain ⟨zs, e1, rfl⟩ := Option.map_eq_some_iff.mp e
    rw [strsD_ok t e1]
    rfl
section
variable {K : Kx} {X : Cx} {a e : Expr} {f g : EF} {pos apos : Pos} {p2 : Pos}
def rJoin (K : Kx) (sep : Str) : V → Hp → VK → Prop := fun y H Q => ∃ a p, ∃ ys : List Str, V.str sep = .str a ∧ [y] = [V.ref p] ∧ (SqL K H p (ys.map V.str) ∨ SqT K H p (ys.map V.str)) ∧ (ys.map (·.length)).sum + ys.length * a.length ≤ 16777216 ∧ Q (.str (Txt.join a ys)) H
def joinD (sep : Str) : D → Option O := fun d => match d with
  | .list ds => match strsD ds with
    | some ys => if (ys.map (·.length)).sum + ys.length * sep.length ≤ 16777216 then some (.d (.str (Txt.join sep ys))) else none
    | none => none
  | .tuple ds => match strsD ds with
    | some ys => if (ys.map (·.length)).sum + ys.length * sep.length ≤ 16777216 then some (.d (.str (Txt.join sep ys))) else none
    | none => none
  | _ => none
theorem unD_join {sep : Str} : UnD K (rJoin K sep) (joinD sep) := by
  intro S H x d o Q hS hx he q
  cases d <;> first
    | (cases he; done)
    | skip
  · rename_i ds
    unfold joinD at he
    dsimp only at he
    cases e1 : strsD ds with
    | none => rw [e1] at he; cases he
    | some ys =>
      rw [e1] at he
      dsimp only at he
      split at he
      · rename_i hz
        cases he
        obtain ⟨a, vs, rfl, h1, h2⟩ := hx.list hS
        rw [strsD_ok h2 e1] at h1
        exact ⟨sep, a, ys, rfl, rfl, .inl h1.seq, hz, q _ (.str _)⟩
      · cases he
  · rename_i ds
    unfold joinD at he
    dsimp only at he
    cases e1 : strsD ds with
    | none => rw [e1] at he; cases he
    | some ys =>
      rw [e1] at he
      dsimp only at he
      split at he
      · rename_i hz
        cases he
        obtain ⟨a, vs, rfl, h1, h2⟩ := hx.tup hS
        rw [strsD_ok h2 e1] at h1
        exact ⟨sep, a, ys, rfl, rfl, .inr h1, hz, q _ (.str _)⟩
      · cases he
/-- "sep".join(e) -/
theorem px_join {sep : Str} {j : Nat} (pe : PX X e f) (hs : starEach [e] X.env = [(false, eval e X.env)] := by rfl) (hbase : attributeBase (.Constant (.str sep) j p2) "join" X.env (eval (.Constant (.str sep) j p2) X.env) = eval (.Constant (.str sep) j p2) X.env := by rfl) (hline : (apos.endLine == pos.line) = true := by rfl) :
    PX X (.Call (.Attribute (.Constant (.str sep) j p2) "join" apos) [e] [] pos) (unF (joinD sep) f) :=
  ⟨fun W tk S H σ Γ Q E G => tW_of (pe_join pe_str pe_w hs hbase hline) ⟨⟨sep, rfl⟩, seq1 tk pe E G fun S2 H2 Γ2 x r1 F E R1 G => op1_ok (rr := rJoin (kx X) sep) unD_join E F R1 G⟩⟩
def rSplit (sep : Str) : V → Hp → VK → Prop := fun x H Q => (∃ a, x = V.str a) ∧ ∃ a b, x = .str a ∧ [V.str sep] = [.str b] ∧ (b.length == 0) = false ∧ a.length + 2 ≤ sizeLine ∧ rNewStrs (Txt.split a b) H Q
def splitD (sep : Str) : D → Option O := fun d => match d with
  | .str a => if (sep.length == 0) = false ∧ a.length + 2 < 1000000 then some (.l ((Txt.split a sep).map .str)) else none
  | _ => none
theorem dqStrs {K : Kx} {S : Hp} : ∀ ys : List Str, DqAll K S (ys.map V.str) (ys.map PyData.str)
  | [] => .nil
  | y :: ys => .cons (.str y) (dqStrs ys)
theorem unD_split {sep : Str} : UnD K (rSplit sep) (splitD sep) := by
  intro S H x d o Q hS hx he q
  cases d <;> first
    | (cases he; done)
    | skip
  rename_i a
  unfold splitD at he
  dsimp only at he
  split at he
  · rename_i hz
    cases he
    rw [hx.str]
    exact ⟨⟨a, rfl⟩, a, sep, rfl, rfl, hz.1, small6 hz.2, fun p hp => q p _ hp (dqStrs _)⟩
  · cases he
/-- e.split("sep") -/
theorem px_split {sep : Str} {j : Nat} (pe : PX X e f) (hs : starEach [.Constant (.str sep) j p2] X.env = [(false, eval (.Constant (.str sep) j p2) X.env)] := by rfl) (hbase : attributeBase e "split" X.env (eval e X.env) = eval e X.env := by rfl) (hline : (apos.endLine == pos.line) = true := by rfl) :
    PX X (.Call (.Attribute e "split" apos) [.Constant (.str sep) j p2] [] pos) (unF (splitD sep) f) :=
  ⟨fun W tk S H σ Γ Q E G => tW_of (pe_split pe_w pe_str hs hbase hline) (seq1 tk pe E G fun S2 H2 Γ2 x r1 F E R1 G => op1_ok (rr := rSplit sep) unD_split E F R1 G)⟩
/-! str(i) -/
def rStr : List V → Hp → VK → Prop := fun xs H Q => ∃ i, xs = [V.int i] ∧ i.natAbs.log2 < 1920 ∧ Q (.str (toString i)) H
def strC : List D → Option O := fun ds => match ds with
  | [.int i] => if i.natAbs.log2 < 1920 then some (.d (.str (toString i))) else none
  | _ => none
theorem clD_str : ClD K rStr strC := by
  intro S H vs ds o Q hS hv he q
  match ds, he with
  | [.int i], he =>
    have he : (if i.natAbs.log2 < 1920 then some (O.d (.str (toString i))) else none) = some o := he
    split at he
    · rename_i hz
      cases he
      obtain ⟨v, rfl, w⟩ := vwAll1 hv
      exact ⟨i, by rw [w.int], hz, q _ (.str _)⟩
    · cases he
/-! f-strings -/
inductive FP where
  | c (s : Str) | e (f : EF)
def txtD : Option D → Option Str
  | some (.str y) => if y.length < 1000000 then some y else none
  | some (.int i) => if i.natAbs.log2 < 1920 then some (toString i) else none
  | _ => none
def fsF : List FP → Str → Ge → Out R
  | [], acc, Γ => .ok (.d (.str acc)) Γ
  | .c s :: r, acc, Γ => if (acc ++ s).length < 1000000 then fsF r (acc ++ s) Γ else .no
  | .e f :: r, acc, Γ => (f Γ).bind fun x Γ1 => match txtD (view Γ1 x) with
    | some y => if (acc ++ y).length < 1000000 then fsF r (acc ++ y) Γ1 else .no
    | none => .no
def fstrF (ps : List FP) : EF := fsF ps Str.empty
inductive PFx (X : Cx) : List Expr → List FP → List TE → Prop
  | nil : PFx X [] [] []
  | c {s : Str} {j : Nat} {p : Pos} {es : List Expr} {fs : List FP} {ts : List TE} : PFx X es fs ts → PFx X (.Constant (.str s) j p :: es) (.c s :: fs) (tC (.str s) :: ts)
  | e {e : Expr} {f : EF} {p : Pos} {es : List Expr} {fs : List FP} {ts : List TE} : PX X e f → PFx X es fs ts → PFx X (.FormattedValue e (-1) none p :: es) (.e f :: fs) (tFmt (tW X e) :: ts)
theorem PFx.pj {es : List Expr} {fs : List FP} {ts : List TE} (h : PFx X es fs ts) : PJ X es ts := by
  induction h with
  | nil => exact .nil
  | c _ ih => exact .cons pe_str ih
  | e _ _ ih => exact .cons (pe_fmt pe_w) ih
theorem PFx.run {es : List Expr} {fs : List FP} {ts : List TE} {W : WX} (tk : Takes X W) {S0 : Sx} {H0 : Hp} {σ : L2.St} {Γ0 : Ge} {Q : VK} (h : PFx X es fs ts) : ∀ (acc : Str) (S : Sx) (H : Hp) (Γ : Ge), Frm S0 H0 σ Γ0 S H σ Γ → EnvOk (kx X) S H σ Γ → EG (kx X) X.mg W S0 H0 σ Γ0 Q (fsF fs acc Γ) → tJs ts acc σ H fun out H1 => Q (.str out) H1 := by
  induction h with
  | nil => exact fun acc S H Γ F E G => G S H _ F E (.str acc)
  | @c s j p es fs ts r ih =>
    intro acc S H Γ F E G
    unfold fsF at G
    by_cases hl : (acc ++ s).length < 1000000
    · rw [if_pos hl] at G
      exact ⟨s, rfl, small6 hl, ih _ S H Γ F E G⟩
    · rw [if_neg hl] at G
      exact G.elim
  | @e e f p es fs ts pe r ih =>
    intro acc S H Γ F E G
    unfold fsF at G
    show tW X e σ H _
    refine tW_mono (pe.run W tk S H σ Γ _ E (OG.bind (EG.shift F G))) fun x H2 ⟨S2, r1, Γ2, eo, F2, E2, R2, G2⟩ => ?_
    have vw := fun d (e : view Γ2 r1 = some d) => R2.vw E2 e
    have G2 : EG (kx X) X.mg W S H σ Γ Q (match txtD (view Γ2 r1) with | some y => if (acc ++ y).length < 1000000 then fsF fs (acc ++ y) Γ2 else .no | none => .no) := G2
    have G3 : EG (kx X) X.mg W S0 H0 σ Γ0 Q (match txtD (view Γ2 r1) with | some y => if (acc ++ y).length < 1000000 then fsF fs (acc ++ y) Γ2 else .no | none => .no) := by
      have : ((f Γ).bind fun x Γ1 => match txtD (view Γ1 x) with | some y => if (acc ++ y).length < 1000000 then fsF fs (acc ++ y) Γ1 else Out.no | none => .no) = (match txtD (view Γ2 r1) with | some y => if (acc ++ y).length < 1000000 then fsF fs (acc ++ y) Γ2 else .no | none => .no) := by
        rw [eo]; rfl
      rw [← this]
      exact G
    cases ev : view Γ2 r1 with
    | none => rw [ev] at G3; exact G3.elim
    | some d =>
      rw [ev] at G3
      have hv := vw d ev
      have fin : ∀ y, txtD (some d) = some y → ∃ y', V.str y = .str y' ∧ (acc ++ y').length ≤ sizeLine ∧ tJs ts (acc ++ y') σ H2 fun out H1 => Q (.str out) H1 := fun y ey => by
        rw [ey] at G3
        dsimp only at G3
        by_cases hl : (acc ++ y).length < 1000000
        · rw [if_pos hl] at G3
          exact ⟨y, rfl, small6 hl, ih _ S2 H2 Γ2 (F.trans F2) E2 G3⟩
        · rw [if_neg hl] at G3
          exact G3.elim
      cases d <;> first
        | exact G3.elim
        | skip
      · rename_i i
        rw [hv.int]
        by_cases hz : i.natAbs.log2 < 1920
        · exact .inr ⟨i, rfl, hz, fin _ (if_pos hz)⟩
        · have : txtD (some (PyData.int i)) = none := if_neg hz
          rw [this] at G3
          exact G3.elim
      · rename_i y
        rw [hv.str]
        by_cases hz : y.length < 1000000
        · exact .inl ⟨y, rfl, small6 hz, fin _ (if_pos hz)⟩
        · have : txtD (some (PyData.str y)) = none := if_neg hz
          rw [this] at G3
          exact G3.elim
/-- f".." of two parts or more -/
theorem px_fstr {e1 e2 : Expr} {es : List Expr} {fs : List FP} {ts : List TE} (h : PFx X (e1 :: e2 :: es) fs ts) : PX X (.JoinedStr (e1 :: e2 :: es) pos) (fstrF fs) :=
  ⟨fun W tk S H σ Γ Q E G => tW_of (pe_joined h.pj) (h.run tk Str.empty S H Γ .refl E G)⟩
end
end Ly
set_option maxRecDepth 100000
/-! Lz1: dicts whose keys are tuples, at the heap -/
namespace Ly
open PySem L2
section
variable {X : Cx} {pins : List (Addr × Obj)} {σ : L2.St} {H : Hp} {s : Shared}
theorem nks_cons {d : D} {ds : List D} {ks : List NestedKey} (h : nks (d :: ds) = some ks) : ∃ k r, ks = k :: r ∧ nk d = some k ∧ nks ds = some r := by
  unfold nks at h
  cases e1 : nk d with
  | none => rw [e1] at h; cases h
  | some k =>
    cases e2 : nks ds with
    | none => rw [e1, e2] at h; cases h
    | some r =>
      rw [e1, e2] at h
      cases h
      exact ⟨k, r, rfl, rfl, rfl⟩
/-- data that may be a key is such a key at the heap -/
theorem nested_at (I : Inv X pins σ H s) {v : V} {d : D} (h : Dq (kx X) H v d) : ∀ {k : NestedKey} {u : Value}, nk d = some k → RelV v u → NestedIs s.heap k u := by
  refine Dq.rec (motive_1 := fun v d _ => ∀ {k : NestedKey} {u : Value}, nk d = some k → RelV v u → NestedIs s.heap k u) (motive_2 := fun vs ds _ => ∀ {ks : List NestedKey} {us : List Value}, nks ds = some ks → Vals vs us → NestedAll s.heap ks us)
    (motive_3 := fun _ _ _ => True) (motive_4 := fun _ _ _ => True) ?_ ?_ ?_ ?_ ?_ ?_ ?_ ?_ ?_ ?_ ?_ ?_ ?_ ?_ h
  · intro k u e r
    cases e
    cases (show u = Value.none from r)
    exact .none
  · intro b k u e r
    cases e
  · intro i k u e r
    cases e
    obtain ⟨t, rfl⟩ := (show ∃ t, u = Value.int i t from r)
    exact .int i t
  · intro x k u e r
    cases e
    obtain ⟨t, rfl⟩ := (show ∃ t, u = Value.str x t from r)
    exact .text x t
  · intro a xs ds _ _ _ k u e r
    cases e
  · intro a xs ds hs ha ih k u e r
    have e : (nks ds).map NestedKey.tup = some k := e
    obtain ⟨ks, e1, rfl⟩ := Option.map_eq_some_iff.mp e
    cases (show u = Value.ref a from r)
    obtain ⟨its, o, n, hv, h1, h2, h3⟩ := sqT_at I.hok I.kIn hs
    exact .tup h1 h2 h3 (by simpa using ih e1 hv)
  · intro a ks kvs _ _ _ k u e r
    cases e
  · intro a xs kvs _ _ _ k u e r
    cases e
  · intro ks us e r
    cases e
    cases r
    exact .nil
  · intro v vs d ds _ _ i1 i2 ks us e r
    obtain ⟨k, q, rfl, e1, e2⟩ := nks_cons e
    cases r with
    | cons r1 r2 => exact .cons (i1 e1 r1) (i2 e2 r2)
  all_goals (intros; trivial)
/-- a value that is a key -/
def KeyAt (K : Kx) (H : Hp) (y : V) (k : NestedKey) : Prop := ∃ b c, y = .ref b ∧ Dq K H y c ∧ nk c = some k ∧ k.depth ≤ 8
theorem KeyAt.is (I : Inv X pins σ H s) {y : V} {k : NestedKey} (h : KeyAt (kx X) H y k) {u : Value} (r : RelV y u) : ∃ b, y = .ref b ∧ u = .ref b ∧ (nestedKind X.prog X.w).is s.heap k b := by
  obtain ⟨b, c, rfl, h1, h2, h3⟩ := h
  cases (show u = Value.ref b from r)
  exact ⟨b, rfl, rfl, nested_at I h1 h2 rfl, h3⟩
/-- the keys of a dict are keys -/
def KeysAt (K : Kx) (H : Hp) (xs : List (NestedKey × Addr × V)) : Prop := ∀ x ∈ xs, KeyAt K H (.ref x.2.1) x.1
theorem DqKx.keys {K : Kx} {S H : Hp} (e : Same S H) : ∀ {xs : List (NestedKey × Addr × V)} {kvs : List (D × D)}, DqKx K S xs kvs → KeysAt K H xs
  | _, _, .nil => fun _ h => by simp at h
  | _, _, .cons h1 n1 n2 _ t => fun x h => by
    rcases List.mem_cons.mp h with rfl | h
    · exact ⟨_, _, rfl, Same.dp e h1, n1, n2⟩
    · exact DqKx.keys e t x h
theorem TKx.keys {K : Kx} {S G H : Hp} (e : Same S H) : ∀ {xs : List (NestedKey × Addr × V)} {kvs : List (D × T)} {F : List Addr}, TKx K S G xs kvs F → KeysAt K H xs := by
  intro xs kvs
  induction kvs generalizing xs with
  | nil =>
    intro F h x hx
    cases h
    simp at hx
  | cons p r ih =>
    intro F h x hx
    cases h with
    | cons h0 n1 n2 h1 h2 =>
      rcases List.mem_cons.mp hx with rfl | hx
      · exact ⟨_, _, rfl, Same.dp e h0, n1, n2⟩
      · exact ih h2 x hx
/-- what stands at a key -/
def atV (xs : List (NestedKey × Addr × V)) (k : NestedKey) : Option V := (xs.find? fun x => decide (x.1 = k)).map (·.2.2)
abbrev RelX : List (NestedKey × Addr × V) → List (NestedKey × Addr × Value) → Prop := Paired fun p q => p.1 = q.1 ∧ p.2.1 = q.2.1 ∧ RelV p.2.2 q.2.2
theorem RelX.at {xs : List (NestedKey × Addr × V)} {ys : List (NestedKey × Addr × Value)} (r : RelX xs ys) (k : NestedKey) : RelO (atV xs k) ((atKey ys k).map (·.2)) := by
  induction r with
  | nil => trivial
  | @cons p q ps qs h t ih =>
    obtain ⟨h1, h2, h3⟩ := h
    by_cases e : p.1 = k
    · have e2 : q.1 = k := by rw [← h1]; exact e
      have a1 : atV (p :: ps) k = some p.2.2 := by simp [atV, List.find?_cons, e]
      have a2 : (atKey (q :: qs) k).map (·.2) = some q.2.2 := by simp [atKey, List.find?_cons, e2]
      rw [a1, a2]
      exact h3
    · have e2 : ¬ q.1 = k := by rw [← h1]; exact e
      simpa [atV, atKey, List.find?_cons, e, e2] using ih
theorem RelX.keys {xs : List (NestedKey × Addr × V)} {ys : List (NestedKey × Addr × Value)} (r : RelX xs ys) : ys.map (·.1) = xs.map (·.1) := by
  induction r with
  | nil => rfl
  | cons h t ih => rw [List.map_cons, List.map_cons, ih, h.1]
/-- the dict as the library tells it -/
theorem dro_at (I : Inv X pins σ H s) {a : Addr} {xs : List (NestedKey × Addr × V)} (h : H a = some (DRO (kx X) a xs)) (hk : KeysAt (kx X) H xs) :
    ∃ ys, RelX xs ys ∧ s.heap.DictOfH (nestedKind X.prog X.w) a ys ∧ (a == sysModules) = false ∧ xs.length ≤ sizeLine := by
  obtain ⟨⟨h1, h2, h3, ys, r, o, es, ep, w1, w2, w3, w4⟩, _, _⟩ := (show ObjOk X.prog X.w H s.heap a (DRO (kx X) a xs) from I.hok a _ h)
  refine ⟨ys, r, ⟨o, es, ep, w1, w2, w3, w4, fun y hy => ?_, by rw [RelX.keys r]; exact h3⟩, h1, h2⟩
  have : ∀ {ps : List (NestedKey × Addr × V)} {qs : List (NestedKey × Addr × Value)}, RelX ps qs → (∀ x ∈ ps, KeyAt (kx X) H (.ref x.2.1) x.1) → ∀ y ∈ qs, (nestedKind X.prog X.w).is s.heap y.1 y.2.1 := by
    intro ps qs r
    induction r with
    | nil => intro _ y hy; simp at hy
    | @cons p q ps qs e t ih =>
      intro hp y hy
      rcases List.mem_cons.mp hy with rfl | hy
      · obtain ⟨b, e1, e2, z⟩ := (hp p (by simp)).is I (u := .ref p.2.1) rfl
        cases e1
        rw [← e.1, ← e.2.1]
        exact z
      · exact ih (fun x hx => hp x (by simp [hx])) y hy
  exact this r hk y hy
def XGet (K : Kx) (H : Hp) (a : Addr) (y : V) (o : Option V) : Prop := ∃ xs k, H a = some (DRO K a xs) ∧ KeysAt K H xs ∧ KeyAt K H y k ∧ o = atV xs k
theorem room_n {A : Around} (hu : A.units + 64 < cLine) : (nestedKind X.prog X.w).room A.in1 := by
  show A.units + 1 + 8 < cLine
  omega
variable {a : Addr} {y : V} {u : Value} {o : Option V} {A : Around} {E : Value → Shared → Prop}
theorem x_get {v : V} {Q : Value → Shared → Prop} (hu : A.units + 64 < cLine) (I : Inv X pins σ H s) (g : XGet (kx X) H a y (some v)) (ry : RelV y u) (h : ∀ w' s', Inv X pins σ H s' → RelV v w' → Q w' s') : wpAny (model X.prog X.w) A (getItem (.ref a) u) Q E s := by
  obtain ⟨xs, k, h1, h2, h3, h4⟩ := g
  obtain ⟨ys, r, dd, _, _⟩ := dro_at I h1 h2
  obtain ⟨b, rfl, rfl, hk⟩ := h3.is I ry
  have q := RelX.at r k
  rw [← h4] at q
  cases e : atKey ys k with
  | none => rw [e] at q; exact q.elim
  | some p =>
    rw [e] at q
    exact wpAny_getItem_heap (room_n (X := X) hu) hk dd e (h _ _ (I.tok _) q)
theorem x_in {Q : Value → Shared → Prop} (hu : A.units + 64 < cLine) (I : Inv X pins σ H s) (g : XGet (kx X) H a y o) (ry : RelV y u) (h : ∀ s', Inv X pins σ H s' → Q (.bool o.isSome) s') : wpAny (model X.prog X.w) A (compareOp .In u (.ref a)) Q E s := by
  obtain ⟨xs, k, h1, h2, h3, h4⟩ := g
  obtain ⟨ys, r, dd, hd, _⟩ := dro_at I h1 h2
  obtain ⟨b, rfl, rfl, hk⟩ := h3.is I ry
  refine wpAny_in_heap (room_n (X := X) hu) hk hd dd ?_
  have q := (RelX.at r k).isSome_eq
  rw [Option.isSome_map] at q
  rw [← q, ← h4]
  exact h _ (I.tok _)
theorem x_notIn {Q : Value → Shared → Prop} (hu : A.units + 64 < cLine) (I : Inv X pins σ H s) (g : XGet (kx X) H a y o) (ry : RelV y u) (h : ∀ s', Inv X pins σ H s' → Q (.bool (!o.isSome)) s') : wpAny (model X.prog X.w) A (compareOp .NotIn u (.ref a)) Q E s := by
  obtain ⟨xs, k, h1, h2, h3, h4⟩ := g
  obtain ⟨ys, r, dd, hd, _⟩ := dro_at I h1 h2
  obtain ⟨b, rfl, rfl, hk⟩ := h3.is I ry
  show wpAny _ _ (do return .bool (!(← contains (.ref a) (.ref b)))) Q E s
  refine wpAny_bind (wpAny_contains_heap (room_n (X := X) hu) hk hd dd (wpAny_pure ?_))
  have q := (RelX.at r k).isSome_eq
  rw [Option.isSome_map] at q
  rw [← q, ← h4]
  exact h _ (I.tok _)
end
end Ly
set_option maxRecDepth 100000
/-! Lz2: dicts read: d[x], x in d, x not in d -/
namespace Ly
open PySem L2
def GetAny (K : Kx) (H : Hp) (a : Addr) (y : V) (o : Option V) : Prop := DGet H a y o ∨ XGet K H a y o
def rGet (K : Kx) : R2 := fun x y H Q => ∃ a v, x = .ref a ∧ GetAny K H a y (some v) ∧ Q v H
def rInDc (K : Kx) (neg : Bool) : R2 := fun y x H Q => ∃ a o, x = .ref a ∧ GetAny K H a y o ∧ Q (.bl (if neg then !o.isSome else o.isSome)) H
section
variable {X : Cx}
theorem op_inDc (hu : X.A.units + 64 < cLine) : OpR X (compareOp .In) (rInDc (kx X) false) := by
  intro pins s σ H x y v u Q I rx ry h
  obtain ⟨a, o, rfl, g, q⟩ := h
  cases (show u = Value.ref a from ry)
  have fin : ∀ s', Inv X pins σ H s' → EP X pins σ Q (.bool o.isSome) s' := fun s' I' => ⟨.bl o.isSome, H, I', rfl, q⟩
  rcases g with g | g
  · exact d_in (by omega) I g rx fin
  · exact x_in hu I g rx fin
theorem op_notInDc (hu : X.A.units + 64 < cLine) : OpR X (compareOp .NotIn) (rInDc (kx X) true) := by
  intro pins s σ H x y v u Q I rx ry h
  obtain ⟨a, o, rfl, g, q⟩ := h
  cases (show u = Value.ref a from ry)
  have fin : ∀ s', Inv X pins σ H s' → EP X pins σ Q (.bool (!o.isSome)) s' := fun s' I' => ⟨.bl (!o.isSome), H, I', rfl, q⟩
  rcases g with g | g
  · exact d_notIn (by omega) I g rx fin
  · exact x_notIn hu I g rx fin
theorem ix_dictG (hu : X.A.units + 64 < cLine) : IxR X (rGet (kx X)) := by
  intro value slice pins s σ H x y v u Q I rx ry h hs
  obtain ⟨a, r, rfl, g, q⟩ := h
  obtain rfl : v = Value.ref a := rx
  rcases g with g | g
  · exact PyProof.Rows.tail_any (dict_typeIs I g) PySem.F.slot_dict_getitem.lookup (d_getItem (by omega) I g ry fun w' s' I' rw' => ⟨r, H, I', rw', q⟩) hs
  · have ty : s.TypeIs (.ref a) "dict" := by
      obtain ⟨xs, k, h1, h2, h3, h4⟩ := g
      obtain ⟨ys, _, dd, _, _⟩ := dro_at I h1 h2
      exact dd.typeIs
    exact PyProof.Rows.tail_any ty PySem.F.slot_dict_getitem.lookup (x_get hu I g ry fun w' s' I' rw' => ⟨r, H, I', rw', q⟩) hs
end
/-! by data -/
def lookD (kvs : List (D × D)) (k : NestedKey) : Option D := (kvs.find? fun p => decide (nk p.1 = some k)).map (·.2)
def nkK : Key → NestedKey
  | .inl i => .num i
  | .inr x => .text x
theorem nk_kD (k : Key) : nk (kD k) = some (nkK k) := by cases k <;> rfl
theorem nkK_inj {a b : Key} (h : nkK a = nkK b) : a = b := by
  cases a <;> cases b <;> simp_all [nkK]
theorem kv_look {K : Kx} {S : Hp} (k : Key) : ∀ {ks : List (Key × V)} {kvs : List (D × D)}, DqKv K S ks kvs → (lookD kvs (nkK k) = none → valV ks k = none) ∧ ∀ d, lookD kvs (nkK k) = some d → ∃ v, valV ks k = some v ∧ Dq K S v d
  | _, _, .nil => ⟨fun _ => rfl, fun d h => by cases h⟩
  | _, _, .cons (k := k0) (v := v) (vs := vs) (d := d0) (ds := ds) h r => by
    obtain ⟨q1, q2⟩ := kv_look k r
    by_cases e : k0 = k
    · subst e
      have a1 : lookD ((kD k0, d0) :: ds) (nkK k0) = some d0 := by simp [lookD, List.find?_cons, nk_kD]
      have a2 : valV ((k0, v) :: vs) k0 = some v := valV_pos rfl
      rw [a1, a2]
      refine ⟨?_, ?_⟩
      · intro z; cases z
      · intro d hd; cases hd; exact ⟨v, rfl, h⟩
    · have ne : ¬ nkK k0 = nkK k := fun z => e (nkK_inj z)
      have a1 : lookD ((kD k0, d0) :: ds) (nkK k) = lookD ds (nkK k) := by simp [lookD, List.find?_cons, nk_kD, ne]
      have a2 : valV ((k0, v) :: vs) k = valV vs k := valV_neg e
      rw [a1, a2]
      exact ⟨q1, q2⟩
theorem kx_look {K : Kx} {S : Hp} (k : NestedKey) : ∀ {xs : List (NestedKey × Addr × V)} {kvs : List (D × D)}, DqKx K S xs kvs → (lookD kvs k = none → atV xs k = none) ∧ ∀ d, lookD kvs k = some d → ∃ v, atV xs k = some v ∧ Dq K S v d
  | _, _, .nil => ⟨fun _ => rfl, fun d h => by cases h⟩
  | _, _, .cons (k := k0) (b := b) (v := v) (vs := vs) (c := c) (d := d0) (ds := ds) h n1 n2 hv r => by
    obtain ⟨q1, q2⟩ := kx_look k r
    by_cases e : k0 = k
    · subst e
      have a1 : lookD ((c, d0) :: ds) k0 = some d0 := by simp [lookD, List.find?_cons, n1]
      have a2 : atV ((k0, b, v) :: vs) k0 = some v := by simp [atV, List.find?_cons]
      rw [a1, a2]
      refine ⟨?_, ?_⟩
      · intro z; cases z
      · intro d hd; cases hd; exact ⟨v, rfl, hv⟩
    · have a1 : lookD ((c, d0) :: ds) k = lookD ds k := by simp [lookD, List.find?_cons, n1, e]
      have a2 : atV ((k0, b, v) :: vs) k = atV vs k := by simp [atV, List.find?_cons, e]
      rw [a1, a2]
      exact ⟨q1, q2⟩
/-- what sort of key: flat, a tuple -/
def kindK : D → Nat
  | .int _ => 1
  | .str _ => 1
  | .tuple _ => 2
  | _ => 0
def depOk (x : D) (k : NestedKey) : Bool := decide (k.depth ≤ 8)
def getDD : D → D → Option O := fun d x => match d, nk x with
  | .dict ((c, z) :: r), some k => if k.depth ≤ 8 ∧ kindK c = kindK x ∧ kindK x ≠ 0 then (lookD ((c, z) :: r) k).map .d else none
  | _, _ => none
def inDD (neg : Bool) : D → D → Option O := fun x d => match d, nk x with
  | .dict ((c, z) :: r), some k => if k.depth ≤ 8 ∧ kindK c = kindK x ∧ kindK x ≠ 0 then some (.d (.bool (if neg then !(lookD ((c, z) :: r) k).isSome else (lookD ((c, z) :: r) k).isSome))) else none
  | _, _ => none
/-- what both readings want -/
theorem dict_look {K : Kx} {S H : Hp} {x y : V} {c z d : D} {r : List (D × D)} {k : NestedKey} (hS : Same S H) (hx : Vw K S H x (.dict ((c, z) :: r))) (hy : Vw K S H y d) (hk : nk d = some k) (hd : k.depth ≤ 8) (h1 : kindK c = kindK d) (h2 : kindK d ≠ 0) :
    ∃ a o, x = .ref a ∧ GetAny K H a y o ∧ (lookD ((c, z) :: r) k = none → o = none) ∧ ∀ e, lookD ((c, z) :: r) k = some e → ∃ v, o = some v ∧ Dq K S v e := by
  obtain ⟨a, rfl, h | h⟩ := hx.dict hS
  · obtain ⟨ks, g, q⟩ := h
    cases q with
    | @cons k0 v0 vs d0 ds q0 qr =>
      have key : ∃ kk : Key, y = kV kk ∧ k = nkK kk := by
        cases d <;> first
          | (exact absurd rfl h2)
          | skip
        · rename_i i
          cases hk
          exact ⟨.inl i, hy.int, rfl⟩
        · rename_i t
          cases hk
          exact ⟨.inr t, hy.str, rfl⟩
        · cases k0 <;> simp [kindK, kD] at h1
      obtain ⟨kk, rfl, rfl⟩ := key
      have L := kv_look (K := K) (S := S) kk (.cons (k := k0) q0 qr)
      exact ⟨a, _, rfl, .inl (.inl ⟨_, kk, g, rfl, rfl⟩), L.1, L.2⟩
  · obtain ⟨xs, g, q⟩ := h
    have qk := DqKx.keys hS q
    have L := kx_look k q
    have key : KeyAt K H y k := by
      cases q with
      | cons q0 n1 n2 qv qr =>
        cases d <;> first
          | (exact absurd rfl h2)
          | skip
        · cases q0 <;> simp [kindK] at h1 <;> cases n1
        · cases q0 <;> simp [kindK] at h1 <;> cases n1
        · obtain ⟨b, vs, rfl, w1, w2⟩ := hy.tup hS
          exact ⟨b, _, rfl, hy.dq hS, hk, hd⟩
    exact ⟨a, _, rfl, .inr ⟨xs, k, g, qk, key, rfl⟩, L.1, L.2⟩
section
variable {K : Kx}
theorem opD_getD : OpD K (rGet K) getDD := by
  intro S H x y d e o Q hS hx hy he q
  unfold getDD at he
  split at he
  · rename_i c z r k hk
    split at he
    · rename_i hh
      obtain ⟨a, ov, rfl, g, l1, l2⟩ := dict_look hS hx hy hk hh.1 hh.2.1 hh.2.2
      obtain ⟨f, e1, rfl⟩ := Option.map_eq_some_iff.mp he
      obtain ⟨v, rfl, hv⟩ := l2 f e1
      exact ⟨a, v, rfl, g, q v hv⟩
    · cases he
  · cases he
theorem opD_inDD {neg : Bool} : OpD K (rInDc K neg) (inDD neg) := by
  intro S H x y d e o Q hS hx hy he q
  unfold inDD at he
  split at he
  · rename_i c z r k hk
    split at he
    · rename_i hh
      cases he
      obtain ⟨a, ov, rfl, g, l1, l2⟩ := dict_look hS hy hx hk hh.1 hh.2.1 hh.2.2
      have e : ov.isSome = (lookD ((c, z) :: r) k).isSome := by
        cases el : lookD ((c, z) :: r) k with
        | none => rw [l1 el]; rfl
        | some f =>
          obtain ⟨v, rfl, _⟩ := l2 f el
          rfl
      refine ⟨a, ov, rfl, g, q _ ?_⟩
      rw [← e]
      exact .bl _
    · cases he
  · cases he
end
end Ly
set_option maxRecDepth 100000
/-! Lz3: dicts of one's own: {}, d[k] = v with an int or a text as key -/
namespace Ly
open PySem L2
section
variable {X : Cx} {pos : Pos}
def dicO : EF := fun Γ => .ok (.o (.k [])) Γ
theorem px_dicO : PX X (.Dict [] [] pos) dicO := by
  refine ⟨fun W tk S H σ Γ Q E G => tW_of pe_dnewK ?_⟩
  intro p hp
  have hn : ¬ Own S p := fun q => by
    obtain ⟨_, o, w⟩ := own_tracked E q
    rw [hp] at w; cases w
  exact G S _ (.ref p) (.push E hp _) (E.push hp _) ⟨[p], .kv (E.free hp) upd_same .nil, by simp, fun a ha => by
    rw [List.mem_singleton.mp ha]
    exact ⟨hn, .inl hp⟩⟩
end
def hasKT (kvs : List (D × T)) (k : NestedKey) : Bool := kvs.any fun p => decide (nk p.1 = some k)
def putKT (kvs : List (D × T)) (k : NestedKey) (x : D) (t : T) : List (D × T) := if hasKT kvs k then kvs.map fun p => if nk p.1 = some k then (p.1, t) else p else kvs ++ [(x, t)]
theorem TKv.any {K : Kx} {S H : Hp} (k : Key) : ∀ {ks : List (Key × V)} {kvs : List (D × T)} {F : List Addr}, TKv K S H ks kvs F → (ks.any fun kv => decide (kv.1 = k)) = hasKT kvs (nkK k)
  | _, _, _, .nil => rfl
  | _, _, _, .cons (k := k0) h r => by
    unfold hasKT
    rw [List.any_cons, List.any_cons, TKv.any k r]
    have : decide (k0 = k) = decide (nk (kD k0) = some (nkK k)) := by
      rw [nk_kD]
      by_cases e : k0 = k
      · rw [e]; simp
      · have ne : ¬ nkK k0 = nkK k := fun z => e (nkK_inj z)
        simp [e, ne]
    rw [this]
    rfl
theorem TKv.repl {K : Kx} {S H : Hp} (k : Key) {v : V} {d : D} (hv : Dq K S v d) : ∀ {ks : List (Key × V)} {kvs : List (D × T)} {F : List Addr}, TKv K S H ks kvs F → ∃ G, TKv K S H (ks.map fun kv => if kv.1 = k then (kv.1, v) else kv) (kvs.map fun p => if nk p.1 = some (nkK k) then (p.1, .d d) else p) G ∧ G.Sublist F
  | _, _, _, .nil => ⟨[], .nil, List.Sublist.refl _⟩
  | _, _, _, .cons (k := k0) (F := F1) (G := G1) h r => by
    obtain ⟨G, q1, q2⟩ := TKv.repl k hv r
    rw [List.map_cons, List.map_cons]
    dsimp only
    rw [nk_kD]
    by_cases e : k0 = k
    · rw [if_pos e, if_pos (by rw [e])]
      exact ⟨[] ++ G, .cons (.d hv) q1, q2.trans (List.sublist_append_right F1 G1)⟩
    · have ne : ¬ some (nkK k0) = some (nkK k) := fun z => e (nkK_inj (Option.some.inj z))
      rw [if_neg e, if_neg ne]
      exact ⟨F1 ++ G, .cons h q1, List.Sublist.append (List.Sublist.refl _) q2⟩
theorem TKv.snoc {K : Kx} {S H : Hp} (k : Key) {v : V} {d : D} (hv : Dq K S v d) : ∀ {ks : List (Key × V)} {kvs : List (D × T)} {F : List Addr}, TKv K S H ks kvs F → TKv K S H (ks ++ [(k, v)]) (kvs ++ [(kD k, .d d)]) F
  | _, _, _, .nil => by
    have := TKv.cons (k := k) (TOk.d (K := K) (S := S) (H := H) hv) .nil
    simpa using this
  | _, _, _, .cons h r => .cons h (TKv.snoc k hv r)
theorem TKv.put {K : Kx} {S H : Hp} (k : Key) {v : V} {d : D} (hv : Dq K S v d) {ks : List (Key × V)} {kvs : List (D × T)} {F : List Addr} (h : TKv K S H ks kvs F) : ∃ G, TKv K S H (putK ks k v) (putKT kvs (nkK k) (kD k) (.d d)) G ∧ G.Sublist F := by
  unfold putK putKT
  rw [h.any k]
  cases hasKT kvs (nkK k) with
  | true => exact h.repl k hv
  | false => exact ⟨F, h.snoc k hv, List.Sublist.refl _⟩
theorem TKv.len {K : Kx} {S H : Hp} : ∀ {vs : List (Key × V)} {fs : List (D × T)} {F : List Addr}, TKv K S H vs fs F → vs.length = fs.length
  | _, _, _, .nil => rfl
  | _, _, _, .cons h r => by simp [TKv.len r]
theorem TKv.stay {K : Kx} {S H S' H' : Hp} (e : Same S S') : ∀ {vs : List (Key × V)} {fs : List (D × T)} {F : List Addr}, TKv K S H vs fs F → (∀ a ∈ F, S a = none → S' a = none) → (∀ a ∈ F, ∀ o, H a = some o → H' a = some o) → TKv K S' H' vs fs F
  | _, _, _, .nil, _, _ => .nil
  | _, _, _, .cons h r, f, g => .cons (h.stay e (fun a ha => f a (by simp [ha])) fun a ha => g a (by simp [ha])) (TKv.stay e r (fun a ha => f a (by simp [ha])) fun a ha => g a (by simp [ha]))
def dictAt (Γ : Ge) (i : Nat) : Option (List (D × T)) := match Γ[i]? with
  | some (.o (.k kvs)) => some kvs
  | some (.p (.k kvs)) => some kvs
  | _ => none
/-- the keys are ints and texts -/
def flatKs (kvs : List (D × T)) : Bool := kvs.all fun p => kindK p.1 == 1
def keyD : D → Option Key
  | .int i => some (.inl i)
  | .str x => some (.inr x)
  | _ => none
theorem dict_ok {K : Kx} {S : Sx} {H : Hp} {σ : L2.St} {Γ : Ge} {i : Nat} {kvs : List (D × T)} (E : EnvOk K S H σ Γ) (h : dictAt Γ i = some kvs) (hf : flatKs kvs = true) : ∃ a ks F, σ[i]? = some (some (.ref a)) ∧ S.hp a = none ∧ H a = some (.dK ks) ∧ TKv K S.hp H ks kvs F ∧ S.fp i = a :: F ∧ (S.fp i).Nodup ∧
    (Γ[i]? = some (.o (.k kvs)) ∨ Γ[i]? = some (.p (.k kvs))) := by
  have hs : Γ[i]? = some (.o (.k kvs)) ∨ Γ[i]? = some (.p (.k kvs)) := by
    unfold dictAt at h
    split at h
    · rename_i q; cases h; exact .inl q
    · rename_i q; cases h; exact .inr q
    · cases h
  obtain ⟨v, h1, h2, h3⟩ := E.tree i _ hs
  generalize hF : S.fp i = FF at *
  cases h2 with
  | kv c1 c2 c3 => exact ⟨_, _, _, h1, c1, c2, c3, rfl, h3, hs⟩
  | kx n c1 c2 c3 =>
    cases c3 with
    | nil => exact absurd rfl n
    | cons d0 n1 n2 t r =>
      unfold flatKs at hf
      rw [List.all_cons, Bool.and_eq_true] at hf
      have h0 := hf.1
      cases d0 <;> simp [kindK] at h0
      all_goals cases n1
section
variable {X : Cx} {o e ke : Expr} {i : Nat} {pos pos' : Pos} {f g : EF}
def dput3 (i : Nat) (x : D) (rk : R) (Γ : Ge) : Out Fl := match view Γ rk, dictAt Γ i with
  | some d, some kvs => match keyD d with
    | some k => if flatKs kvs = true ∧ kvs.length < 900000 then .ok .nx (putT Γ i (.k (putKT kvs (nkK k) (kD k) (.d x)))) else .no
    | none => .no
  | _, _ => .no
def dput2 (i : Nat) (g : EF) (r : R) (Γ : Ge) : Out Fl := match r, dictAt Γ i with
  | .d x, some _ => (g Γ).bind fun rk Γ1 => dput3 i x rk Γ1
  | _, _ => .no
/-- d[k] = v -/
def dputS (i : Nat) (f g : EF) : SF := fun Γ => (f Γ).bind fun r Γ1 => dput2 i g r Γ1
theorem psx_dput (hu : X.A.units + 64 < cLine) (ho : PE X o (tVar i)) (pe : PX X e f) (pk : PX X ke g) (hs : swapsWith e (some (.Subscript o ke pos')) pos.line X.env = pure false := by rfl) : PSx X (.Assign [.Subscript o ke pos'] e pos) (dputS i f g) := by
  refine ⟨fun W tk S0 H0 σ Γ0 Z E0 G => tWS_of (ps_dput (by omega) ho pe_w pe_w hs) ?_⟩
  refine tW_mono (pe.run W tk S0 H0 σ Γ0 _ E0 (SG.bind G)) fun v H1 ⟨S1, r, Γ1, e1, F1, E1, R1, G1⟩ => ?_
  cases r with
  | l _ => exact G1.elim
  | s _ => exact G1.elim
  | o _ => exact G1.elim
  | d x =>
    have G1 : SG (kx X) X.mg W S0 H0 σ Γ0 Z (dput2 i g (.d x) Γ1) := G1
    unfold dput2 at G1
    cases ed : dictAt Γ1 i with
    | none => simp only [ed] at G1; exact G1.elim
    | some kvs0 =>
      simp only [ed] at G1
      obtain ⟨v1, q1⟩ : ∃ v1, σ[i]? = some (some v1) := by
        have hs : Γ1[i]? = some (.o (.k kvs0)) ∨ Γ1[i]? = some (.p (.k kvs0)) := by
          unfold dictAt at ed
          split at ed
          · rename_i q; cases ed; exact .inl q
          · rename_i q; cases ed; exact .inr q
          · cases ed
        obtain ⟨v1, h1, _⟩ := E1.tree i _ hs
        exact ⟨v1, h1⟩
      refine ⟨v1, q1, ?_⟩
      refine tW_mono (pk.run W tk S1 H1 σ Γ1 _ E1 (SG.bind (SG.shift F1 G1))) fun u H ⟨S, rk, Γ, e2, F2, E, R2, _⟩ => ?_
      rw [e2] at G1
      have G2 : SG (kx X) X.mg W S0 H0 σ Γ0 Z (dput3 i x rk Γ) := G1
      unfold dput3 at G2
      cases ev : view Γ rk with
      | none => simp only [ev] at G2; exact G2.elim
      | some d =>
        cases ed2 : dictAt Γ i with
        | none => simp only [ev, ed2] at G2; exact G2.elim
        | some kvs =>
          simp only [ev, ed2] at G2
          cases ek : keyD d with
          | none => simp only [ek] at G2; exact G2.elim
          | some k =>
            simp only [ek] at G2
            by_cases hc : flatKs kvs = true ∧ kvs.length < 900000
            · rw [if_pos hc] at G2
              obtain ⟨a, ks, F, w1, w2, w3, w4, w5, w6, w7⟩ := dict_ok E ed2 hc.1
              rw [q1] at w1
              cases w1
              have hu2 : u = kV k := by
                have vw := R2.vw E ev
                cases d <;> first
                  | (cases ek; done)
                  | skip
                · cases ek; exact vw.int
                · cases ek; exact vw.str
              have hx : Dq (kx X) S.hp v x := Same.dp F2.grow R1
              rw [w5] at w6
              have n1 := List.nodup_cons.mp w6
              have w4' : TKv (kx X) S.hp (upd H a (.dK (putK ks k v))) ks kvs F := w4.stay (Same.refl _) (fun _ _ h => h) fun b hb oo hh => by rw [upd_ne (fun z => n1.1 (by rw [← z]; exact hb))]; exact hh
              obtain ⟨G3, t1, t2⟩ := w4'.put k hx
              have hT : TOk (kx X) S.hp (upd H a (.dK (putK ks k v))) (.k (putKT kvs (nkK k) (kD k) (.d x))) (.ref a) (a :: G3) := .kv w2 upd_same t1
              have hN : (a :: G3).Nodup := w6.sublist (List.Sublist.cons₂ a t2)
              have hlen : ks.length < sizeLine := by
                have := small6 (n := ks.length + 1) (by rw [w4.len]; omega)
                omega
              refine ⟨a, _, rfl, by rw [hu2]; exact DPut.k w3 hlen, ?_⟩
              have key : ∀ s1 sl : Sl, Γ[i]? = some s1 → kindOf s1 sl → SlOk (kx X) S.hp (upd H a (.dK (putK ks k v))) sl (some (.ref a)) (a :: G3) → Frm S H σ Γ (S.fput i (a :: G3)) (upd H a (.dK (putK ks k v))) σ (Γ.set i sl) ∧ EnvOk (kx X) (S.fput i (a :: G3)) (upd H a (.dK (putK ks k v))) σ (Γ.set i sl) := fun s1 sl z1 z2 z3 =>
                mut_sl E z1 q1 z2 (fun b oo hb n => by rw [upd_ne (fun z => n (by rw [w5, z]; simp))]; exact hb) (fun b oo hb => by rw [upd_ne (fun z : b = a => by rw [z, w2] at hb; cases hb)]; exact E.sub b oo hb) z3
                  (fun b hb => .inl (by
                    rw [w5]
                    rcases List.mem_cons.mp hb with rfl | hb
                    · simp
                    · simp [t2.subset hb]))
              have FF := F1.trans F2
              rcases w7 with hg | hg
              · obtain ⟨F3, E3⟩ := key _ (.o (.k (putKT kvs (nkK k) (kD k) (.d x)))) hg trivial ⟨_, rfl, hT, hN⟩
                have : putT Γ i (.k (putKT kvs (nkK k) (kD k) (.d x))) = Γ.set i (.o (.k (putKT kvs (nkK k) (kD k) (.d x)))) := by unfold putT; rw [hg]
                rw [this] at G2
                exact G2 _ _ _ (FF.trans F3) E3
              · obtain ⟨F3, E3⟩ := key _ (.p (.k (putKT kvs (nkK k) (kD k) (.d x)))) hg ⟨_, rfl⟩ ⟨_, rfl, hT, hN⟩
                have : putT Γ i (.k (putKT kvs (nkK k) (kD k) (.d x))) = Γ.set i (.p (.k (putKT kvs (nkK k) (kD k) (.d x)))) := by unfold putT; rw [hg]
                rw [this] at G2
                exact G2 _ _ _ (FF.trans F3) E3
            · rw [if_neg hc] at G2
              exact G2.elim
end
end Ly
set_option maxRecDepth 100000
/-! Lz4: {x: c}, of one entry, frozen -/
namespace Ly
open PySem L2
theorem upd_twice {H : Hp} {p : Addr} {a b : HO} : upd (upd H p a) p b = upd H p b := by
  funext q
  by_cases e : q = p
  · rw [e, upd_same, upd_same]
  · rw [upd_ne e, upd_ne e, upd_ne e]
def disp1F (i : Nat) (c : D) : EF := fun Γ => match Γ[i]? with
  | some (.d x) => match keyD x with
    | some k => .ok (.d (.dict [(kD k, c)])) Γ
    | none => .no
  | _ => .no
section
variable {X : Cx} {ke ve : Expr} {i : Nat} {v : V} {c : D} {pos : Pos}
theorem px_disp1 (hk : PE X ke (tVar i)) (hv : PE X ve (tC v)) (hc : ∀ S, Dq (kx X) S v c) : PX X (.Dict [some ke] [ve] pos) (disp1F i c) := by
  refine ⟨fun W tk S H σ Γ Q E G => tW_of (pe_disp (pps_cons hk hv pps_nil) rfl rfl (by simp) (by simp)) ?_⟩
  unfold disp1F at G
  cases e1 : Γ[i]? with
  | none => rw [e1] at G; exact G.elim
  | some sl =>
    cases sl with
    | d x =>
      rw [e1] at G
      dsimp only at G
      obtain ⟨w, h1, h2⟩ := E.dat i x e1
      cases ek : keyD x with
      | none => rw [ek] at G; exact G.elim
      | some k =>
        rw [ek] at G
        have hw : w = kV k := by
          cases x <;> first
            | (cases ek; done)
            | skip
          · cases ek; cases h2; rfl
          · cases ek; cases h2; rfl
        intro p hp
        refine ⟨w, h1, upd_same, [(k, v)], by rw [hw]; rfl, by simp, ?_⟩
        rw [upd_twice]
        have em : mergeK [] [(k, v)] = [(k, v)] := rfl
        rw [em]
        exact G _ _ _ (.pushD E hp _) (E.pushD hp _) (.dic (.inl upd_same) (.cons (k := k) (hc _) .nil))
    | _ => rw [e1] at G; exact G.elim
end
end Ly
set_option maxRecDepth 100000
/-! Lz5: {k: v for ..}, keys ints and texts, values data -/
namespace Ly
open PySem L2
def dcLoop (g : GF) (u : BF) (fk fv : EF) (vs : List Nat) : List D → List (D × T) → Ge → Out (List (D × T))
  | [], acc, Γ => .ok acc Γ
  | d :: ds, acc, Γ => match g (.d d) Γ with
    | .ok _ Γ1 => match u Γ1 with
      | .ok true Γ2 => match fk Γ2 with
        | .ok (.d kd) Γ3 => match keyD kd with
          | some k => match fv Γ3 with
            | .ok (.d y) Γ4 => if acc.length < 900000 then dcLoop g u fk fv vs ds (putKT acc (nkK k) (kD k) (.d y)) (wipeG Γ4 vs) else .no
            | _ => .no
          | none => .no
        | _ => .no
      | .ok false Γ2 => dcLoop g u fk fv vs ds acc (wipeG Γ2 vs)
      | _ => .no
    | _ => .no
def dcF (it : LF) (g : GF) (u : BF) (fk fv : EF) (vs : List Nat) : EF := fun Γ => (it Γ).bind fun ds Γ1 => if plainAt Γ1 vs = true then match dcLoop g u fk fv vs ds [] (wipeG Γ1 vs) with
    | .ok xs Γ2 => .ok (.o (.k xs)) (restG Γ1 Γ2 vs)
    | _ => .no
  else .no
section
variable {X : Cx} {tg iter kx' vx : Expr} {vs : List Nat}
theorem dc_run {ifs : List Expr} {scope : Scope} {it : LF} {g : GF} {u : BF} {fk fv : EF} {W : WX} {S0 : Sx} {H0 : Hp} {σ : L2.St} {Γ0 : Ge} {Q : VK} (tk : Takes X W) (hi : PIx X tg iter it)
    (hg : ∀ (s : Shared) (H : Hp) (C : Addr) (cl : List (Str × Addr)) (fp : List Addr), PGc (X.blk s H scope (compEnvC scope cl C X.env) fp) vs tg g) (hx : NoEx g)
    (ht : ∀ (s : Shared) (H : Hp) (C : Addr) (cl : List (Str × Addr)) (fp : List Addr), PTsx (X.blk s H scope (compEnvC scope cl C X.env) fp) ifs u)
    (hk : ∀ (s : Shared) (H : Hp) (C : Addr) (cl : List (Str × Addr)) (fp : List Addr), PX (X.blk s H scope (compEnvC scope cl C X.env) fp) kx' fk)
    (he : ∀ (s : Shared) (H : Hp) (C : Addr) (cl : List (Str × Addr)) (fp : List Addr), PX (X.blk s H scope (compEnvC scope cl C X.env) fp) vx fv)
    (E0 : EnvOk (kx X) S0 H0 σ Γ0) (G0 : EG (kx X) X.mg W S0 H0 σ Γ0 Q (dcF it g u fk fv vs Γ0)) : tDc (tWI X tg iter) (gAll X scope tg) (tAll X scope ifs) (eAll X scope kx') (eAll X scope vx) vs σ H0 Q := by
  refine tWI_mono (hi.run W tk S0 H0 σ Γ0 _ E0 (OG.bind G0)) fun J H1 ⟨S1, ds, Γ1, _, F1, E1, hJ, G1⟩ => ?_
  by_cases hp : plainAt Γ1 vs = true
  rotate_left
  · rw [if_neg hp] at G1; exact G1.elim
  rw [if_pos hp] at G1
  generalize hR : dcLoop g u fk fv vs ds [] (wipeG Γ1 vs) = OO at G1
  intro L hL
  have Ew := E1.wipe (vs := vs)
  rw [wipe_plain E1 hp] at Ew
  have Fw := Frm.wipe0 (S := S1) (H := H1) (σ := σ) hp
  refine ⟨fun i m H => m = ds.length - i ∧ i ≤ ds.length ∧ ∃ (S : Sx) (Γ : Ge) (acc : List (D × T)) (vacc : List (Key × V)), Same S1 S ∧ Frm S1 H1 (wipe σ vs) (wipeG Γ1 vs) S H (wipe σ vs) Γ ∧ EnvOk (kx X) S H (wipe σ vs) Γ ∧ S.hp L = none ∧ H L = some (.dK vacc) ∧ TKv (kx X) S.hp H vacc acc [] ∧ ¬ Own S L ∧
      dcLoop g u fk fv vs (ds.drop i) acc Γ = OO,
    ⟨ds.length, by simp, Nat.zero_le _, S1, _, [], [], Same.refl _, .push Ew hL _, Ew.push hL _, Ew.free hL, upd_same, .nil, fun q => ?_, hR⟩, ?_⟩
  · exact not_own_new Ew hL q
  rintro i m H ⟨rfl, hi', S, Γ, acc, vacc, e1, F, E, hS, hH, hA, hO, hG⟩
  obtain ⟨jg, js⟩ := hJ i S H e1 E.sub
  by_cases hl : i < ds.length
  · have hd : ds[i]? = some ds[i] := List.getElem?_eq_getElem hl
    obtain ⟨go, yl⟩ := jg _ hd
    rw [List.drop_eq_getElem_cons hl] at hG
    unfold dcLoop at hG
    refine .inr ⟨go, fun H' => ∃ (S : Sx) (Γ : Ge) (acc : List (D × T)) (vacc : List (Key × V)), Same S1 S ∧ Frm S1 H1 (wipe σ vs) (wipeG Γ1 vs) S H' (wipe σ vs) Γ ∧ EnvOk (kx X) S H' (wipe σ vs) Γ ∧ S.hp L = none ∧ H' L = some (.dK vacc) ∧ TKv (kx X) S.hp H' vacc acc [] ∧ ¬ Own S L ∧
      dcLoop g u fk fv vs (ds.drop (i + 1)) acc Γ = OO, fun H' q => ⟨ds.length - (i + 1), by omega, rfl, hl, q⟩, fun x H' hy => ?_⟩
    obtain ⟨Sh, s1, s2, s3, s4, dx⟩ := yl x H' hy
    obtain ⟨S', rfl, F', E'⟩ := grow_ok E s1 s2 s3 s4
    have neL : H L ≠ none := by rw [hH]; intro z; cases z
    have fin : ∀ {o : Out (List (D × T))}, o = OO → (∀ xs Γ', o ≠ .ok xs Γ') → False := fun {o} e n => by
      rw [← e] at G1
      cases o with
      | ok xs Γ' => exact n xs Γ' rfl
      | ex _ _ => exact G1
      | no => exact G1
    cases eo : g (.d ds[i]) Γ with
    | no => rw [eo] at hG; exact (fin (o := .no) hG (fun _ _ z => nomatch z)).elim
    | ex _ _ => rw [eo] at hG; exact (fin (o := .no) hG (fun _ _ z => nomatch z)).elim
    | ok un Γa =>
      rw [eo] at hG
      dsimp only at hG
      intro s Hs C cl fp
      refine tWG_mono ((hg s Hs C cl fp).run (fun _ _ _ _ => False) takes0 S' H' (wipe σ vs) Γ S' H' (wipe σ vs) Γ x (.d ds[i]) (fun σ2 H2 => ∃ S2, Frm S' H' (wipe σ vs) Γ S2 H2 σ2 Γa ∧ EnvOk (kx X) S2 H2 σ2 Γa) .refl E' dx ?_) (fun σ2 H2 ⟨ew, S2, F2, E2⟩ => ?_)
      · rw [eo]
        exact fun S2 H2 σ2 F2 E2 => ⟨S2, F2, E2⟩
      have ew : wipe σ2 vs = wipe σ vs := by
        have : wipe (wipe σ vs) vs = wipe σ vs := wipe_idem
        rw [ew, this]
      have F12 := F'.trans F2
      refine ⟨ew, ?_⟩
      intro s' Hs' C' cl' fp'
      have tgoal : TG' (kx X) X.mg (fun _ _ _ _ => False) S2 H2 σ2 Γa (fun b H3 => ∃ S3 Γb, u Γa = .ok b Γb ∧ Frm S2 H2 σ2 Γa S3 H3 σ2 Γb ∧ EnvOk (kx X) S3 H3 σ2 Γb) (u Γa) := by
        cases eu : u Γa with
        | no => rw [eu] at hG; exact (fin (o := .no) hG (fun _ _ z => nomatch z)).elim
        | ex _ _ => rw [eu] at hG; exact (fin (o := .no) hG (fun _ _ z => nomatch z)).elim
        | ok b Γb => exact fun S3 H3 b' F3 E3 e => by subst e; exact ⟨S3, Γb, rfl, F3, E3⟩
      refine fun pins sh I => thn ((ht s' Hs' C' cl' fp').run (fun _ _ _ _ => False) takes0 S2 H2 σ2 Γa _ E2 tgoal pins sh I) fun b sh' ⟨H3, I3, S3, Γb, eu, F3, E3⟩ => ⟨H3, I3, ?_⟩
      have F13 := F12.trans F3
      rw [eu] at hG
      have keepL : ∀ {S4 : Sx} {H4 : Hp} {σ4 : L2.St} {Γ4 : Ge}, Frm S H (wipe σ vs) Γ S4 H4 σ4 Γ4 → H4 L = some (.dK vacc) ∧ S4.hp L = none ∧ ¬ Own S4 L := fun {S4 H4 σ4 Γ4} f => by
        refine ⟨f.keep L _ hH hO, f.fresh L hS neL hO, fun q => ?_⟩
        rcases f.own L q with z | z
        · exact hO z
        · exact neL z
      have stayA : ∀ {S4 H4 : Hp}, Same S.hp S4 → TKv (kx X) S4 H4 vacc acc [] := fun {S4 H4} e => hA.stay e (fun _ h => by simp at h) (fun _ h => by simp at h)
      cases b with
      | false =>
        refine iteF ?_
        obtain ⟨k1, k2, k3⟩ := keepL F13
        refine ⟨S3.wipe vs, wipeG Γb vs, acc, vacc, (e1.trans s1).trans (F2.grow.trans F3.grow), Frm.wipeE (F.trans F13) ew, by rw [← ew]; exact E3.wipe, k2, k1, stayA F13.grow, fun q => k3 (own_wipe q), hG⟩
      | true =>
        refine iteT ?_
        dsimp only at hG
        intro s'' Hs'' C'' cl'' fp''
        -- the key
        refine (hk s'' Hs'' C'' cl'' fp'').run (fun _ _ _ _ => False) takes0 S3 H3 σ2 Γb _ E3 ?_
        cases ek : fk Γb with
        | no => rw [ek] at hG; exact (fin (o := .no) hG (fun _ _ z => nomatch z)).elim
        | ex _ _ => rw [ek] at hG; exact (fin (o := .no) hG (fun _ _ z => nomatch z)).elim
        | ok r Γc =>
          cases r with
          | l _ => rw [ek] at hG; exact (fin (o := .no) hG (fun _ _ z => nomatch z)).elim
          | s _ => rw [ek] at hG; exact (fin (o := .no) hG (fun _ _ z => nomatch z)).elim
          | o _ => rw [ek] at hG; exact (fin (o := .no) hG (fun _ _ z => nomatch z)).elim
          | d kd =>
            rw [ek] at hG
            dsimp only at hG
            cases ekk : keyD kd with
            | none => rw [ekk] at hG; exact (fin (o := .no) hG (fun _ _ z => nomatch z)).elim
            | some k =>
              rw [ekk] at hG
              dsimp only at hG
              intro S4 H4 kv F4 E4 dv
              have hkv : kv = kV k := by
                have dv : Dq (kx X) S4.hp kv kd := dv
                cases kd <;> first
                  | (cases ekk; done)
                  | skip
                · cases ekk; cases dv; rfl
                · cases ekk; cases dv; rfl
              have F14 := F13.trans F4
              intro s3' Hs3 C3 cl3 fp3
              refine (he s3' Hs3 C3 cl3 fp3).run (fun _ _ _ _ => False) takes0 S4 H4 σ2 Γc _ E4 ?_
              cases ef : fv Γc with
              | no => rw [ef] at hG; exact (fin (o := .no) hG (fun _ _ z => nomatch z)).elim
              | ex _ _ => rw [ef] at hG; exact (fin (o := .no) hG (fun _ _ z => nomatch z)).elim
              | ok r Γd =>
                cases r with
                | l _ => rw [ef] at hG; exact (fin (o := .no) hG (fun _ _ z => nomatch z)).elim
                | s _ => rw [ef] at hG; exact (fin (o := .no) hG (fun _ _ z => nomatch z)).elim
                | o _ => rw [ef] at hG; exact (fin (o := .no) hG (fun _ _ z => nomatch z)).elim
                | d y =>
                  rw [ef] at hG
                  dsimp only at hG
                  by_cases hz : acc.length < 900000
                  · rw [if_pos hz] at hG
                    intro S5 H5 w F5 E5 dw
                    have F15 := F14.trans F5
                    obtain ⟨k1, k2, k3⟩ := keepL F15
                    have hz' : vacc.length < sizeLine := by
                      have := small6 (n := vacc.length + 1) (by rw [hA.len]; omega)
                      omega
                    have Ew5 : EnvOk (kx X) (S5.wipe vs) H5 (wipe σ vs) (wipeG Γd vs) := by rw [← ew]; exact E5.wipe
                    have kw : ¬ Own (S5.wipe vs) L := fun q => k3 (own_wipe q)
                    have Fw5 := Frm.wipeE (F.trans F15) ew
                    have hL1 : ∀ b o, H1 b = some o → b ≠ L := fun b o e => ne_of_none e hL
                    obtain ⟨G3, t1, t2⟩ := TKv.put (v := w) (d := y) k dw (stayA (H4 := upd H5 L (.dK (putK vacc k w))) F15.grow)
                    have g3 : G3 = [] := List.sublist_nil.mp t2
                    subst g3
                    refine ⟨vacc, k, hkv, k1, hz', S5.wipe vs, wipeG Γd vs, putKT acc (nkK k) (kD k) (.d y), putK vacc k w, (e1.trans s1).trans (((F2.grow.trans F3.grow).trans F4.grow).trans F5.grow), ?_, ?_, k2, upd_same, t1, kw, hG⟩
                    · exact ⟨Fw5.grow, fun b o h n => by rw [upd_ne (hL1 b o h)]; exact Fw5.keep b o h n, Fw5.fresh, Fw5.own, Fw5.bor, Fw5.bop, Fw5.len⟩
                    · exact Ew5.updN k2 kw
                  · rw [if_neg hz] at hG
                    exact (fin (o := .no) hG (fun _ _ z => nomatch z)).elim
  · have e : i = ds.length := by omega
    subst e
    rw [List.drop_length] at hG
    have hG : Out.ok acc Γ = OO := hG
    rw [← hG] at G1
    obtain ⟨f1, e1', t1⟩ := back_rest E1 hp F E
    refine .inl ⟨js (Nat.le_refl _), G1 (S.wipe vs) H _ (F1.trans f1) e1' ⟨[L], .kv hS hH (hA.stay (Same.refl _) (fun _ h => by simp at h) fun _ h => by simp at h), by simp, fun a ha => ?_⟩⟩
    rw [List.mem_singleton.mp ha]
    exact ⟨fun q => hO (t1 L q), back_own F1 (.inl hL)⟩
end
section
variable {X : Cx} {tg iter ke ve : Expr} {ifs : List Expr} {scope : Scope} {own : List (Str × Nat)} {pos : Pos} {it : LF} {g : GF} {u : BF} {fk fv : EF}
theorem px_dc (hc : X.calm = true) (hN : X.N.Nodup) (hi : PIx X tg iter it) (ok : BlkOk X.N X.env.scope scope own)
    (hg : ∀ (s : Shared) (H : Hp) (C : Addr) (cl : List (Str × Addr)) (fp : List Addr), PGc (X.blk s H scope (compEnvC scope cl C X.env) fp) (own.map (·.2)) tg g) (hx : NoEx g)
    (ht : ∀ (s : Shared) (H : Hp) (C : Addr) (cl : List (Str × Addr)) (fp : List Addr), PTsx (X.blk s H scope (compEnvC scope cl C X.env) fp) ifs u)
    (hk : ∀ (s : Shared) (H : Hp) (C : Addr) (cl : List (Str × Addr)) (fp : List Addr), PX (X.blk s H scope (compEnvC scope cl C X.env) fp) ke fk)
    (he : ∀ (s : Shared) (H : Hp) (C : Addr) (cl : List (Str × Addr)) (fp : List Addr), PX (X.blk s H scope (compEnvC scope cl C X.env) fp) ve fv) (hs : ∀ x, foldedSetIterable iter X.env x = pure x := by intro _; rfl) :
    PX X (.DictComp ke ve [⟨tg, iter, ifs, 0⟩] scope pos) (dcF it g u fk fv (own.map (·.2))) :=
  ⟨fun W tk S H σ Γ Q E G => tW_of (pe_dc hc hN pi_w ok (g := gAll X scope tg) (tt := tAll X scope ifs) (tk := eAll X scope ke) (tv := eAll X scope ve)
    (fun s H C cl fp => ⟨fun pins sh σ H' v u Q I r h => h s H C cl fp pins sh u I r⟩) (fun s H C cl fp => ⟨fun pins sh σ H' Q I h => h s H C cl fp pins sh I⟩) (fun s H C cl fp => ⟨fun pins sh σ H' Q I h => h s H C cl fp pins sh I⟩) (fun s H C cl fp => ⟨fun pins sh σ H' Q I h => h s H C cl fp pins sh I⟩) hs)
    (dc_run tk hi hg hx ht hk he E G)⟩
end
end Ly
set_option maxRecDepth 100000
/-! Lz6: how texts and dicts compute -/
namespace Ly
open PySem L2
section
variable {Γ : Ge}
@[simp] theorem strC_i {i : Int} : strC [.int i] = if i.natAbs.log2 < 1920 then some (.d (.str (toString i))) else none := id rfl
@[simp] theorem fsF_nil {acc : Str} : fsF [] acc Γ = .ok (.d (.str acc)) Γ := id rfl
@[simp] theorem fsF_c {s acc : Str} {r : List FP} : fsF (.c s :: r) acc Γ = if (acc ++ s).length < 1000000 then fsF r (acc ++ s) Γ else .no := id rfl
def fsK (r : List FP) (acc : Str) : R → Ge → Out R := fun x Γ1 => match txtD (view Γ1 x) with
    | some y => if (acc ++ y).length < 1000000 then fsF r (acc ++ y) Γ1 else .no
    | none => .no
@[simp] theorem fsF_e {f : EF} {acc : Str} {r : List FP} : fsF (.e f :: r) acc Γ = (f Γ).bind (fsK r acc) := id rfl
@[simp] theorem fsK_eq {x : R} {acc : Str} {r : List FP} : fsK r acc x Γ = match txtD (view Γ x) with | some y => if (acc ++ y).length < 1000000 then fsF r (acc ++ y) Γ else .no | none => .no := id rfl
@[simp] theorem txtD_i {i : Int} : txtD (some (.int i)) = if i.natAbs.log2 < 1920 then some (Str.ofString (toString i)) else none := id rfl
@[simp] theorem txtD_s {y : Str} : txtD (some (.str y)) = if y.length < 1000000 then some y else none := id rfl
@[simp] theorem fstrF_eq {ps : List FP} : fstrF ps Γ = fsF ps Str.empty Γ := id rfl
theorem joinD_l {sep : Str} {ys : List Str} (h : (ys.map fun y : Str => y.length).sum + ys.length * sep.length ≤ 16777216) : joinD sep (.list (ys.map .str)) = some (.d (.str (Txt.join sep ys))) := by
  show (match strsD (ys.map PyData.str) with | some ys => if (ys.map fun y : Str => y.length).sum + ys.length * sep.length ≤ 16777216 then some (O.d (.str (Txt.join sep ys))) else none | none => none) = _
  rw [strsD_map]
  exact if_pos h
@[simp] theorem splitD_s {sep a : Str} : splitD sep (.str a) = if (sep.length == 0) = false ∧ a.length + 2 < 1000000 then some (.l ((Txt.split a sep).map .str)) else none := id rfl
end
end Ly
set_option maxRecDepth 100000
/-! Lz7: how instances compute -/
namespace Ly
open PySem L2
section
variable {Γ : Ge} {i : Nat} {C C' f : Str} {fs : List (Str × T)}
def fldL : Option T → Ge → Out R
  | some (.d x), Γ => .ok (.d x) Γ
  | _, _ => .no
def fldV (o : Option Sl) (C f : Str) (Γ : Ge) : Out R := match o with
  | some (.o (.i C' fs)) => if C' = C then fldL (fs.lookup f) Γ else .no
  | some (.p (.i C' fs)) => if C' = C then fldL (fs.lookup f) Γ else .no
  | _ => .no
@[simp] theorem fldL_d {x : D} : fldL (some (.d x)) Γ = .ok (.d x) Γ := id rfl
@[simp] theorem fldV_o : fldV (some (.o (.i C' fs))) C f Γ = if C' = C then fldL (fs.lookup f) Γ else .no := id rfl
@[simp] theorem fldV_p : fldV (some (.p (.i C' fs))) C f Γ = if C' = C then fldL (fs.lookup f) Γ else .no := id rfl
@[simp] theorem fldF_eq : fldF i C f Γ = fldV Γ[i]? C f Γ := by
  unfold fldF instAt
  cases Γ[i]? with
  | none => rfl
  | some sl =>
    cases sl with
    | o t =>
      cases t <;> first
        | rfl
        | skip
      rename_i D fs
      show (if D = C then _ else _) = (if D = C then fldL (fs.lookup f) Γ else .no)
      by_cases h : D = C
      · rw [if_pos h, if_pos h]
        cases fs.lookup f with
        | none => rfl
        | some t => cases t <;> rfl
      · rw [if_neg h, if_neg h]
    | p t =>
      cases t <;> first
        | rfl
        | skip
      rename_i D fs
      show (if D = C then _ else _) = (if D = C then fldL (fs.lookup f) Γ else .no)
      by_cases h : D = C
      · rw [if_pos h, if_pos h]
        cases fs.lookup f with
        | none => rfl
        | some t => cases t <;> rfl
      · rw [if_neg h, if_neg h]
    | _ => rfl
def methV (o : Option Sl) (M : FM) (C m : Str) (i : Nat) (t : Ge → Out (List R)) (Γ : Ge) : Out R := match o with
  | some (.o (.i C' fs)) => if C' = C ∧ fs.lookup m = none then (t Γ).bind fun rs Γ1 => callM M (.s i :: rs) Γ1 else .no
  | some (.p (.i C' fs)) => if C' = C ∧ fs.lookup m = none then (t Γ).bind fun rs Γ1 => callM M (.s i :: rs) Γ1 else .no
  | _ => .no
@[simp] theorem methV_o {M : FM} {m : Str} {t : Ge → Out (List R)} : methV (some (.o (.i C' fs))) M C m i t Γ = if C' = C ∧ fs.lookup m = none then (t Γ).bind fun rs Γ1 => callM M (.s i :: rs) Γ1 else .no := id rfl
@[simp] theorem methV_p {M : FM} {m : Str} {t : Ge → Out (List R)} : methV (some (.p (.i C' fs))) M C m i t Γ = if C' = C ∧ fs.lookup m = none then (t Γ).bind fun rs Γ1 => callM M (.s i :: rs) Γ1 else .no := id rfl
@[simp] theorem methF_eq {M : FM} {m : Str} {t : Ge → Out (List R)} : methF M C m i t Γ = methV Γ[i]? M C m i t Γ := by
  unfold methF instAt
  cases Γ[i]? with
  | none => rfl
  | some sl =>
    cases sl with
    | o t => cases t <;> rfl
    | p t => cases t <;> rfl
    | _ => rfl
@[simp] theorem fldS_eq {g : EF} : fldS i C f g Γ = (g Γ).bind (putS i C f) := id rfl
def putV (o : Option Sl) (C f : Str) (x : D) (i : Nat) (Γ : Ge) : Out Fl := match o with
  | some (.o (.i C' fs)) => if C' = C ∧ fs.length < 1000 then .ok .nx (Γ.set i (.o (.i C' (putA f (.d x) fs)))) else .no
  | some (.p (.i C' fs)) => if C' = C ∧ fs.length < 1000 then .ok .nx (Γ.set i (.p (.i C' (putA f (.d x) fs)))) else .no
  | _ => .no
@[simp] theorem putV_o {x : D} : putV (some (.o (.i C' fs))) C f x i Γ = if C' = C ∧ fs.length < 1000 then .ok .nx (Γ.set i (.o (.i C' (putA f (.d x) fs)))) else .no := id rfl
@[simp] theorem putV_p {x : D} : putV (some (.p (.i C' fs))) C f x i Γ = if C' = C ∧ fs.length < 1000 then .ok .nx (Γ.set i (.p (.i C' (putA f (.d x) fs)))) else .no := id rfl
@[simp] theorem putS_d {x : D} : putS i C f (.d x) Γ = putV Γ[i]? C f x i Γ := by
  unfold putS instAt
  cases e : Γ[i]? with
  | none => rfl
  | some sl =>
    cases sl with
    | o t =>
      cases t <;> first
        | rfl
        | skip
      rename_i D fs
      show (if D = C ∧ fs.length < 1000 then _ else _) = (if D = C ∧ fs.length < 1000 then _ else _)
      by_cases h : D = C ∧ fs.length < 1000
      · rw [if_pos h, if_pos h]
        unfold putT
        rw [e, h.1]
      · rw [if_neg h, if_neg h]
    | p t =>
      cases t <;> first
        | rfl
        | skip
      rename_i D fs
      show (if D = C ∧ fs.length < 1000 then _ else _) = (if D = C ∧ fs.length < 1000 then _ else _)
      by_cases h : D = C ∧ fs.length < 1000
      · rw [if_pos h, if_pos h]
        unfold putT
        rw [e, h.1]
      · rw [if_neg h, if_neg h]
    | _ => rfl
@[simp] theorem dputS_eq {f g : EF} : dputS i f g Γ = (f Γ).bind (dput2 i g) := id rfl
@[simp] theorem makeF_eq {M : FM} {t : Ge → Out (List R)} : makeF M C t Γ = (t Γ).bind (makeM M C) := id rfl
def makeV (o : Out R) (Γ : Ge) : Out R := match o with
  | .ok r us => madeR us Γ r
  | .ex x _ => .ex x Γ
  | .no => .no
@[simp] theorem makeV_ok {r : R} {us : Ge} : makeV (.ok r us) Γ = madeR us Γ r := id rfl
@[simp] theorem makeV_ex {x : Xn} {us : Ge} : makeV (.ex x us) Γ = .ex x Γ := id rfl
@[simp] theorem madeR_ok {u : T} {us : Ge} : madeR (.p u :: us) Γ (.d .none) = .ok (.o u) Γ := id rfl
theorem makeM_eq {M : FM} {rs : List R} {ds : List D} (h : allD rs = some ds) : makeM M C rs Γ = makeV (M (.p (.i C []) :: ds.map Sl.d)) Γ := by
  unfold makeM
  rw [h]
  dsimp only
  cases M (.p (.i C []) :: ds.map Sl.d) <;> rfl
@[simp] theorem makeM_0 {M : FM} : makeM M C [] Γ = makeV (M [.p (.i C [])]) Γ := makeM_eq (ds := []) rfl
@[simp] theorem makeM_1 {M : FM} {x : D} : makeM M C [.d x] Γ = makeV (M [.p (.i C []), .d x]) Γ := makeM_eq (ds := [x]) rfl
@[simp] theorem makeM_2 {M : FM} {x y : D} : makeM M C [.d x, .d y] Γ = makeV (M [.p (.i C []), .d x, .d y]) Γ := makeM_eq (ds := [x, y]) rfl
end
end Ly
set_option maxRecDepth 100000
/-! Lz8: o.f += e; dicts of the module; {"x": e, ..} frozen -/
namespace Ly
open PySem L2
section
variable {X : Cx} {o e : Expr} {i : Nat} {C f : Str} {c : Addr} {pos pos' tpos : Pos} {g : EF}
theorem put_ok {W : WX} {S0 S : Sx} {H0 H : Hp} {σ : L2.St} {Γ0 Γ : Ge} {Z : Ends} {x : D} {v : V} (h : FldOk X.K X.mg C f c) (F0 : Frm S0 H0 σ Γ0 S H σ Γ) (E : EnvOk (kx X) S H σ Γ) (hx : Dq (kx X) S.hp v x) (G1 : SG (kx X) X.mg W S0 H0 σ Γ0 Z (putS i C f (.d x) Γ)) :
    ∃ a dx vs, σ[i]? = some (some (.ref a)) ∧ H a = some (.ins c dx vs) ∧ vs.length < 1000 ∧ Z.nx σ (upd H a (.ins c dx (putF f v vs))) := by
  unfold putS at G1
  cases e1 : instAt Γ i with
  | none => simp only [e1] at G1; exact G1.elim
  | some p =>
    obtain ⟨C', fs⟩ := p
    simp only [e1] at G1
    by_cases hC : C' = C ∧ fs.length < 1000
    · rw [if_pos hC] at G1
      obtain ⟨rfl, hl⟩ := hC
      obtain ⟨a, c1, dx, vs, F, q1, q2, q3, q4, q5, q6, q7, q8, q9, q10⟩ := inst_ok E e1
      have hcl := q2
      rw [show (kx X).cl C' = some c from cl_of h.m] at q2
      cases q2
      rw [q8] at q9
      have n1 := List.nodup_cons.mp q9
      have n2 := List.nodup_cons.mp n1.2
      have hdx : dx ≠ a := fun z => n1.1 (by simp [z])
      have haF : a ∉ F := fun z => n1.1 (by simp [z])
      have q7' : TFs (kx X) S.hp (upd H a (.ins c dx (putF f v vs))) vs fs F := q7.stay (Same.refl _) (fun _ _ h => h) fun b hb o hh => by rw [upd_ne (fun z => haF (by rw [← z]; exact hb))]; exact hh
      obtain ⟨G2, t1, t2⟩ := q7'.putD (f := f) hx
      have hT : TOk (kx X) S.hp (upd H a (.ins c dx (putF f v vs))) (.i C' (putA f (.d x) fs)) (.ref a) (a :: dx :: G2) := .i hcl q3 q4 upd_same (by rw [upd_ne hdx]; exact q6) t1
      have hN : (a :: dx :: G2).Nodup := q9.sublist (List.Sublist.cons₂ a (List.Sublist.cons₂ dx t2))
      refine ⟨a, dx, vs, q1, q5, by rw [q7.len]; exact hl, ?_⟩
      have key : ∀ s1 sl : Sl, Γ[i]? = some s1 → kindOf s1 sl → SlOk (kx X) S.hp (upd H a (.ins c dx (putF f v vs))) sl (some (.ref a)) (a :: dx :: G2) → Frm S H σ Γ (S.fput i (a :: dx :: G2)) (upd H a (.ins c dx (putF f v vs))) σ (Γ.set i sl) ∧ EnvOk (kx X) (S.fput i (a :: dx :: G2)) (upd H a (.ins c dx (putF f v vs))) σ (Γ.set i sl) := fun s1 sl w1 w2 w3 =>
        mut_sl E w1 q1 w2 (fun b o hb n => by rw [upd_ne (fun z => n (by rw [q8, z]; simp))]; exact hb) (fun b o hb => by rw [upd_ne (fun z : b = a => by rw [z, q3] at hb; cases hb)]; exact E.sub b o hb) w3
          (fun b hb => .inl (by
            rw [q8]
            rcases List.mem_cons.mp hb with rfl | hb
            · simp
            · rcases List.mem_cons.mp hb with rfl | hb
              · simp
              · simp [t2.subset hb]))
      rcases q10 with hg | hg
      · obtain ⟨F1, E1⟩ := key _ (.o (.i C' (putA f (.d x) fs))) hg trivial ⟨_, rfl, hT, hN⟩
        have : putT Γ i (.i C' (putA f (.d x) fs)) = Γ.set i (.o (.i C' (putA f (.d x) fs))) := by unfold putT; rw [hg]
        rw [this] at G1
        exact G1 _ _ _ (F0.trans F1) E1
      · obtain ⟨F1, E1⟩ := key _ (.p (.i C' (putA f (.d x) fs))) hg ⟨_, rfl⟩ ⟨_, rfl, hT, hN⟩
        have : putT Γ i (.i C' (putA f (.d x) fs)) = Γ.set i (.p (.i C' (putA f (.d x) fs))) := by unfold putT; rw [hg]
        rw [this] at G1
        exact G1 _ _ _ (F0.trans F1) E1
    · rw [if_neg hC] at G1
      exact G1.elim
/-! o.f += e, ints -/
def augKF (i : Nat) (C f : Str) (fn : Int → Int → Int) (x : Int) (r : R) (Γ : Ge) : Out Fl := match r with
  | .d (.int y) => putS i C f (.d (.int (fn x y))) Γ
  | _ => .no
def augLF (i : Nat) (C f : Str) (fn : Int → Int → Int) (g : EF) (Γ : Ge) : Option T → Out Fl
  | some (.d (.int x)) => (g Γ).bind (augKF i C f fn x)
  | _ => .no
def fldAug (i : Nat) (C f : Str) (fn : Int → Int → Int) (g : EF) : SF := fun Γ => match instAt Γ i with
  | some (C', fs) => if C' = C then augLF i C f fn g Γ (fs.lookup f) else .no
  | none => .no
theorem psx_fldAug {op : Operator} {rd : V → V → Hp → VK → Prop} {fn : Int → Int → Int} (ho : PE X o (tVar i)) (pe : PX X e g) (h : FldOk X.K X.mg C f c) (hop : InOp X op rd) (hrd : ∀ (x y : Int) H (Q : VK), Q (.int (fn x y)) H → rd (.int x) (.int y) H Q) :
    PSx X (.AugAssign (.Attribute o f tpos) op e pos) (fldAug i C f fn g) := by
  refine ⟨fun W tk S H σ Γ Z E G => tWS_of (ps_fldaug ho pe_w hop) ?_⟩
  unfold fldAug at G
  cases e1 : instAt Γ i with
  | none => rw [e1] at G; exact G.elim
  | some p =>
    obtain ⟨C', fs⟩ := p
    rw [e1] at G
    dsimp only at G
    by_cases hC : C' = C
    · subst hC
      rw [if_pos rfl] at G
      obtain ⟨a, c1, dx, vs, F, q1, q2, q3, q4, q5, q6, q7, q8, q9, q10⟩ := inst_ok E e1
      rw [show (kx X).cl C' = some c from cl_of h.m] at q2
      cases q2
      cases el : fs.lookup f with
      | none => rw [el] at G; exact G.elim
      | some t =>
        rw [el] at G
        obtain ⟨v, Ft, l1, l2, -⟩ := (q7.look f).2 t el
        cases t with
        | d x =>
          cases x with
          | int x =>
            cases l2 with
            | d hx =>
              cases hx
              refine ⟨.ref a, q1, a, c, dx, vs, .int x, rfl, q5, h.cls, h.noa, l1, ?_⟩
              have G : SG (kx X) X.mg W S H σ Γ Z ((g Γ).bind (augKF i C' f fn x)) := G
              refine tW_mono (pe.run W tk S H σ Γ _ E (SG.bind G)) fun yv H2 ⟨S2, r, Γ2, _, F2, E2, R2, G2⟩ => ?_
              cases r with
              | d y =>
                cases y with
                | int y =>
                  cases (show Dq (kx X) S2.hp yv (.int y) from R2)
                  refine hrd x y H2 _ ?_
                  obtain ⟨a', dx', vs', w1, w2, w3, w4⟩ := put_ok h F2 E2 (.int (fn x y)) G2
                  rw [q1] at w1
                  cases w1
                  exact ⟨dx', vs', w2, w3, w4⟩
                | _ => exact G2.elim
              | _ => exact G2.elim
          | _ => exact G.elim
        | _ => exact G.elim
    · rw [if_neg hC] at G
      exact G.elim
end
/-! ### a dict of the module: texts to texts; the table tells some keys -/
structure KdOk (K : PySem.W.Frag) (w : World) (mg : Str → Option Value) (x : Str) (tab : List (Str × Option Str)) : Prop where
  ex : ∃ d es n, mg x = some (.ref d) ∧ KDict K w d es n ∧ ∀ z o, tab.lookup z = some o → match o with
    | none => PySem.W.nsIn K d z = some none
    | some y => ∃ t, PySem.W.nsIn K d z = some (some (.str y t))
theorem kd_nil {K : PySem.W.Frag} {d : Addr} : ∀ z o, ([] : List (Str × Option Str)).lookup z = some o → match o with
    | none => PySem.W.nsIn K d z = some none
    | some y => ∃ t, PySem.W.nsIn K d z = some (some (.str y t)) := fun z o h => by cases h
theorem kd_some {K : PySem.W.Frag} {d : Addr} {k y : Str} {t : Nat} {tab : List (Str × Option Str)} (h : PySem.W.nsIn K d k = some (some (.str y t))) (r : ∀ z o, tab.lookup z = some o → match o with
    | none => PySem.W.nsIn K d z = some none
    | some y => ∃ t, PySem.W.nsIn K d z = some (some (.str y t))) : ∀ z o, ((k, some y) :: tab).lookup z = some o → match o with
    | none => PySem.W.nsIn K d z = some none
    | some y => ∃ t, PySem.W.nsIn K d z = some (some (.str y t)) := fun z o e => by
  rw [List.lookup_cons] at e
  cases hz : z == k with
  | true =>
    rw [hz] at e
    have hz := eq_of_beq hz
    subst hz
    cases e
    exact ⟨t, h⟩
  | false => rw [hz] at e; exact r z o e
theorem kd_none {K : PySem.W.Frag} {d : Addr} {k : Str} {tab : List (Str × Option Str)} (h : PySem.W.nsIn K d k = some none) (r : ∀ z o, tab.lookup z = some o → match o with
    | none => PySem.W.nsIn K d z = some none
    | some y => ∃ t, PySem.W.nsIn K d z = some (some (.str y t))) : ∀ z o, ((k, none) :: tab).lookup z = some o → match o with
    | none => PySem.W.nsIn K d z = some none
    | some y => ∃ t, PySem.W.nsIn K d z = some (some (.str y t)) := fun z o e => by
  rw [List.lookup_cons] at e
  cases hz : z == k with
  | true =>
    rw [hz] at e
    have hz := eq_of_beq hz
    subst hz
    cases e
    exact h
  | false => rw [hz] at e; exact r z o e
def inKd2 (tab : List (Str × Option Str)) (neg : Bool) (r : R) (Γ : Ge) : Out R := match r with
  | .d (.str z) => match tab.lookup z with
    | some o => .ok (.d (.bool (if neg then !o.isSome else o.isSome))) Γ
    | none => .no
  | _ => .no
def inKd (tab : List (Str × Option Str)) (neg : Bool) (f : EF) : EF := fun Γ => (f Γ).bind (inKd2 tab neg)
def ixKd2 (tab : List (Str × Option Str)) (r : R) (Γ : Ge) : Out R := match r with
  | .d (.str z) => match tab.lookup z with
    | some (some y) => .ok (.d (.str y)) Γ
    | _ => .no
  | _ => .no
def ixKd (tab : List (Str × Option Str)) (f : EF) : EF := fun Γ => (f Γ).bind (ixKd2 tab)
section
variable {X : Cx} {a : Expr} {f : EF} {nm : Str} {p pos : Pos} {tab : List (Str × Option Str)}
theorem px_inKd (h : KdOk X.K X.w X.mg nm tab) (hg : Gl X nm) (pa : PX X a f) (hdb : (nm == ("__debug__" : Str)) = false := by decide) (hm : behindInMarks .In (.Name nm p) = false := by rfl) : PX X (.Compare a [.In] [.Name nm p] pos) (inKd tab false f) := by
  obtain ⟨d, es, n, h1, D, h2⟩ := h.ex
  refine ⟨fun W tk S H σ Γ Q E G => tW_of (pe_cmpR (op_in_kd D) pe_w (pe_glob hg (v := .ref d) h1 rfl hdb) hm) ?_⟩
  refine tW_mono (pa.run W tk S H σ Γ _ E (OG.bind G)) fun x H1 ⟨S1, r, Γ1, _, F1, E1, R1, G1⟩ => ?_
  cases r with
  | d y =>
    cases y with
    | str z =>
      cases (show Dq (kx X) S1.hp x (.str z) from R1)
      have G1 : EG (kx X) X.mg W S H σ Γ Q (inKd2 tab false (.d (.str z)) Γ1) := G1
      unfold inKd2 at G1
      dsimp only at G1
      cases e : tab.lookup z with
      | none => rw [e] at G1; exact G1.elim
      | some o =>
        rw [e] at G1
        have q := h2 z o e
        cases o with
        | none => exact ⟨z, none, rfl, rfl, q, G1 _ _ _ F1 E1 (.bl _)⟩
        | some y =>
          obtain ⟨t, q⟩ := q
          exact ⟨z, some (.str y t), rfl, rfl, q, G1 _ _ _ F1 E1 (.bl _)⟩
    | _ => exact G1.elim
  | _ => exact G1.elim
theorem ptx_inKd (h : KdOk X.K X.w X.mg nm tab) (hg : Gl X nm) (pa : PX X a f) (hdb : (nm == ("__debug__" : Str)) = false := by decide) (hm : behindInMarks .In (.Name nm p) = false := by rfl) : PTx X (.Compare a [.In] [.Name nm p] pos) (tstB (inKd tab false f)) := by
  obtain ⟨d, es, n, h1, D, h2⟩ := h.ex
  refine ⟨fun W tk S H σ Γ Q E G => tWT_of (pt_cmpR (op_in_kd D) pe_w (pe_glob hg (v := .ref d) h1 rfl hdb) hm) ?_⟩
  have G := asB_of G
  refine tW_mono (pa.run W tk S H σ Γ _ E (OG.bind G)) fun x H1 ⟨S1, r, Γ1, _, F1, E1, R1, G1⟩ => ?_
  cases r with
  | d y =>
    cases y with
    | str z =>
      cases (show Dq (kx X) S1.hp x (.str z) from R1)
      unfold inKd2 at G1
      dsimp only at G1
      cases e : tab.lookup z with
      | none => rw [e] at G1; exact G1.elim
      | some o =>
        rw [e] at G1
        have q := h2 z o e
        cases o with
        | none => exact ⟨z, none, rfl, rfl, q, G1 _ _ _ F1 E1 (.bl _)⟩
        | some y =>
          obtain ⟨t, q⟩ := q
          exact ⟨z, some (.str y t), rfl, rfl, q, G1 _ _ _ F1 E1 (.bl _)⟩
    | _ => exact G1.elim
  | _ => exact G1.elim
theorem px_ixKd (h : KdOk X.K X.w X.mg nm tab) (hg : Gl X nm) (pa : PX X a f) (hs : PlainIx a) (hdb : (nm == ("__debug__" : Str)) = false := by decide) : PX X (.Subscript (.Name nm p) a pos) (ixKd tab f) := by
  obtain ⟨d, es, n, h1, D, h2⟩ := h.ex
  refine ⟨fun W tk S H σ Γ Q E G => tW_of (pe_ix ix_kdict (pe_glob hg (v := .ref d) h1 rfl hdb) pe_w hs) ?_⟩
  refine tW_mono (pa.run W tk S H σ Γ _ E (OG.bind G)) fun x H1 ⟨S1, r, Γ1, _, F1, E1, R1, G1⟩ => ?_
  cases r with
  | d y =>
    cases y with
    | str z =>
      cases (show Dq (kx X) S1.hp x (.str z) from R1)
      have G1 : EG (kx X) X.mg W S H σ Γ Q (ixKd2 tab (.d (.str z)) Γ1) := G1
      unfold ixKd2 at G1
      dsimp only at G1
      cases e : tab.lookup z with
      | none => rw [e] at G1; exact G1.elim
      | some o =>
        rw [e] at G1
        have q := h2 z o e
        cases o with
        | none => exact G1.elim
        | some y =>
          obtain ⟨t, q⟩ := q
          exact ⟨d, z, .str y, rfl, rfl, ⟨es, n, .str y t, D.at_, D.lit, q, ⟨t, rfl⟩⟩, G1 _ _ _ F1 E1 (.str _)⟩
    | _ => exact G1.elim
  | _ => exact G1.elim
end
/-! ### {"x": e, ..}: keys that are written, values data -/
def evsK (r : Ge → Out (List (Key × D))) (k : Key) (v : R) (Γ : Ge) : Out (List (Key × D)) := match v with
  | .d x => (r Γ).bind fun xs Γ2 => .ok ((k, x) :: xs) Γ2
  | _ => .no
def evsF : List (Key × EF) → Ge → Out (List (Key × D))
  | [], Γ => .ok [] Γ
  | (k, f) :: r, Γ => (f Γ).bind (evsK (evsF r) k)
def dispK (xs : List (Key × D)) (Γ : Ge) : Out R := if (xs.map (·.1)).Nodup ∧ xs.length ≤ 15 then .ok (.d (.dict (xs.map fun p => (kD p.1, p.2)))) Γ else .no
def dispF (kf : List (Key × EF)) : EF := fun Γ => (evsF kf Γ).bind dispK
inductive KvD (K : Kx) (S : Hp) : List (Key × V) → List (Key × D) → Prop
  | nil : KvD K S [] []
  | cons {k : Key} {v : V} {vs : List (Key × V)} {d : D} {ds : List (Key × D)} : Dq K S v d → KvD K S vs ds → KvD K S ((k, v) :: vs) ((k, d) :: ds)
theorem KvD.keys {K : Kx} {S : Hp} : ∀ {ks : List (Key × V)} {xs : List (Key × D)}, KvD K S ks xs → ks.map (·.1) = xs.map (·.1)
  | _, _, .nil => rfl
  | _, _, .cons _ r => by simp [KvD.keys r]
theorem KvD.dq {K : Kx} {S S' : Hp} (e : Same S S') : ∀ {ks : List (Key × V)} {xs : List (Key × D)}, KvD K S ks xs → DqKv K S' ks (xs.map fun p => (kD p.1, p.2))
  | _, _, .nil => .nil
  | _, _, .cons h r => .cons (Same.dp e h) (KvD.dq e r)
theorem putK_new' {v : V} {k : Key} {ks : List (Key × V)} (h : k ∉ ks.map (·.1)) : putK ks k v = ks ++ [(k, v)] := by
  unfold putK
  rw [if_neg]
  intro z
  obtain ⟨p, hp, e⟩ := List.any_eq_true.mp z
  exact h (List.mem_map.mpr ⟨p, hp, of_decide_eq_true e⟩)
theorem mergeK_nodup : ∀ {more ks : List (Key × V)}, ((ks ++ more).map (·.1)).Nodup → mergeK ks more = ks ++ more := by
  intro more
  induction more with
  | nil => intro ks _; show ks = ks ++ []; simp
  | cons p r ih =>
    intro ks h
    show mergeK (putK ks p.1 p.2) r = _
    have hn : p.1 ∉ ks.map (·.1) := by
      rw [List.map_append, List.nodup_append] at h
      intro z
      exact h.2.2 p.1 z p.1 (by simp) rfl
    rw [putK_new' hn, ih (by simpa using h)]
    simp
structure PDs (X : Cx) (pos : Pos) (keys : List (Option Expr)) (vals : List Expr) (kf : List (Key × EF)) : Prop where
  ex : ∃ trs, PPs X pos keys vals trs ∧ ∀ (W : WX), Takes X W → ∀ (S : Sx) (H : Hp) (σ : L2.St) (Γ : Ge) (Q : List (V × V) → Hp → Prop), EnvOk (kx X) S H σ Γ →
    OG (kx X) X.mg W S H σ Γ (fun S' H' Γ' (ps : List (V × V)) (xs : List (Key × D)) => ∃ ks : List (Key × V), ps = ks.map (fun kv => (kV kv.1, kv.2)) ∧ KvD (kx X) S'.hp ks xs) Q (evsF kf Γ) → tPairs trs σ H Q
section
variable {X : Cx} {pos : Pos} {keys : List (Option Expr)} {vals : List Expr} {kf : List (Key × EF)} {ke e : Expr} {f : EF} {k : Key}
theorem pds_nil : PDs X pos [] [] [] := ⟨[], pps_nil, fun W tk S H σ Γ Q E G => G S H [] .refl E ⟨[], rfl, .nil⟩⟩
theorem pds_cons (hk : PE X ke (tC (kV k))) (pe : PX X e f) (r : PDs X pos keys vals kf) : PDs X pos (some ke :: keys) (e :: vals) ((k, f) :: kf) := by
  obtain ⟨trs, h1, h2⟩ := r.ex
  refine ⟨⟨(tC (kV k), tW X e) :: trs, pps_cons hk pe_w h1, fun W tk S H σ Γ Q E G => ?_⟩⟩
  show tW X e σ H (fun y H2 => tPairs trs σ H2 fun ps H3 => Q ((kV k, y) :: ps) H3)
  refine tW_mono (pe.run W tk S H σ Γ _ E (OG.bind G)) fun y H1 ⟨S1, r, Γ1, _, F1, E1, R1, G1⟩ => ?_
  cases r with
  | d x =>
    refine h2 W tk S1 H1 σ Γ1 _ E1 ?_
    unfold evsK at G1
    dsimp only at G1
    cases ev : evsF kf Γ1 with
    | no => rw [ev] at G1; exact G1
    | ex z Γ2 => rw [ev] at G1; exact fun S' H' c d F' E' q => G1 S' H' c d (F1.trans F') E' q
    | ok xs Γ2 =>
      rw [ev] at G1
      exact fun S' H' ps F' E' ⟨ks, e1, q⟩ => G1 S' H' ((kV k, y) :: ps) (F1.trans F') E' ⟨(k, y) :: ks, by rw [e1]; rfl, .cons (Same.dp F'.grow R1) q⟩
  | _ => exact G1.elim
theorem px_dsp (h : PDs X pos keys vals kf) (hall : keys.all (·.isSome) = true) (hl : keys.length = vals.length) (h0 : keys ≠ []) (h15 : keys.length ≤ 15) : PX X (.Dict keys vals pos) (dispF kf) := by
  obtain ⟨trs, h1, h2⟩ := h.ex
  refine ⟨fun W tk S H σ Γ Q E G => tW_of (pe_disp h1 hall hl h0 h15) fun p hp => ?_⟩
  refine h2 W tk S (upd H p (.dK [])) σ Γ _ (E.push hp _) ?_
  have G : EG (kx X) X.mg W S H σ Γ Q ((evsF kf Γ).bind dispK) := G
  cases ev : evsF kf Γ with
  | no => rw [ev] at G; exact G
  | ex z Γ2 => rw [ev] at G; exact fun S' H' c d F' E' q => G S' H' c d ((Frm.push E hp _).trans F') E' q
  | ok xs Γ2 =>
    rw [ev] at G
    intro S' H' ps F' E' ⟨ks, e1, q⟩
    have G : EG (kx X) X.mg W S H σ Γ Q (dispK xs Γ2) := G
    unfold dispK at G
    by_cases hc : (xs.map (·.1)).Nodup ∧ xs.length ≤ 15
    · rw [if_pos hc] at G
      have hO : ¬ Own S p := not_own_new E hp
      have neP : (upd H p (.dK [])) p ≠ none := by rw [upd_same]; intro z; cases z
      have k1 : H' p = some (.dK []) := F'.keep p _ upd_same hO
      have k2 : S'.hp p = none := F'.fresh p (E.free hp) neP hO
      have k3 : ¬ Own S' p := fun z => by
        rcases F'.own p z with z | z
        · exact hO z
        · exact neP z
      have hk := q.keys
      have hln : ks.length = xs.length := by
        have := congrArg List.length hk
        simpa using this
      refine ⟨k1, ks, e1, by rw [hln]; exact hc.2, ?_⟩
      rw [mergeK_nodup (ks := []) (by rw [List.nil_append, hk]; exact hc.1), List.nil_append]
      have F1 := (Frm.push E hp (.dK [])).trans F'
      have hL1 : ∀ b o, H b = some o → b ≠ p := fun b o e => ne_of_none e hp
      have F2 : Frm S H σ Γ S' (upd H' p (.dK ks)) σ Γ2 := ⟨F1.grow, fun b o h n => by rw [upd_ne (hL1 b o h)]; exact F1.keep b o h n, F1.fresh, F1.own, F1.bor, F1.bop, F1.len⟩
      have E2 := E'.updN (o := .dK ks) k2 k3
      exact G _ _ _ (F2.freeze (o := .dK ks) k2 (.inl hp)) (E2.freeze (o := .dK ks) k2 upd_same k3) (.dic (.inl upd_same) (q.dq (Same.upd k2)))
    · rw [if_neg hc] at G
      exact G.elim
end
/-! how they compute -/
section
variable {Γ : Ge} {i : Nat} {C C' f : Str} {fs : List (Str × T)} {fn : Int → Int → Int} {g : EF}
def augVF (o : Option Sl) (i : Nat) (C f : Str) (fn : Int → Int → Int) (g : EF) (Γ : Ge) : Out Fl := match o with
  | some (.o (.i C' fs)) => if C' = C then augLF i C f fn g Γ (fs.lookup f) else .no
  | some (.p (.i C' fs)) => if C' = C then augLF i C f fn g Γ (fs.lookup f) else .no
  | _ => .no
@[simp] theorem augVF_o : augVF (some (.o (.i C' fs))) i C f fn g Γ = if C' = C then augLF i C f fn g Γ (fs.lookup f) else .no := id rfl
@[simp] theorem augVF_p : augVF (some (.p (.i C' fs))) i C f fn g Γ = if C' = C then augLF i C f fn g Γ (fs.lookup f) else .no := id rfl
@[simp] theorem augLF_i {x : Int} : augLF i C f fn g Γ (some (.d (.int x))) = (g Γ).bind (augKF i C f fn x) := id rfl
@[simp] theorem augKF_i {x y : Int} : augKF i C f fn x (.d (.int y)) Γ = putS i C f (.d (.int (fn x y))) Γ := id rfl
@[simp] theorem fldAug_eq : fldAug i C f fn g Γ = augVF Γ[i]? i C f fn g Γ := by
  unfold fldAug instAt
  cases Γ[i]? with
  | none => rfl
  | some sl =>
    cases sl with
    | o t => cases t <;> rfl
    | p t => cases t <;> rfl
    | _ => rfl
@[simp] theorem inKd_eq {tab : List (Str × Option Str)} {neg : Bool} : inKd tab neg g Γ = (g Γ).bind (inKd2 tab neg) := id rfl
@[simp] theorem ixKd_eq {tab : List (Str × Option Str)} : ixKd tab g Γ = (g Γ).bind (ixKd2 tab) := id rfl
@[simp] theorem inKd2_s {tab : List (Str × Option Str)} {neg : Bool} {z : Str} : inKd2 tab neg (.d (.str z)) Γ = match tab.lookup z with | some o => .ok (.d (.bool (if neg then !o.isSome else o.isSome))) Γ | none => .no := id rfl
@[simp] theorem ixKd2_s {tab : List (Str × Option Str)} {z : Str} : ixKd2 tab (.d (.str z)) Γ = match tab.lookup z with | some (some y) => .ok (.d (.str y)) Γ | _ => .no := id rfl
@[simp] theorem evsF_nil : evsF [] Γ = .ok [] Γ := id rfl
@[simp] theorem evsF_cons {k : Key} {r : List (Key × EF)} : evsF ((k, g) :: r) Γ = (g Γ).bind (evsK (evsF r) k) := id rfl
@[simp] theorem evsK_d {r : Ge → Out (List (Key × D))} {k : Key} {x : D} : evsK r k (.d x) Γ = (r Γ).bind fun xs Γ2 => .ok ((k, x) :: xs) Γ2 := id rfl
@[simp] theorem dispF_eq {kf : List (Key × EF)} : dispF kf Γ = (evsF kf Γ).bind dispK := id rfl
end
end Ly
set_option maxRecDepth 100000
/-! Lz9: x = {k: v for ..}, frozen -/
namespace L2
open PySem PySem.Spec PyProof.Rows
section
variable {X : Cx}
theorem ps_setDc {i : Nat} {y : Str} {py : Pos} {kx vx tg iter : Expr} {ifs : List Expr} {scope : Scope} {own : List (Str × Nat)} {pos spos : Pos} {wi : TI} {g : TG} {tt : TT} {tk tv : TE} (hc : X.calm = true) (hN : X.N.Nodup) (hy : X.N[i]? = some y) (hyl : X.env.scope.names.lookup y = some .local)
    (hsw : swapsWith (.DictComp kx vx [⟨tg, iter, ifs, 0⟩] scope pos) (some (.Name y py)) spos.line X.env = pure true) (hi : PI X tg iter wi) (ok : BlkOk X.N X.env.scope scope own)
    (hg : ∀ (s : Shared) (H : Hp) (C : Addr) (cl : List (Str × Addr)) (fp : List Addr), PG (X.blk s H scope (compEnvC scope cl C X.env) fp) tg g) (ht : ∀ (s : Shared) (H : Hp) (C : Addr) (cl : List (Str × Addr)) (fp : List Addr), PTs (X.blk s H scope (compEnvC scope cl C X.env) fp) ifs tt)
    (hk : ∀ (s : Shared) (H : Hp) (C : Addr) (cl : List (Str × Addr)) (fp : List Addr), PE (X.blk s H scope (compEnvC scope cl C X.env) fp) kx tk)
    (he : ∀ (s : Shared) (H : Hp) (C : Addr) (cl : List (Str × Addr)) (fp : List Addr), PE (X.blk s H scope (compEnvC scope cl C X.env) fp) vx tv) (hs : ∀ x, foldedSetIterable iter X.env x = pure x := by intro _; rfl) :
    PS X (.Assign [.Name y py] (.DictComp kx vx [⟨tg, iter, ifs, 0⟩] scope pos) spos) (tAsg (tDc wi g tt tk tv (own.map (·.2))) (gName i)) := by
  refine ⟨fun pins s σ H D I h => ?_⟩
  rw [exec_Assign_Name_used _ _ _ _ hsw]
  refine wpAny_bind (wpAny_standAt (wpAny_bind ?_))
  show wpAny _ X.A (do let _ ← comprehension (.DictComp kx vx [⟨tg, iter, ifs, 0⟩] scope pos) scope X.env (firstIterPos [⟨tg, iter, ifs, 0⟩] pos) newDict false (eval iter X.env) (some (assign (.Name y py) X.env))) _ _ s
  have h : tDc wi g tt tk tv (own.map (·.2)) σ H (fun x H1 => gName i x σ H1 D.nx) := h
  refine wpAny_bind (thn (dc_core (Qf := fun _ s' => SP X pins D .next s') hc hN I hi ok hg ht hk he hs h fun L C s' m H' I' q hn f => ?_) fun _ s' hq => wpAny_pure (wpAny_pure hq))
  show wpAny _ _ (assign (.Name y py) X.env (.ref L)) _ _ _
  refine wpAny_assign_Name (store_ok2 (v := V.ref L) I' hN hy (.inl hyl) rfl (fun s2 I2 ⟨a, sb, ha⟩ => ?_) (.inr hyl))
  obtain ⟨f0, f1, f2, f3, f4, f5⟩ := f
  have haC : C ≠ a := by
    rcases ha with z | z
    · rw [z]; exact f1
    · exact fun e => f4 y a z e.symm
  refine ⟨m, hn.sameBut sb haC, fun h3 sb3 => ?_⟩
  exact ⟨_, H', I2.turned (t' := s2.toks) (fun b o hb e => (sb3.2 b hb).trans e) f0 f1 f3 f4 f5, q⟩
theorem sw_trueD {kx vx : Expr} {gs : List Comprehension} {scope : Scope} {pos py : Pos} {y : Str} {l : Nat} {env : Env} (hk : env.scope.kind = .function) (hy : env.scope.names.lookup y = some .local) (hl : (py.line == pos.line) = true)
    (ha : (scope.names.any fun (n, k) => n == y && (k == .local || k == .cell)) = false) : swapsWith (.DictComp kx vx gs scope pos) (some (.Name y py)) l env = pure true := by
  have ky : env.kindOf y = some .local := hy
  have hb : env.blockKind = .function := by unfold Env.blockKind; rw [hk]; rfl
  unfold swapsWith
  simp only [hb, ky, ha, Expr.pos, hl]
  rfl
end
end L2
namespace Ly
open PySem L2
section
variable {X : Cx} {tg iter ke ve : Expr} {ifs : List Expr} {scope : Scope} {own : List (Str × Nat)} {pos spos : Pos} {it : LF} {g : GF} {u : BF} {fk fv : EF}
theorem psx_setDc {i : Nat} {y : Str} {py : Pos} (hc : X.calm = true) (hN : X.N.Nodup) (hy : X.N[i]? = some y) (hyl : X.env.scope.names.lookup y = some .local) (hsw : swapsWith (.DictComp ke ve [⟨tg, iter, ifs, 0⟩] scope pos) (some (.Name y py)) spos.line X.env = pure true)
    (hi : PIx X tg iter it) (ok : BlkOk X.N X.env.scope scope own)
    (hg : ∀ (s : Shared) (H : Hp) (C : Addr) (cl : List (Str × Addr)) (fp : List Addr), PGc (X.blk s H scope (compEnvC scope cl C X.env) fp) (own.map (·.2)) tg g) (hx : NoEx g)
    (ht : ∀ (s : Shared) (H : Hp) (C : Addr) (cl : List (Str × Addr)) (fp : List Addr), PTsx (X.blk s H scope (compEnvC scope cl C X.env) fp) ifs u)
    (hk : ∀ (s : Shared) (H : Hp) (C : Addr) (cl : List (Str × Addr)) (fp : List Addr), PX (X.blk s H scope (compEnvC scope cl C X.env) fp) ke fk)
    (he : ∀ (s : Shared) (H : Hp) (C : Addr) (cl : List (Str × Addr)) (fp : List Addr), PX (X.blk s H scope (compEnvC scope cl C X.env) fp) ve fv) (hs : ∀ x, foldedSetIterable iter X.env x = pure x := by intro _; rfl) :
    PSx X (.Assign [.Name y py] (.DictComp ke ve [⟨tg, iter, ifs, 0⟩] scope pos) spos) (setF (gN i) (frzF (dcF it g u fk fv (own.map (·.2))))) := by
  refine ⟨fun W tk S H σ Γ Z E G => tWS_of (ps_setDc hc hN hy hyl hsw pi_w ok (g := gAll X scope tg) (tt := tAll X scope ifs) (tk := eAll X scope ke) (tv := eAll X scope ve)
    (fun s H C cl fp => ⟨fun pins sh σ H' v u Q I r h => h s H C cl fp pins sh u I r⟩) (fun s H C cl fp => ⟨fun pins sh σ H' Q I h => h s H C cl fp pins sh I⟩) (fun s H C cl fp => ⟨fun pins sh σ H' Q I h => h s H C cl fp pins sh I⟩) (fun s H C cl fp => ⟨fun pins sh σ H' Q I h => h s H C cl fp pins sh I⟩) hs)
    (dc_run (Q := fun v H1 => gName i v σ H1 Z.nx) tk hi hg hx ht hk he E ?_)⟩
  have G1 := SG.bind (rel := fun S' H' Γ' v r => ROk (kx X) S H S' H' σ v r) G
  revert G1
  unfold frzF
  cases dcF it g u fk fv (own.map (·.2)) Γ with
  | no => exact fun z => z
  | ex _ _ => exact fun z => z
  | ok r Γ' =>
    intro z S' H' v F' E' R'
    refine frz_ok (mg := X.mg) (W := W) (Q := fun v H1 => gName i v σ H1 Z.nx) E' F' R' ?_
    rw [show (Out.ok r Γ').bind frz = frz r Γ' from rfl] at z
    revert z
    cases frz r Γ' with
    | no => exact fun z => z
    | ex _ _ => exact fun z => z
    | ok r' Γ2 =>
      intro z S' H' v F' E' R'
      obtain ⟨S2, r2, Γ2, e2, F2, E2, R2, G2⟩ := z S' H' v F' E' R'
      cases e2
      exact setN_ok F2 E2 R2 (UG_of_SG G2 fun x Γ' => noex_name _ _ _ _)
end
end Ly
set_option maxRecDepth 100000
/-! Ma: a, b, c = a list -/
namespace Ly
open PySem L2
def gUl (n : Nat) (t : List D → Ge → Out Unit) : GF := fun r Γ => match r with
  | .d (.list xs) => if xs.length = n then t xs Γ else .no
  | _ => .no
section
variable {X : Cx} {tgs : List Expr} {pos : Pos}
theorem pgx_unl {k n : Nat} {tf : List D → Ge → Out Unit} (hc : X.calm = true) (h : PGsx X tgs tf) (hn : (assignEach tgs X.env).length = n := by rfl) (hst : (assignEach tgs X.env).findIdx? (·.1) = none := by rfl) : PGx X (.Tuple tgs k pos) (gUl n tf) := by
  refine ⟨fun W tk S0 H0 σ0 Γ0 S H σ Γ v r Q F E R G => tWG_of (pg_lst hc pgs_w hn hst) ?_⟩
  cases r with
  | l _ => exact G.elim
  | s _ => exact G.elim
  | o _ => exact G.elim
  | d z =>
    cases z <;> first
      | exact G.elim
      | skip
    rename_i xs
    have G : UG (kx X) S0 H0 σ0 Γ0 Q (if xs.length = n then tf xs Γ else .no) := G
    by_cases hl : xs.length = n
    · rw [if_pos hl] at G
      cases R with
      | lst hs ha => exact ⟨_, _, rfl, (Same.ls E.sub hs).seq, (DqAll.length ha).trans hl, h.run W tk S0 H0 σ0 Γ0 S H σ Γ _ xs Q F E ha G⟩
    · rw [if_neg hl] at G
      exact G.elim
end
theorem noex_unl {n : Nat} {tf : List D → Ge → Out Unit} (h : NoExs tf) : NoEx (gUl n tf) := fun r Γ x Γ' e => by
  unfold gUl at e
  split at e
  · split at e
    · exact h _ _ _ _ e
    · cases e
  · cases e
@[simp] theorem gUl_eq {n : Nat} {tf : List D → Ge → Out Unit} {xs : List D} {Γ : Ge} : gUl n tf (.d (.list xs)) Γ = if xs.length = n then tf xs Γ else .no := id rfl
end Ly
set_option maxRecDepth 100000
/-! Mb: d.get(k, x), d a dict of one's own with int or text keys -/
namespace Ly
open PySem L2
def dlook (kvs : List (D × T)) (k : NestedKey) : Option T := (kvs.find? fun p => decide (nk p.1 = some k)).map (·.2)
theorem tkv_look {K : Kx} {S H : Hp} (k : Key) : ∀ {ks : List (Key × V)} {kvs : List (D × T)} {F : List Addr}, TKv K S H ks kvs F → (dlook kvs (nkK k) = none → valV ks k = none) ∧ ∀ d, dlook kvs (nkK k) = some (.d d) → ∃ v, valV ks k = some v ∧ Dq K S v d
  | _, _, _, .nil => ⟨fun _ => rfl, fun d h => by cases h⟩
  | _, _, _, .cons (k := k0) (v := v) (vs := vs) (t := t0) (ts := ts) h r => by
    obtain ⟨q1, q2⟩ := tkv_look k r
    by_cases e : k0 = k
    · subst e
      have a1 : dlook ((kD k0, t0) :: ts) (nkK k0) = some t0 := by simp [dlook, List.find?_cons, nk_kD]
      have a2 : valV ((k0, v) :: vs) k0 = some v := valV_pos rfl
      rw [a1, a2]
      refine ⟨?_, ?_⟩
      · intro z; cases z
      · intro d hd
        cases hd
        cases h with
        | d hx => exact ⟨v, rfl, hx⟩
    · have ne : ¬ nkK k0 = nkK k := fun z => e (nkK_inj z)
      have a1 : dlook ((kD k0, t0) :: ts) (nkK k) = dlook ts (nkK k) := by simp [dlook, List.find?_cons, nk_kD, ne]
      have a2 : valV ((k0, v) :: vs) k = valV vs k := valV_neg e
      rw [a1, a2]
      exact ⟨q1, q2⟩
def dgetV (o : Option T) (x : D) (Γ : Ge) : Out R := match o with
  | some (.d y) => .ok (.d y) Γ
  | some _ => .no
  | none => .ok (.d x) Γ
def dget3 (i : Nat) (k : Key) (r : R) (Γ : Ge) : Out R := match r, dictAt Γ i with
  | .d x, some kvs => if flatKs kvs = true then dgetV (dlook kvs (nkK k)) x Γ else .no
  | _, _ => .no
def dget2 (i : Nat) (g : EF) (r : R) (Γ : Ge) : Out R := match r with
  | .d d => match keyD d with
    | some k => (g Γ).bind (dget3 i k)
    | none => .no
  | _ => .no
def dgetF (i : Nat) (f g : EF) : EF := fun Γ => match dictAt Γ i with
  | some kvs => if flatKs kvs = true then (f Γ).bind (dget2 i g) else .no
  | none => .no
section
variable {X : Cx} {o e e2 : Expr} {i : Nat} {pos apos : Pos} {f g : EF}
theorem px_dget (hu : X.A.units + 64 < cLine) (ho : PE X o (tVar i)) (pe : PX X e f) (pg : PX X e2 g) (m : M2 X o "get" apos e e2 pos) : PX X (.Call (.Attribute o "get" apos) [e, e2] [] pos) (dgetF i f g) := by
  refine ⟨fun W tk S H σ Γ Q E G => tW_of (pe_dget2 (by omega) ho pe_w pe_w m) ?_⟩
  unfold dgetF at G
  cases ed : dictAt Γ i with
  | none => rw [ed] at G; exact G.elim
  | some kvs =>
    rw [ed] at G
    dsimp only at G
    by_cases hf : flatKs kvs = true
    · rw [if_pos hf] at G
      obtain ⟨a, ks, F, w1, w2, w3, w4, w5, w6, w7⟩ := dict_ok E ed hf
      refine ⟨.ref a, w1, a, rfl, .inl ⟨ks, .inl w3⟩, ?_⟩
      refine tW_mono (pe.run W tk S H σ Γ _ E (OG.bind G)) fun y H1 ⟨S1, r1, Γ1, _, F1, E1, R1, G1⟩ => ?_
      cases r1 with
      | d d =>
        have G1 : EG (kx X) X.mg W S H σ Γ Q (dget2 i g (.d d) Γ1) := G1
        unfold dget2 at G1
        dsimp only at G1
        cases ek : keyD d with
        | none => rw [ek] at G1; exact G1.elim
        | some k =>
          rw [ek] at G1
          dsimp only at G1
          have hy : y = kV k := by
            have R1 : Dq (kx X) S1.hp y d := R1
            cases d <;> first
              | (cases ek; done)
              | skip
            · cases ek; cases R1; rfl
            · cases ek; cases R1; rfl
          refine tW_mono (pg.run W tk S1 H1 σ Γ1 _ E1 (OG.bind (EG.shift F1 G1))) fun z H2 ⟨S2, r2, Γ2, eo, F2, E2, R2, _⟩ => ?_
          rw [eo] at G1
          have G2 : EG (kx X) X.mg W S H σ Γ Q (dget3 i k r2 Γ2) := G1
          cases r2 with
          | d x =>
            unfold dget3 at G2
            cases ed2 : dictAt Γ2 i with
            | none => simp only [ed2] at G2; exact G2.elim
            | some kvs2 =>
              simp only [ed2] at G2
              by_cases hf2 : flatKs kvs2 = true
              · rw [if_pos hf2] at G2
                obtain ⟨a', ks', F', x1, x2, x3, x4, x5, x6, x7⟩ := dict_ok E2 ed2 hf2
                rw [w1] at x1
                cases x1
                obtain ⟨q1, q2⟩ := tkv_look k x4
                refine ⟨valV ks' k, .inl ⟨ks', k, .inl x3, hy, rfl⟩, ?_⟩
                cases el : dlook kvs2 (nkK k) with
                | none =>
                  rw [el] at G2
                  rw [q1 el]
                  exact G2 _ _ _ (F1.trans F2) E2 R2
                | some t =>
                  rw [el] at G2
                  cases t with
                  | d y =>
                    obtain ⟨v, e1, e2⟩ := q2 y el
                    rw [e1]
                    exact G2 _ _ _ (F1.trans F2) E2 e2
                  | _ => exact G2.elim
              · rw [if_neg hf2] at G2
                exact G2.elim
          | _ => exact G2.elim
      | _ => exact G1.elim
    · rw [if_neg hf] at G
      exact G.elim
end
/-! how they compute -/
section
variable {Γ : Ge} {i : Nat} {f g : EF} {kvs : List (D × T)}
def dictV (o : Option Sl) : Option (List (D × T)) := match o with
  | some (.o (.k kvs)) => some kvs
  | some (.p (.k kvs)) => some kvs
  | _ => none
@[simp] theorem dictAt_eq : dictAt Γ i = dictV Γ[i]? := id rfl
@[simp] theorem dictV_o : dictV (some (.o (.k kvs))) = some kvs := id rfl
@[simp] theorem dictV_p : dictV (some (.p (.k kvs))) = some kvs := id rfl
theorem dgetF_eq (h : dictAt Γ i = some kvs) (hf : flatKs kvs = true) : dgetF i f g Γ = (f Γ).bind (dget2 i g) := by
  unfold dgetF
  rw [h]
  exact if_pos hf
@[simp] theorem dget2_s {s : Str} : dget2 i g (.d (.str s)) Γ = (g Γ).bind (dget3 i (.inr s)) := id rfl
theorem dget3_eq {x : D} {k : Key} (h : dictAt Γ i = some kvs) (hf : flatKs kvs = true) : dget3 i k (.d x) Γ = dgetV (dlook kvs (nkK k)) x Γ := by
  unfold dget3
  rw [h]
  exact if_pos hf
theorem dput2_eq {x : D} (h : dictAt Γ i = some kvs) : dput2 i g (.d x) Γ = (g Γ).bind (dput3 i x) := by
  unfold dput2
  rw [h]
theorem dput3_eq {x : D} {s : Str} (h : dictAt Γ i = some kvs) (hf : flatKs kvs = true) (hl : kvs.length < 900000) : dput3 i x (.d (.str s)) Γ = .ok .nx (putT Γ i (.k (putKT kvs (.text s) (.str s) (.d x)))) := by
  unfold dput3
  rw [show view Γ (.d (.str s)) = some (.str s) from rfl, h]
  exact if_pos ⟨hf, hl⟩
end
end Ly
set_option maxRecDepth 100000
set_option maxHeartbeats 4000000
namespace My
open PySem L2 Ly
def topS (i : Nat) : Stmt := PySem.Challenge.pw_fillchairs_k90_setups_written_and_read.main.body.getD i (.Pass ⟨0, 0, 0, 0⟩)
def clsS (i j : Nat) : Stmt := match topS i with
  | .ClassDef _ _ _ b _ _ _ _ _ _ _ => b.getD j (.Pass ⟨0, 0, 0, 0⟩)
  | st => st
abbrev s_is_tuple : Stmt := topS 11
abbrev N_is_tuple : List Str := ["thing", "fewest", "most"]
theorem sc_is_tuple : FnScope N_is_tuple ["thing", "fewest", "most"] (defScope s_is_tuple) := ⟨rfl, rfl, rfl, by decide +kernel, rfl, by decide +kernel, by decide +kernel⟩
abbrev s_is_integer : Stmt := topS 8
abbrev N_is_integer : List Str := ["thing"]
theorem sc_is_integer : FnScope N_is_integer ["thing"] (defScope s_is_integer) := ⟨rfl, rfl, rfl, by decide +kernel, rfl, by decide +kernel, by decide +kernel⟩
abbrev s_is_number : Stmt := topS 9
abbrev N_is_number : List Str := ["thing", "low", "high"]
theorem sc_is_number : FnScope N_is_number ["thing", "low", "high"] (defScope s_is_number) := ⟨rfl, rfl, rfl, by decide +kernel, rfl, by decide +kernel, by decide +kernel⟩
abbrev s_are_numbers : Stmt := topS 10
abbrev N_are_numbers : List Str := ["things", "low", "high", "thing"]
theorem sc_are_numbers : FnScope N_are_numbers ["things", "low", "high"] (defScope s_are_numbers) := ⟨rfl, rfl, rfl, by decide +kernel, rfl, by decide +kernel, by decide +kernel⟩
abbrev s_are_sizes : Stmt := topS 12
abbrev N_are_sizes : List Str := ["thing", "low", "high"]
theorem sc_are_sizes : FnScope N_are_sizes ["thing"] (defScope s_are_sizes) := ⟨rfl, rfl, rfl, by decide +kernel, rfl, by decide +kernel, by decide +kernel⟩
abbrev s_is_pair : Stmt := topS 13
abbrev N_is_pair : List Str := ["thing", "fewest_groups", "most_groups", "most_singles"]
theorem sc_is_pair : FnScope N_is_pair ["thing", "fewest_groups", "most_groups", "most_singles"] (defScope s_is_pair) := ⟨rfl, rfl, rfl, by decide +kernel, rfl, by decide +kernel, by decide +kernel⟩
abbrev s_is_setup : Stmt := topS 6
abbrev N_is_setup : List Str := ["thing", "seats", "sizes", "rooms", "comers"]
theorem sc_is_setup : FnScope N_is_setup ["thing"] (defScope s_is_setup) := ⟨rfl, rfl, rfl, by decide +kernel, rfl, by decide +kernel, by decide +kernel⟩
abbrev s_check_setup : Stmt := topS 7
abbrev N_check_setup : List Str := ["thing"]
theorem sc_check_setup : FnScope N_check_setup ["thing"] (defScope s_check_setup) := ⟨rfl, rfl, rfl, by decide +kernel, rfl, by decide +kernel, by decide +kernel⟩
abbrev s_show_numbers : Stmt := topS 18
abbrev N_show_numbers : List Str := ["numbers", "number"]
theorem sc_show_numbers : FnScope N_show_numbers ["numbers"] (defScope s_show_numbers) := ⟨rfl, rfl, rfl, by decide +kernel, rfl, by decide +kernel, by decide +kernel⟩
abbrev s_show_setup : Stmt := topS 15
abbrev N_show_setup : List Str := ["setup", "seats", "sizes", "rooms", "comers", "parts", "word", "numbers"]
theorem sc_show_setup : FnScope N_show_setup ["setup"] (defScope s_show_setup) := ⟨rfl, rfl, rfl, by decide +kernel, rfl, by decide +kernel, by decide +kernel⟩
abbrev s_Reader_has_more : Stmt := clsS 17 1
abbrev N_Reader_has_more : List Str := ["self"]
theorem sc_Reader_has_more : FnScope N_Reader_has_more ["self"] (defScope s_Reader_has_more) := ⟨rfl, rfl, rfl, by decide +kernel, rfl, by decide +kernel, by decide +kernel⟩
abbrev s_Reader_end : Stmt := clsS 17 6
abbrev N_Reader_end : List Str := ["self"]
theorem sc_Reader_end : FnScope N_Reader_end ["self"] (defScope s_Reader_end) := ⟨rfl, rfl, rfl, by decide +kernel, rfl, by decide +kernel, by decide +kernel⟩
abbrev s_Reader_take : Stmt := clsS 17 4
abbrev N_Reader_take : List Str := ["self", "known"]
theorem sc_Reader_take : FnScope N_Reader_take ["self", "known"] (defScope s_Reader_take) := ⟨rfl, rfl, rfl, by decide +kernel, rfl, by decide +kernel, by decide +kernel⟩
abbrev s_digits : Stmt := topS 19
abbrev N_digits : List Str := ["low", "high", "number"]
theorem sc_digits : FnScope N_digits ["low", "high"] (defScope s_digits) := ⟨rfl, rfl, rfl, by decide +kernel, rfl, by decide +kernel, by decide +kernel⟩
abbrev s_Reader_take_word : Stmt := clsS 17 5
abbrev N_Reader_take_word : List Str := ["self", "word"]
theorem sc_Reader_take_word : FnScope N_Reader_take_word ["self", "word"] (defScope s_Reader_take_word) := ⟨rfl, rfl, rfl, by decide +kernel, rfl, by decide +kernel, by decide +kernel⟩
abbrev s_Reader_is_at : Stmt := clsS 17 2
abbrev N_Reader_is_at : List Str := ["self", "word"]
theorem sc_Reader_is_at : FnScope N_Reader_is_at ["self", "word"] (defScope s_Reader_is_at) := ⟨rfl, rfl, rfl, by decide +kernel, rfl, by decide +kernel, by decide +kernel⟩
abbrev s_read_numbers : Stmt := topS 20
abbrev N_read_numbers : List Str := ["reader", "most", "ascending", "ending", "numbers"]
theorem sc_read_numbers : FnScope N_read_numbers ["reader", "most", "ascending", "ending"] (defScope s_read_numbers) := ⟨rfl, rfl, rfl, by decide +kernel, rfl, by decide +kernel, by decide +kernel⟩
abbrev s_Readerq__initq_ : Stmt := clsS 17 0
abbrev N_Readerq__initq_ : List Str := ["self", "text"]
theorem sc_Readerq__initq_ : FnScope N_Readerq__initq_ ["self", "text"] (defScope s_Readerq__initq_) := ⟨rfl, rfl, rfl, by decide +kernel, rfl, by decide +kernel, by decide +kernel⟩
abbrev s_read_setup : Stmt := topS 16
abbrev N_read_setup : List Str := ["text", "reader", "seats", "sizes", "rooms", "comers"]
theorem sc_read_setup : FnScope N_read_setup ["text"] (defScope s_read_setup) := ⟨rfl, rfl, rfl, by decide +kernel, rfl, by decide +kernel, by decide +kernel⟩
abbrev s_law_draws : Stmt := topS 23
abbrev N_law_draws : List Str := ["cell", "many", "draws", "rest", "seed", "k", "stir", "draw"]
theorem sc_law_draws : FnScope N_law_draws ["cell", "many"] (defScope s_law_draws) := ⟨rfl, rfl, rfl, by decide +kernel, rfl, by decide +kernel, by decide +kernel⟩
abbrev s_law_setup : Stmt := topS 24
abbrev N_law_setup : List Str := ["draws", "seats", "sizes", "draw", "rooms"]
theorem sc_law_setup : FnScope N_law_setup ["draws"] (defScope s_law_setup) := ⟨rfl, rfl, rfl, by decide +kernel, rfl, by decide +kernel, by decide +kernel⟩
abbrev s_law_whole : Stmt := topS 25
abbrev N_law_whole : List Str := ["found"]
theorem sc_law_whole : FnScope N_law_whole ["found"] (defScope s_law_whole) := ⟨rfl, rfl, rfl, by decide +kernel, rfl, by decide +kernel, by decide +kernel⟩
abbrev s_law_numbers : Stmt := topS 26
abbrev N_law_numbers : List Str := ["found", "number"]
theorem sc_law_numbers : FnScope N_law_numbers ["found"] (defScope s_law_numbers) := ⟨rfl, rfl, rfl, by decide +kernel, rfl, by decide +kernel, by decide +kernel⟩
abbrev s_law_setup_text : Stmt := topS 27
abbrev N_law_setup_text : List Str := ["setup", "words", "name", "numbers", "number"]
theorem sc_law_setup_text : FnScope N_law_setup_text ["setup"] (defScope s_law_setup_text) := ⟨rfl, rfl, rfl, by decide +kernel, rfl, by decide +kernel, by decide +kernel⟩
abbrev s_law : Stmt := topS 28
abbrev N_law : List Str := ["script", "texts", "cell", "setup", "text", "found", "part"]
theorem sc_law : FnScope N_law ["script"] (defScope s_law) := ⟨rfl, rfl, rfl, by decide +kernel, rfl, by decide +kernel, by decide +kernel⟩
/-! ### what each def computes -/
def B_is_tuple : SF :=
    (retF (andV (isiF "tuple" (svar 0)) (chainF (leI) (leI) (svar 1) (callN lenC (argC (svar 0) argN)) (svar 2))))
def M_is_tuple : FM := bodyM 3 B_is_tuple
def B_is_integer : SF :=
    (retF (andV (isiF "int" (svar 0)) (notV (isiF "bool" (svar 0)))))
def M_is_integer : FM := bodyM 1 B_is_integer
def B_is_number : SF :=
    (retF (andV (callF M_is_integer (argC (dvar 0) argN)) (chainF (leI) (leI) (svar 1) (svar 0) (svar 2))))
def M_is_number : FM := bodyM 3 B_is_number
def B_are_numbers : SF :=
    (retF (callN allC (argC (lcF (itF (dvar 0)) (gN 3) yesB (frzF (callF M_is_number (argC (dvar 3) (argC (dvar 1) (argC (dvar 2) argN))))) [3]) argN)))
def M_are_numbers : FM := bodyM 4 B_are_numbers
def B_are_sizes : SF :=
    (retF (andV (callF M_is_tuple (argC (dvar 0) (argC (cst (.int 1)) (argC (cst (.int 3)) argN)))) (andV (callF M_are_numbers (argC (dvar 0) (argC (cst (.int 1)) (argC (cst (.int 5)) argN)))) (callN allC (argC (lcF (zipF (argC (dvar 0) (argC (frzF (slF slAD (svar 0) (partF (cst (.int 1))) partN)) argN))) (gTp 2 (gsC (gN 1) (gsC (gN 2) gsN))) yesB (binF (ltI) (svar 1) (svar 2)) [1, 2]) argN)))))
def M_are_sizes : FM := bodyM 3 B_are_sizes
def B_is_pair : SF :=
    (retF (andV (callF M_is_tuple (argC (dvar 0) (argC (cst (.int 2)) (argC (cst (.int 2)) argN)))) (andV (callF M_is_number (argC (frzF (binF ixD (svar 0) (cst (.int 0)))) (argC (dvar 1) (argC (dvar 2) argN)))) (callF M_is_number (argC (frzF (binF ixD (svar 0) (cst (.int 1)))) (argC (cst (.int 0)) (argC (dvar 3) argN)))))))
def M_is_pair : FM := bodyM 4 B_is_pair
def B_is_setup : SF :=
    (seqF (ifF (notB (tstF (callF M_is_tuple (argC (dvar 0) (argC (cst (.int 4)) (argC (cst (.int 4)) argN)))))) (retF (cst (.bool false))) skipF)
    (seqF (setF (gTp 4 (gsC (gN 1) (gsC (gN 2) (gsC (gN 3) (gsC (gN 4) gsN))))) (dvar 0))
    (retF (andV (callF M_is_tuple (argC (dvar 1) (argC (cst (.int 1)) (argC (cst (.int 2)) argN)))) (andV (callF M_are_numbers (argC (dvar 1) (argC (cst (.int 1)) (argC (cst (.int 5)) argN)))) (andV (callF M_are_sizes (argC (dvar 2) argN)) (andV (callF M_is_pair (argC (dvar 3) (argC (cst (.int 1)) (argC (cst (.int 3)) (argC (cst (.int 4)) argN))))) (callF M_is_pair (argC (dvar 4) (argC (cst (.int 0)) (argC (cst (.int 2)) (argC (cst (.int 2)) argN))))))))))))
def M_is_setup : FM := bodyM 5 B_is_setup
def B_check_setup : SF :=
    (ifF (notB (tstF (callF M_is_setup (argC (dvar 0) argN)))) (raiseF "BadSetup") skipF)
def M_check_setup : FM := bodyM 1 B_check_setup
def B_show_numbers : SF :=
    (retF (unF (joinD (Str.ofString " ")) (lcF (itF (dvar 0)) (gN 1) yesB (frzF (callN strC (argC (svar 1) argN))) [1])))
def M_show_numbers : FM := bodyM 2 B_show_numbers
def B_show_setup : SF :=
    (seqF (expF (callF M_check_setup (argC (dvar 0) argN)))
    (seqF (setF (gTp 4 (gsC (gN 1) (gsC (gN 2) (gsC (gN 3) (gsC (gN 4) gsN))))) (dvar 0))
    (seqF (setF (gN 5) (mkF .l (argC (mkF .t (argC (cst (.str (Str.ofString "seats"))) (argC (dvar 1) argN))) (argC (mkF .t (argC (cst (.str (Str.ofString "sizes"))) (argC (dvar 2) argN))) (argC (mkF .t (argC (cst (.str (Str.ofString "rooms"))) (argC (dvar 3) argN))) (argC (mkF .t (argC (cst (.str (Str.ofString "comers"))) (argC (dvar 4) argN))) argN))))))
    (retF (unF (joinD (Str.ofString " ")) (lcF (itF (dvar 5)) (gTp 2 (gsC (gN 6) (gsC (gN 7) gsN))) yesB (frzF (fstrF [.e (svar 6), .c (Str.ofString " "), .e (callF M_show_numbers (argC (dvar 7) argN))])) [6, 7]))))))
def M_show_setup : FM := bodyM 8 B_show_setup
def B_Reader_has_more : SF :=
    (retF (binF (ltI) (fldF 0 "Reader" "at") (callN lenC (argC (fldF 0 "Reader" "words") argN))))
def M_Reader_has_more : FM := bodyM 1 B_Reader_has_more
def B_Reader_end : SF :=
    (ifF (tstF (methF M_Reader_has_more "Reader" "has_more" 0 argN)) (raisePF "BadText" (fldF 0 "Reader" "at")) skipF)
def M_Reader_end : FM := bodyM 1 B_Reader_end
def B_Reader_take : SF :=
    (seqF (ifF (orB (notB (tstF (methF M_Reader_has_more "Reader" "has_more" 0 argN))) (tstB (binF (inDD true) (binF ixD (fldF 0 "Reader" "words") (fldF 0 "Reader" "at")) (svar 1)))) (raisePF "BadText" (fldF 0 "Reader" "at")) skipF)
    (seqF (fldAug 0 "Reader" "at" (fun i j => i + j) (cst (.int 1)))
    (retF (binF getDD (svar 1) (binF ixD (fldF 0 "Reader" "words") (binF subI (fldF 0 "Reader" "at") (cst (.int 1))))))))
def M_Reader_take : FM := bodyM 2 B_Reader_take
def B_digits : SF :=
    (retF (dcF (rng2F (argC (svar 0) (argC (binF addA (svar 1) (cst (.int 1))) argN))) (gN 2) yesB (frzF (callN strC (argC (svar 2) argN))) (dvar 2) [2]))
def M_digits : FM := bodyM 3 B_digits
def B_Reader_take_word : SF :=
    (expF (methF M_Reader_take "Reader" "take" 0 (argC (frzF (disp1F 1 .none)) argN)))
def M_Reader_take_word : FM := bodyM 2 B_Reader_take_word
def B_Reader_is_at : SF :=
    (retF (andV (methF M_Reader_has_more "Reader" "has_more" 0 argN) (binF (eqD) (binF ixD (fldF 0 "Reader" "words") (fldF 0 "Reader" "at")) (svar 1))))
def M_Reader_is_at : FM := bodyM 2 B_Reader_is_at
noncomputable def B_read_numbers : SF :=
    (seqF (setF (gN 4) (mkF .l (argC (frzF (methF M_Reader_take "Reader" "take" 0 (argC (frzF (callF M_digits (argC (cst (.int 1)) (argC (cst (.int 5)) argN)))) argN))) argN)))
    (seqF (whileF (andB (tstB (binF (ltI) (callN lenC (argC (svar 4) argN)) (svar 1))) (notB (tstF (methF M_Reader_is_at "Reader" "is_at" 0 (argC (dvar 3) argN))))) (expF (mutF 4 appendM (argC (frzF (methF M_Reader_take "Reader" "take" 0 (argC (frzF (callF M_digits (argC (frzF (ifE (tstF (svar 2)) (frzF (binF addA (binF ixD (svar 4) (unF negI (cst (.int 1)))) (cst (.int 1)))) (cst (.int 1)))) (argC (cst (.int 5)) argN)))) argN))) argN))))
    (seqF (expF (methF M_Reader_take_word "Reader" "take_word" 0 (argC (dvar 3) argN)))
    (retF (callN tupC (argC (svar 4) argN))))))
noncomputable def M_read_numbers : FM := bodyM 5 B_read_numbers
def B_Readerq__initq_ : SF :=
    (seqF (ifF (notB (tstF (isiF "str" (svar 1)))) (raisePF "BadText" (cst (.int 0))) skipF)
    (seqF (fldS 0 "Reader" "words" (frzF (unF (splitD (Str.ofString " ")) (svar 1))))
    (fldS 0 "Reader" "at" (cst (.int 0)))))
def M_Readerq__initq_ : FM := bodyM 2 B_Readerq__initq_
noncomputable def B_read_setup : SF :=
    (seqF (setF (gN 1) (makeF M_Readerq__initq_ "Reader" (argC (dvar 0) argN)))
    (seqF (expF (methF M_Reader_take_word "Reader" "take_word" 1 (argC (cst (.str (Str.ofString "seats"))) argN)))
    (seqF (setF (gN 2) (callF M_read_numbers (argC (svar 1) (argC (cst (.int 2)) (argC (cst (.bool false)) (argC (cst (.str (Str.ofString "sizes"))) argN))))))
    (seqF (setF (gN 3) (callF M_read_numbers (argC (svar 1) (argC (cst (.int 3)) (argC (cst (.bool true)) (argC (cst (.str (Str.ofString "rooms"))) argN))))))
    (seqF (setF (gN 4) (mkF .t (argC (frzF (methF M_Reader_take "Reader" "take" 1 (argC (frzF (callF M_digits (argC (cst (.int 1)) (argC (cst (.int 3)) argN)))) argN))) (argC (frzF (methF M_Reader_take "Reader" "take" 1 (argC (frzF (callF M_digits (argC (cst (.int 0)) (argC (cst (.int 4)) argN)))) argN))) argN))))
    (seqF (expF (methF M_Reader_take_word "Reader" "take_word" 1 (argC (cst (.str (Str.ofString "comers"))) argN)))
    (seqF (setF (gN 5) (mkF .t (argC (frzF (methF M_Reader_take "Reader" "take" 1 (argC (frzF (callF M_digits (argC (cst (.int 0)) (argC (cst (.int 2)) argN)))) argN))) (argC (frzF (methF M_Reader_take "Reader" "take" 1 (argC (frzF (callF M_digits (argC (cst (.int 0)) (argC (cst (.int 2)) argN)))) argN))) argN))))
    (seqF (expF (methF M_Reader_end "Reader" "end" 1 argN))
    (retF (mkF .t (argC (dvar 2) (argC (dvar 3) (argC (dvar 4) (argC (dvar 5) argN))))))))))))))
noncomputable def M_read_setup : FM := bodyM 6 B_read_setup
def B_law_draws : SF :=
    (seqF (setF (gN 2) (mkF .l argN))
    (seqF (setF (gN 3) (binF subI (callN intC (argC (svar 0) argN)) (binF powI (cst (.int 10)) (cst (.int 18)))))
    (seqF (setF (gN 4) (binF modI (callN intC (argC (svar 0) argN)) (binF addA (binF powI (cst (.int 10)) (cst (.int 40))) (cst (.int 121)))))
    (seqF (forF (rng1F (argC (svar 1) argN)) (gN 5) (seqF (setF (gN 6) (binF modI (callN intC (argC (binF addA (binF addA (binF mulA (svar 4) (cst (.int 48271))) (binF mulA (binF mulA (binF addA (svar 5) (cst (.int 5))) (binF addA (svar 5) (cst (.int 5)))) (cst (.int 69621)))) (cst (.int 1))) argN)) (cst (.int 2305843009213693951))))
    (seqF (setF (gN 6) (binF modI (callN intC (argC (binF addA (binF mulA (svar 6) (svar 6)) (binF mulA (cst (.int 7)) (svar 5))) argN)) (cst (.int 2305843009213693921))))
    (seqF (setF (gN 7) (binF modI (callN intC (argC (binF divA (svar 6) (cst (.int 64))) argN)) (cst (.int 2520))))
    (seqF (ifF (tstB (binF (gtI) (svar 3) (cst (.int 0)))) (seqF (setF (gN 7) (binF modI (callN intC (argC (svar 3) argN)) (cst (.int 2520))))
    (setF (gN 3) (binF divA (svar 3) (cst (.int 2520))))) skipF)
    (expF (mutF 2 appendM (argC (dvar 7) argN))))))))
    (retV 2)))))
def M_law_draws : FM := bodyM 8 B_law_draws
def B_law_setup : SF :=
    (seqF (setF (gN 1) (callN tupC (argC (lcF (itF (frzF (slF slAD (svar 0) (partF (cst (.int 1))) (partF (binF addA (cst (.int 2)) (binF modI (callN intC (argC (binF ixD (svar 0) (cst (.int 0))) argN)) (cst (.int 2)))))))) (gN 3) yesB (frzF (binF addA (cst (.int 1)) (binF modI (callN intC (argC (svar 3) argN)) (cst (.int 5))))) [3]) argN)))
    (seqF (setF (gN 2) (mkF .l (argC (cst (.int 1)) (argC (cst (.int 2)) (argC (cst (.int 3)) (argC (cst (.int 4)) (argC (cst (.int 5)) argN)))))))
    (seqF (forF (itF (frzF (slF slAD (svar 0) (partF (cst (.int 3))) (partF (binF subI (cst (.int 7)) (binF modI (callN intC (argC (binF divA (callN intC (argC (binF ixD (svar 0) (cst (.int 0))) argN)) (cst (.int 2))) argN)) (cst (.int 3)))))))) (gN 3) (expF (mutF 2 popAtM (argC (frzF (binF modI (callN intC (argC (svar 3) argN)) (callN lenC (argC (svar 2) argN)))) argN))))
    (seqF (setF (gN 4) (mkF .t (argC (frzF (binF addA (cst (.int 1)) (binF modI (callN intC (argC (binF ixD (svar 0) (cst (.int 8))) argN)) (cst (.int 3))))) (argC (frzF (binF modI (callN intC (argC (binF ixD (svar 0) (cst (.int 9))) argN)) (cst (.int 5)))) argN))))
    (retF (mkF .t (argC (dvar 1) (argC (frzF (callN tupC (argC (svar 2) argN))) (argC (dvar 4) (argC (mkF .t (argC (frzF (binF modI (callN intC (argC (binF ixD (svar 0) (cst (.int 10))) argN)) (cst (.int 3)))) (argC (frzF (binF modI (callN intC (argC (binF ixD (svar 0) (cst (.int 11))) argN)) (cst (.int 3)))) argN))) argN))))))))))
def M_law_setup : FM := bodyM 5 B_law_setup
def B_law_whole : SF :=
    (retF (andV (isiF "int" (svar 0)) (notV (isiF "bool" (svar 0)))))
def M_law_whole : FM := bodyM 1 B_law_whole
def B_law_numbers : SF :=
    (retF (andV (isiF "tuple" (svar 0)) (callN allC (argC (lcF (itF (dvar 0)) (gN 1) yesB (frzF (callF M_law_whole (argC (dvar 1) argN))) [1]) argN))))
def M_law_numbers : FM := bodyM 2 B_law_numbers
def B_law_setup_text : SF :=
    (seqF (setF (gN 1) (mkF .l argN))
    (seqF (forF (itF (frzF (mkF .l (argC (mkF .t (argC (cst (.str (Str.ofString "seats"))) (argC (frzF (binF ixD (svar 0) (cst (.int 0)))) argN))) (argC (mkF .t (argC (cst (.str (Str.ofString "sizes"))) (argC (frzF (binF ixD (svar 0) (cst (.int 1)))) argN))) (argC (mkF .t (argC (cst (.str (Str.ofString "rooms"))) (argC (frzF (binF ixD (svar 0) (cst (.int 2)))) argN))) (argC (mkF .t (argC (cst (.str (Str.ofString "comers"))) (argC (frzF (binF ixD (svar 0) (cst (.int 3)))) argN))) argN))))))) (gTp 2 (gsC (gN 2) (gsC (gN 3) gsN))) (setF (gN 1) (binF addA (binF addA (svar 1) (mkF .l (argC (dvar 2) argN))) (lcF (itF (dvar 3)) (gN 4) yesB (frzF (callN strC (argC (svar 4) argN))) [4]))))
    (retF (unF (joinD (Str.ofString " ")) (svar 1)))))
def M_law_setup_text : FM := bodyM 5 B_law_setup_text
noncomputable def B_law : SF :=
    (seqF (setF (gN 1) dicO)
    (seqF (forF (itF (frzF (binF addA (mkF .l (argC (frzF (binF addA (binF powI (cst (.int 10)) (cst (.int 18))) (binF powI (cst (.int 2520)) (cst (.int 12))))) argN)) (slF slAD (svar 0) partN (partF (cst (.int 16))))))) (gN 2) (seqF (setF (gN 3) (callF M_law_setup (argC (frzF (callF M_law_draws (argC (dvar 2) (argC (cst (.int 12)) argN)))) argN)))
    (seqF (setF (gN 4) (callF M_show_setup (argC (dvar 3) argN)))
    (seqF (ifF (orB (notB (tstF (isiF "str" (svar 4)))) (orB (tstB (binF (neD) (svar 4) (callF M_law_setup_text (argC (dvar 3) argN)))) (tstB (binF (neD) (dgetF 1 (dvar 4) (dvar 3)) (svar 3))))) (retF (cst (.bool false))) skipF)
    (seqF (dputS 1 (dvar 3) (dvar 4))
    (seqF (setF (gN 5) (callF M_read_setup (argC (dvar 4) argN)))
    (seqF (ifF (orB (notB (tstF (isiF "tuple" (svar 5)))) (orB (tstB (binF (neD) (svar 5) (svar 3))) (notB (tstF (callN allC (argC (lcF (itF (dvar 5)) (gN 6) yesB (frzF (callF M_law_numbers (argC (dvar 6) argN))) [6]) argN)))))) (retF (cst (.bool false))) skipF)
    (ifF (tstB (binF (notIsB) (callF M_is_setup (argC (dvar 5) argN)) (cst (.bool true)))) (retF (cst (.bool false))) skipF))))))))
    (retF (cst (.bool true)))))
noncomputable def M_law : FM := bodyM 7 B_law
/-! ### the text as it stands -/
structure Txt (P : Program) (K : PySem.W.Frag) (mg : Str → Option Value) (f_is_tuple f_is_integer f_is_number f_are_numbers f_are_sizes f_is_pair f_is_setup f_check_setup f_show_numbers f_show_setup f_Reader_has_more f_Reader_end f_Reader_take f_digits f_Reader_take_word f_Reader_is_at f_read_numbers f_Readerq__initq_ f_read_setup f_law_draws f_law_setup f_law_whole f_law_numbers f_law_setup_text f_law : Addr) (fd_is_tuple fd_is_integer fd_is_number fd_are_numbers fd_are_sizes fd_is_pair fd_is_setup fd_check_setup fd_show_numbers fd_show_setup fd_Reader_has_more fd_Reader_end fd_Reader_take fd_digits fd_Reader_take_word fd_Reader_is_at fd_read_numbers fd_Readerq__initq_ fd_read_setup fd_law_draws fd_law_setup fd_law_whole fd_law_numbers fd_law_setup_text fd_law : FuncData) (C_BadSetup C_Reader C_BadText : Addr) (fI_BadText : Addr) : Prop where
  F_is_tuple : Fun K "is_tuple" "is_tuple" s_is_tuple f_is_tuple fd_is_tuple
  b_is_tuple : Binds K fd_is_tuple ["thing", "fewest", "most"] []
  g_is_tuple : mg "is_tuple" = some (.ref f_is_tuple)
  F_is_integer : Fun K "is_integer" "is_integer" s_is_integer f_is_integer fd_is_integer
  b_is_integer : Binds K fd_is_integer ["thing"] []
  g_is_integer : mg "is_integer" = some (.ref f_is_integer)
  F_is_number : Fun K "is_number" "is_number" s_is_number f_is_number fd_is_number
  b_is_number : Binds K fd_is_number ["thing", "low", "high"] []
  g_is_number : mg "is_number" = some (.ref f_is_number)
  F_are_numbers : Fun K "are_numbers" "are_numbers" s_are_numbers f_are_numbers fd_are_numbers
  b_are_numbers : Binds K fd_are_numbers ["things", "low", "high"] []
  g_are_numbers : mg "are_numbers" = some (.ref f_are_numbers)
  F_are_sizes : Fun K "are_sizes" "are_sizes" s_are_sizes f_are_sizes fd_are_sizes
  b_are_sizes : Binds K fd_are_sizes ["thing"] []
  g_are_sizes : mg "are_sizes" = some (.ref f_are_sizes)
  F_is_pair : Fun K "is_pair" "is_pair" s_is_pair f_is_pair fd_is_pair
  b_is_pair : Binds K fd_is_pair ["thing", "fewest_groups", "most_groups", "most_singles"] []
  g_is_pair : mg "is_pair" = some (.ref f_is_pair)
  F_is_setup : Fun K "is_setup" "is_setup" s_is_setup f_is_setup fd_is_setup
  b_is_setup : Binds K fd_is_setup ["thing"] []
  g_is_setup : mg "is_setup" = some (.ref f_is_setup)
  F_check_setup : Fun K "check_setup" "check_setup" s_check_setup f_check_setup fd_check_setup
  b_check_setup : Binds K fd_check_setup ["thing"] []
  g_check_setup : mg "check_setup" = some (.ref f_check_setup)
  F_show_numbers : Fun K "show_numbers" "show_numbers" s_show_numbers f_show_numbers fd_show_numbers
  b_show_numbers : Binds K fd_show_numbers ["numbers"] []
  g_show_numbers : mg "show_numbers" = some (.ref f_show_numbers)
  F_show_setup : Fun K "show_setup" "show_setup" s_show_setup f_show_setup fd_show_setup
  b_show_setup : Binds K fd_show_setup ["setup"] []
  g_show_setup : mg "show_setup" = some (.ref f_show_setup)
  F_Reader_has_more : Fun K "has_more" "Reader.has_more" s_Reader_has_more f_Reader_has_more fd_Reader_has_more
  b_Reader_has_more : Binds K fd_Reader_has_more ["self"] []
  me_Reader_has_more : MethOk K mg "Reader" "has_more" C_Reader f_Reader_has_more
  F_Reader_end : Fun K "end" "Reader.end" s_Reader_end f_Reader_end fd_Reader_end
  b_Reader_end : Binds K fd_Reader_end ["self"] []
  me_Reader_end : MethOk K mg "Reader" "end" C_Reader f_Reader_end
  F_Reader_take : Fun K "take" "Reader.take" s_Reader_take f_Reader_take fd_Reader_take
  b_Reader_take : Binds K fd_Reader_take ["self", "known"] []
  me_Reader_take : MethOk K mg "Reader" "take" C_Reader f_Reader_take
  F_digits : Fun K "digits" "digits" s_digits f_digits fd_digits
  b_digits : Binds K fd_digits ["low", "high"] []
  g_digits : mg "digits" = some (.ref f_digits)
  F_Reader_take_word : Fun K "take_word" "Reader.take_word" s_Reader_take_word f_Reader_take_word fd_Reader_take_word
  b_Reader_take_word : Binds K fd_Reader_take_word ["self", "word"] []
  me_Reader_take_word : MethOk K mg "Reader" "take_word" C_Reader f_Reader_take_word
  F_Reader_is_at : Fun K "is_at" "Reader.is_at" s_Reader_is_at f_Reader_is_at fd_Reader_is_at
  b_Reader_is_at : Binds K fd_Reader_is_at ["self", "word"] []
  me_Reader_is_at : MethOk K mg "Reader" "is_at" C_Reader f_Reader_is_at
  F_read_numbers : Fun K "read_numbers" "read_numbers" s_read_numbers f_read_numbers fd_read_numbers
  b_read_numbers : Binds K fd_read_numbers ["reader", "most", "ascending", "ending"] []
  g_read_numbers : mg "read_numbers" = some (.ref f_read_numbers)
  F_Readerq__initq_ : Fun K "__init__" "Reader.__init__" s_Readerq__initq_ f_Readerq__initq_ fd_Readerq__initq_
  b_Readerq__initq_ : Binds K fd_Readerq__initq_ ["self", "text"] []
  me_Readerq__initq_ : MethOk K mg "Reader" "__init__" C_Reader f_Readerq__initq_
  F_read_setup : Fun K "read_setup" "read_setup" s_read_setup f_read_setup fd_read_setup
  b_read_setup : Binds K fd_read_setup ["text"] []
  g_read_setup : mg "read_setup" = some (.ref f_read_setup)
  F_law_draws : Fun K "_law_draws" "_law_draws" s_law_draws f_law_draws fd_law_draws
  b_law_draws : Binds K fd_law_draws ["cell", "many"] []
  g_law_draws : mg "_law_draws" = some (.ref f_law_draws)
  F_law_setup : Fun K "_law_setup" "_law_setup" s_law_setup f_law_setup fd_law_setup
  b_law_setup : Binds K fd_law_setup ["draws"] []
  g_law_setup : mg "_law_setup" = some (.ref f_law_setup)
  F_law_whole : Fun K "_law_whole" "_law_whole" s_law_whole f_law_whole fd_law_whole
  b_law_whole : Binds K fd_law_whole ["found"] []
  g_law_whole : mg "_law_whole" = some (.ref f_law_whole)
  F_law_numbers : Fun K "_law_numbers" "_law_numbers" s_law_numbers f_law_numbers fd_law_numbers
  b_law_numbers : Binds K fd_law_numbers ["found"] []
  g_law_numbers : mg "_law_numbers" = some (.ref f_law_numbers)
  F_law_setup_text : Fun K "_law_setup_text" "_law_setup_text" s_law_setup_text f_law_setup_text fd_law_setup_text
  b_law_setup_text : Binds K fd_law_setup_text ["setup"] []
  g_law_setup_text : mg "_law_setup_text" = some (.ref f_law_setup_text)
  F_law : Fun K "law" "law" s_law f_law fd_law
  b_law : Binds K fd_law ["script"] []
  g_law : mg "law" = some (.ref f_law)
  m_all : mg "all" = none
  m_bool : mg "bool" = none
  m_int : mg "int" = none
  m_isinstance : mg "isinstance" = none
  m_len : mg "len" = none
  m_range : mg "range" = none
  m_str : mg "str" = none
  m_tuple : mg "tuple" = none
  m_zip : mg "zip" = none
  gx_BadSetup : mg "BadSetup" = some (.ref C_BadSetup)
  x_BadSetup : XcC K mg "BadSetup" C_BadSetup
  gx_Reader : mg "Reader" = some (.ref C_Reader)
  gx_BadText : mg "BadText" = some (.ref C_BadText)
  p_BadText : PySem.BadX.BadTxt P K mg "BadText" "not a text of the form, place " C_BadText fI_BadText
  mk_Reader : MakeOk K mg "Reader" C_Reader f_Readerq__initq_
  fl_Reader_at : FldOk K mg "Reader" "at" C_Reader
  fl_Reader_words : FldOk K mg "Reader" "words" C_Reader
section
variable {P : Program} {w : World} {K : PySem.W.Frag} {mg : Str → Option Value} {base : Heap} {f_is_tuple f_is_integer f_is_number f_are_numbers f_are_sizes f_is_pair f_is_setup f_check_setup f_show_numbers f_show_setup f_Reader_has_more f_Reader_end f_Reader_take f_digits f_Reader_take_word f_Reader_is_at f_read_numbers f_Readerq__initq_ f_read_setup f_law_draws f_law_setup f_law_whole f_law_numbers f_law_setup_text f_law : Addr} {fd_is_tuple fd_is_integer fd_is_number fd_are_numbers fd_are_sizes fd_is_pair fd_is_setup fd_check_setup fd_show_numbers fd_show_setup fd_Reader_has_more fd_Reader_end fd_Reader_take fd_digits fd_Reader_take_word fd_Reader_is_at fd_read_numbers fd_Readerq__initq_ fd_read_setup fd_law_draws fd_law_setup fd_law_whole fd_law_numbers fd_law_setup_text fd_law : FuncData} {C_BadSetup C_Reader C_BadText : Addr} {fI_BadText : Addr}
theorem ok_is_tuple (T : Txt P K mg f_is_tuple f_is_integer f_is_number f_are_numbers f_are_sizes f_is_pair f_is_setup f_check_setup f_show_numbers f_show_setup f_Reader_has_more f_Reader_end f_Reader_take f_digits f_Reader_take_word f_Reader_is_at f_read_numbers f_Readerq__initq_ f_read_setup f_law_draws f_law_setup f_law_whole f_law_numbers f_law_setup_text f_law fd_is_tuple fd_is_integer fd_is_number fd_are_numbers fd_are_sizes fd_is_pair fd_is_setup fd_check_setup fd_show_numbers fd_show_setup fd_Reader_has_more fd_Reader_end fd_Reader_take fd_digits fd_Reader_take_word fd_Reader_is_at fd_read_numbers fd_Readerq__initq_ fd_read_setup fd_law_draws fd_law_setup fd_law_whole fd_law_numbers fd_law_setup_text fd_law C_BadSetup C_Reader C_BadText fI_BadText) : FnOk P w K mg base (L2.CX P w) 1 f_is_tuple fd_is_tuple ["thing", "fewest", "most"] (spM ⟨K, P, w, clOf mg⟩ mg 3 M_is_tuple) :=
  fn_ok T.F_is_tuple sc_is_tuple rfl (by decide) rfl fun cdv A outer s H E hr =>
      (pssx_one (psx_ret (px_and (px_isi (T := "tuple") rfl T.m_isinstance rfl T.m_tuple (by decide +kernel) (px_s (pv 0))) (px_one (px_chain (op_le) (op_le) (opD_le) (opD_le) (px_s (pv 1)) (px_cb (call_len) clD_len rfl T.m_len (by decide +kernel) (pax_cons (px_s (pv 0)) pax_nil)) (px_s (pv 2)))))))
theorem ok_is_integer (T : Txt P K mg f_is_tuple f_is_integer f_is_number f_are_numbers f_are_sizes f_is_pair f_is_setup f_check_setup f_show_numbers f_show_setup f_Reader_has_more f_Reader_end f_Reader_take f_digits f_Reader_take_word f_Reader_is_at f_read_numbers f_Readerq__initq_ f_read_setup f_law_draws f_law_setup f_law_whole f_law_numbers f_law_setup_text f_law fd_is_tuple fd_is_integer fd_is_number fd_are_numbers fd_are_sizes fd_is_pair fd_is_setup fd_check_setup fd_show_numbers fd_show_setup fd_Reader_has_more fd_Reader_end fd_Reader_take fd_digits fd_Reader_take_word fd_Reader_is_at fd_read_numbers fd_Readerq__initq_ fd_read_setup fd_law_draws fd_law_setup fd_law_whole fd_law_numbers fd_law_setup_text fd_law C_BadSetup C_Reader C_BadText fI_BadText) : FnOk P w K mg base (L2.CX P w) 1 f_is_integer fd_is_integer ["thing"] (spM ⟨K, P, w, clOf mg⟩ mg 1 M_is_integer) :=
  fn_ok T.F_is_integer sc_is_integer rfl (by decide) rfl fun cdv A outer s H E hr =>
      (pssx_one (psx_ret (px_and (px_isi (T := "int") rfl T.m_isinstance rfl T.m_int (by decide +kernel) (px_s (pv 0))) (px_one (px_not (px_isi (T := "bool") rfl T.m_isinstance rfl T.m_bool (by decide +kernel) (px_s (pv 0))))))))
theorem ok_is_number (T : Txt P K mg f_is_tuple f_is_integer f_is_number f_are_numbers f_are_sizes f_is_pair f_is_setup f_check_setup f_show_numbers f_show_setup f_Reader_has_more f_Reader_end f_Reader_take f_digits f_Reader_take_word f_Reader_is_at f_read_numbers f_Readerq__initq_ f_read_setup f_law_draws f_law_setup f_law_whole f_law_numbers f_law_setup_text f_law fd_is_tuple fd_is_integer fd_is_number fd_are_numbers fd_are_sizes fd_is_pair fd_is_setup fd_check_setup fd_show_numbers fd_show_setup fd_Reader_has_more fd_Reader_end fd_Reader_take fd_digits fd_Reader_take_word fd_Reader_is_at fd_read_numbers fd_Readerq__initq_ fd_read_setup fd_law_draws fd_law_setup fd_law_whole fd_law_numbers fd_law_setup_text fd_law C_BadSetup C_Reader C_BadText fI_BadText) : FnOk P w K mg base (L2.CX P w) 2 f_is_number fd_is_number ["thing", "low", "high"] (spM ⟨K, P, w, clOf mg⟩ mg 3 M_is_number) :=
  fn_ok T.F_is_number sc_is_number rfl (by decide) rfl fun cdv A outer s H E hr =>
      (pssx_one (psx_ret (px_and (px_call (ok_is_integer T) (hr.mono (by decide)) rfl T.g_is_integer T.F_is_integer.kp T.b_is_integer (pax_cons (px_d (pv 0)) pax_nil) (argC_len argN_len)) (px_one (px_chain (op_le) (op_le) (opD_le) (opD_le) (px_s (pv 1)) (px_s (pv 0)) (px_s (pv 2)))))))
theorem ok_are_numbers (T : Txt P K mg f_is_tuple f_is_integer f_is_number f_are_numbers f_are_sizes f_is_pair f_is_setup f_check_setup f_show_numbers f_show_setup f_Reader_has_more f_Reader_end f_Reader_take f_digits f_Reader_take_word f_Reader_is_at f_read_numbers f_Readerq__initq_ f_read_setup f_law_draws f_law_setup f_law_whole f_law_numbers f_law_setup_text f_law fd_is_tuple fd_is_integer fd_is_number fd_are_numbers fd_are_sizes fd_is_pair fd_is_setup fd_check_setup fd_show_numbers fd_show_setup fd_Reader_has_more fd_Reader_end fd_Reader_take fd_digits fd_Reader_take_word fd_Reader_is_at fd_read_numbers fd_Readerq__initq_ fd_read_setup fd_law_draws fd_law_setup fd_law_whole fd_law_numbers fd_law_setup_text fd_law C_BadSetup C_Reader C_BadText fI_BadText) : FnOk P w K mg base (L2.CX P w) 3 f_are_numbers fd_are_numbers ["things", "low", "high"] (spM ⟨K, P, w, clOf mg⟩ mg 3 M_are_numbers) :=
  fn_ok T.F_are_numbers sc_are_numbers rfl (by decide) rfl fun cdv A outer s H E hr =>
      (pssx_one (psx_ret (px_cb (cr_all rfl) clD_all rfl T.m_all (by decide +kernel) (pax_cons (px_lc (own := [("thing", 3)]) rfl sc_are_numbers.nd (pix_seq (px_d (pv 0))) (blkOk_by (N := N_are_numbers) (sc := defScope s_are_numbers) (by decide +kernel)) (fun _ _ _ _ _ => (pgc_name (pg_name (i := 3) sc_are_numbers.nd rfl (.inl rfl)) (by decide))) noex_name (fun _ _ _ _ _ => ptsx_nil) (fun _ _ _ _ _ => (px_frz (px_call (ok_is_number T) (hr.mono (by decide)) rfl T.g_is_number T.F_is_number.kp T.b_is_number (pax_cons (px_d (pv 3)) (pax_cons (px_d (pv 1)) (pax_cons (px_d (pv 2)) pax_nil))) (argC_len (argC_len (argC_len argN_len))))))) pax_nil))))
theorem ok_are_sizes (T : Txt P K mg f_is_tuple f_is_integer f_is_number f_are_numbers f_are_sizes f_is_pair f_is_setup f_check_setup f_show_numbers f_show_setup f_Reader_has_more f_Reader_end f_Reader_take f_digits f_Reader_take_word f_Reader_is_at f_read_numbers f_Readerq__initq_ f_read_setup f_law_draws f_law_setup f_law_whole f_law_numbers f_law_setup_text f_law fd_is_tuple fd_is_integer fd_is_number fd_are_numbers fd_are_sizes fd_is_pair fd_is_setup fd_check_setup fd_show_numbers fd_show_setup fd_Reader_has_more fd_Reader_end fd_Reader_take fd_digits fd_Reader_take_word fd_Reader_is_at fd_read_numbers fd_Readerq__initq_ fd_read_setup fd_law_draws fd_law_setup fd_law_whole fd_law_numbers fd_law_setup_text fd_law C_BadSetup C_Reader C_BadText fI_BadText) : FnOk P w K mg base (L2.CX P w) 4 f_are_sizes fd_are_sizes ["thing"] (spM ⟨K, P, w, clOf mg⟩ mg 1 M_are_sizes) :=
  fn_ok T.F_are_sizes sc_are_sizes rfl (by decide) rfl fun cdv A outer s H E hr =>
      (pssx_one (psx_ret (px_and (px_call (ok_is_tuple T) (hr.mono (by decide)) rfl T.g_is_tuple T.F_is_tuple.kp T.b_is_tuple (pax_cons (px_d (pv 0)) (pax_cons px_int (pax_cons px_int pax_nil))) (argC_len (argC_len (argC_len argN_len)))) (px_and (px_call (ok_are_numbers T) (hr.mono (by decide)) rfl T.g_are_numbers T.F_are_numbers.kp T.b_are_numbers (pax_cons (px_d (pv 0)) (pax_cons px_int (pax_cons px_int pax_nil))) (argC_len (argC_len (argC_len argN_len)))) (px_one (px_cb (cr_all rfl) clD_all rfl T.m_all (by decide +kernel) (pax_cons (px_lc (own := [("low", 1), ("high", 2)]) rfl sc_are_sizes.nd (pix_zip rfl T.m_zip (pax_cons (px_d (pv 0)) (pax_cons (px_frz (px_sl sl_any slD_any (px_s (pv 0)) (pox_some px_int) pox_none)) pax_nil))) (blkOk_by (N := N_are_sizes) (sc := defScope s_are_sizes) (by decide +kernel)) (fun _ _ _ _ _ => (pgc_tup rfl (pgcs_cons (pgc_name (pg_name (i := 1) sc_are_sizes.nd rfl (.inl rfl)) (by decide)) (pgcs_cons (pgc_name (pg_name (i := 2) sc_are_sizes.nd rfl (.inl rfl)) (by decide)) pgcs_nil)))) (noex_tup (noexs_cons noex_name (noexs_cons noex_name noexs_nil))) (fun _ _ _ _ _ => ptsx_nil) (fun _ _ _ _ _ => (px_cmp (op_lt) (opD_lt) (px_s (pv 1)) (px_s (pv 2)) (by rfl)))) pax_nil)))))))
theorem ok_is_pair (T : Txt P K mg f_is_tuple f_is_integer f_is_number f_are_numbers f_are_sizes f_is_pair f_is_setup f_check_setup f_show_numbers f_show_setup f_Reader_has_more f_Reader_end f_Reader_take f_digits f_Reader_take_word f_Reader_is_at f_read_numbers f_Readerq__initq_ f_read_setup f_law_draws f_law_setup f_law_whole f_law_numbers f_law_setup_text f_law fd_is_tuple fd_is_integer fd_is_number fd_are_numbers fd_are_sizes fd_is_pair fd_is_setup fd_check_setup fd_show_numbers fd_show_setup fd_Reader_has_more fd_Reader_end fd_Reader_take fd_digits fd_Reader_take_word fd_Reader_is_at fd_read_numbers fd_Readerq__initq_ fd_read_setup fd_law_draws fd_law_setup fd_law_whole fd_law_numbers fd_law_setup_text fd_law C_BadSetup C_Reader C_BadText fI_BadText) : FnOk P w K mg base (L2.CX P w) 3 f_is_pair fd_is_pair ["thing", "fewest_groups", "most_groups", "most_singles"] (spM ⟨K, P, w, clOf mg⟩ mg 4 M_is_pair) :=
  fn_ok T.F_is_pair sc_is_pair rfl (by decide) rfl fun cdv A outer s H E hr =>
      (pssx_one (psx_ret (px_and (px_call (ok_is_tuple T) (hr.mono (by decide)) rfl T.g_is_tuple T.F_is_tuple.kp T.b_is_tuple (pax_cons (px_d (pv 0)) (pax_cons px_int (pax_cons px_int pax_nil))) (argC_len (argC_len (argC_len argN_len)))) (px_and (px_call (ok_is_number T) (hr.mono (by decide)) rfl T.g_is_number T.F_is_number.kp T.b_is_number (pax_cons (px_frz (px_ix ix_seq opD_ix (px_s (pv 0)) px_int (fun _ _ => rfl))) (pax_cons (px_d (pv 1)) (pax_cons (px_d (pv 2)) pax_nil))) (argC_len (argC_len (argC_len argN_len)))) (px_one (px_call (ok_is_number T) (hr.mono (by decide)) rfl T.g_is_number T.F_is_number.kp T.b_is_number (pax_cons (px_frz (px_ix ix_seq opD_ix (px_s (pv 0)) px_int (fun _ _ => rfl))) (pax_cons px_int (pax_cons (px_d (pv 3)) pax_nil))) (argC_len (argC_len (argC_len argN_len)))))))))
theorem ok_is_setup (T : Txt P K mg f_is_tuple f_is_integer f_is_number f_are_numbers f_are_sizes f_is_pair f_is_setup f_check_setup f_show_numbers f_show_setup f_Reader_has_more f_Reader_end f_Reader_take f_digits f_Reader_take_word f_Reader_is_at f_read_numbers f_Readerq__initq_ f_read_setup f_law_draws f_law_setup f_law_whole f_law_numbers f_law_setup_text f_law fd_is_tuple fd_is_integer fd_is_number fd_are_numbers fd_are_sizes fd_is_pair fd_is_setup fd_check_setup fd_show_numbers fd_show_setup fd_Reader_has_more fd_Reader_end fd_Reader_take fd_digits fd_Reader_take_word fd_Reader_is_at fd_read_numbers fd_Readerq__initq_ fd_read_setup fd_law_draws fd_law_setup fd_law_whole fd_law_numbers fd_law_setup_text fd_law C_BadSetup C_Reader C_BadText fI_BadText) : FnOk P w K mg base (L2.CX P w) 5 f_is_setup fd_is_setup ["thing"] (spM ⟨K, P, w, clOf mg⟩ mg 1 M_is_setup) :=
  fn_ok T.F_is_setup sc_is_setup rfl (by decide) rfl fun cdv A outer s H E hr =>
      (pssx_cons (psx_if (ptx_not (ptx_truth (px_call (ok_is_tuple T) (hr.mono (by decide)) rfl T.g_is_tuple T.F_is_tuple.kp T.b_is_tuple (pax_cons (px_d (pv 0)) (pax_cons px_int (pax_cons px_int pax_nil))) (argC_len (argC_len (argC_len argN_len)))))) (pssx_one (psx_ret px_bl)) pssx_nil)
      (pssx_cons (psx_set (px_d (pv 0)) (pgx_tup rfl (pgsx_cons (pgx_name (pg_name (i := 1) sc_is_setup.nd rfl (.inl rfl))) (pgsx_cons (pgx_name (pg_name (i := 2) sc_is_setup.nd rfl (.inl rfl))) (pgsx_cons (pgx_name (pg_name (i := 3) sc_is_setup.nd rfl (.inl rfl))) (pgsx_cons (pgx_name (pg_name (i := 4) sc_is_setup.nd rfl (.inl rfl))) pgsx_nil))))) (noex_tup (noexs_cons noex_name (noexs_cons noex_name (noexs_cons noex_name (noexs_cons noex_name noexs_nil))))))
      (pssx_one (psx_ret (px_and (px_call (ok_is_tuple T) (hr.mono (by decide)) rfl T.g_is_tuple T.F_is_tuple.kp T.b_is_tuple (pax_cons (px_d (pv 1)) (pax_cons px_int (pax_cons px_int pax_nil))) (argC_len (argC_len (argC_len argN_len)))) (px_and (px_call (ok_are_numbers T) (hr.mono (by decide)) rfl T.g_are_numbers T.F_are_numbers.kp T.b_are_numbers (pax_cons (px_d (pv 1)) (pax_cons px_int (pax_cons px_int pax_nil))) (argC_len (argC_len (argC_len argN_len)))) (px_and (px_call (ok_are_sizes T) (hr.mono (by decide)) rfl T.g_are_sizes T.F_are_sizes.kp T.b_are_sizes (pax_cons (px_d (pv 2)) pax_nil) (argC_len argN_len)) (px_and (px_call (ok_is_pair T) (hr.mono (by decide)) rfl T.g_is_pair T.F_is_pair.kp T.b_is_pair (pax_cons (px_d (pv 3)) (pax_cons px_int (pax_cons px_int (pax_cons px_int pax_nil)))) (argC_len (argC_len (argC_len (argC_len argN_len))))) (px_one (px_call (ok_is_pair T) (hr.mono (by decide)) rfl T.g_is_pair T.F_is_pair.kp T.b_is_pair (pax_cons (px_d (pv 4)) (pax_cons px_int (pax_cons px_int (pax_cons px_int pax_nil)))) (argC_len (argC_len (argC_len (argC_len argN_len))))))))))))))
theorem ok_check_setup (T : Txt P K mg f_is_tuple f_is_integer f_is_number f_are_numbers f_are_sizes f_is_pair f_is_setup f_check_setup f_show_numbers f_show_setup f_Reader_has_more f_Reader_end f_Reader_take f_digits f_Reader_take_word f_Reader_is_at f_read_numbers f_Readerq__initq_ f_read_setup f_law_draws f_law_setup f_law_whole f_law_numbers f_law_setup_text f_law fd_is_tuple fd_is_integer fd_is_number fd_are_numbers fd_are_sizes fd_is_pair fd_is_setup fd_check_setup fd_show_numbers fd_show_setup fd_Reader_has_more fd_Reader_end fd_Reader_take fd_digits fd_Reader_take_word fd_Reader_is_at fd_read_numbers fd_Readerq__initq_ fd_read_setup fd_law_draws fd_law_setup fd_law_whole fd_law_numbers fd_law_setup_text fd_law C_BadSetup C_Reader C_BadText fI_BadText) : FnOk P w K mg base (L2.CX P w) 6 f_check_setup fd_check_setup ["thing"] (spM ⟨K, P, w, clOf mg⟩ mg 1 M_check_setup) :=
  fn_ok T.F_check_setup sc_check_setup rfl (by decide) rfl fun cdv A outer s H E hr =>
      (pssx_one (psx_if (ptx_not (ptx_truth (px_call (ok_is_setup T) (hr.mono (by decide)) rfl T.g_is_setup T.F_is_setup.kp T.b_is_setup (pax_cons (px_d (pv 0)) pax_nil) (argC_len argN_len)))) (pssx_one (psx_raise rfl T.x_BadSetup rfl)) pssx_nil))
theorem ok_show_numbers (T : Txt P K mg f_is_tuple f_is_integer f_is_number f_are_numbers f_are_sizes f_is_pair f_is_setup f_check_setup f_show_numbers f_show_setup f_Reader_has_more f_Reader_end f_Reader_take f_digits f_Reader_take_word f_Reader_is_at f_read_numbers f_Readerq__initq_ f_read_setup f_law_draws f_law_setup f_law_whole f_law_numbers f_law_setup_text f_law fd_is_tuple fd_is_integer fd_is_number fd_are_numbers fd_are_sizes fd_is_pair fd_is_setup fd_check_setup fd_show_numbers fd_show_setup fd_Reader_has_more fd_Reader_end fd_Reader_take fd_digits fd_Reader_take_word fd_Reader_is_at fd_read_numbers fd_Readerq__initq_ fd_read_setup fd_law_draws fd_law_setup fd_law_whole fd_law_numbers fd_law_setup_text fd_law C_BadSetup C_Reader C_BadText fI_BadText) : FnOk P w K mg base (L2.CX P w) 1 f_show_numbers fd_show_numbers ["numbers"] (spM ⟨K, P, w, clOf mg⟩ mg 1 M_show_numbers) :=
  fn_ok T.F_show_numbers sc_show_numbers rfl (by decide) rfl fun cdv A outer s H E hr =>
      (pssx_one (psx_ret (px_join (px_lc (own := [("number", 1)]) rfl sc_show_numbers.nd (pix_seq (px_d (pv 0))) (blkOk_by (N := N_show_numbers) (sc := defScope s_show_numbers) (by decide +kernel)) (fun _ _ _ _ _ => (pgc_name (pg_name (i := 1) sc_show_numbers.nd rfl (.inl rfl)) (by decide))) noex_name (fun _ _ _ _ _ => ptsx_nil) (fun _ _ _ _ _ => (px_frz (px_cty (call_str_int) clD_str rfl T.m_str (by decide +kernel) (pax_cons (px_s (pv 1)) pax_nil))))))))
theorem ok_show_setup (T : Txt P K mg f_is_tuple f_is_integer f_is_number f_are_numbers f_are_sizes f_is_pair f_is_setup f_check_setup f_show_numbers f_show_setup f_Reader_has_more f_Reader_end f_Reader_take f_digits f_Reader_take_word f_Reader_is_at f_read_numbers f_Readerq__initq_ f_read_setup f_law_draws f_law_setup f_law_whole f_law_numbers f_law_setup_text f_law fd_is_tuple fd_is_integer fd_is_number fd_are_numbers fd_are_sizes fd_is_pair fd_is_setup fd_check_setup fd_show_numbers fd_show_setup fd_Reader_has_more fd_Reader_end fd_Reader_take fd_digits fd_Reader_take_word fd_Reader_is_at fd_read_numbers fd_Readerq__initq_ fd_read_setup fd_law_draws fd_law_setup fd_law_whole fd_law_numbers fd_law_setup_text fd_law C_BadSetup C_Reader C_BadText fI_BadText) : FnOk P w K mg base (L2.CX P w) 7 f_show_setup fd_show_setup ["setup"] (spM ⟨K, P, w, clOf mg⟩ mg 1 M_show_setup) :=
  fn_ok T.F_show_setup sc_show_setup rfl (by decide) rfl fun cdv A outer s H E hr =>
      (pssx_cons (psx_expr (px_call (ok_check_setup T) (hr.mono (by decide)) rfl T.g_check_setup T.F_check_setup.kp T.b_check_setup (pax_cons (px_d (pv 0)) pax_nil) (argC_len argN_len)))
      (pssx_cons (psx_set (px_d (pv 0)) (pgx_tup rfl (pgsx_cons (pgx_name (pg_name (i := 1) sc_show_setup.nd rfl (.inl rfl))) (pgsx_cons (pgx_name (pg_name (i := 2) sc_show_setup.nd rfl (.inl rfl))) (pgsx_cons (pgx_name (pg_name (i := 3) sc_show_setup.nd rfl (.inl rfl))) (pgsx_cons (pgx_name (pg_name (i := 4) sc_show_setup.nd rfl (.inl rfl))) pgsx_nil))))) (noex_tup (noexs_cons noex_name (noexs_cons noex_name (noexs_cons noex_name (noexs_cons noex_name noexs_nil))))))
      (pssx_cons (psx_set (px_lst (pax_cons (px_tup (pax_cons px_str (pax_cons (px_d (pv 1)) pax_nil))) (pax_cons (px_tup (pax_cons px_str (pax_cons (px_d (pv 2)) pax_nil))) (pax_cons (px_tup (pax_cons px_str (pax_cons (px_d (pv 3)) pax_nil))) (pax_cons (px_tup (pax_cons px_str (pax_cons (px_d (pv 4)) pax_nil))) pax_nil))))) (pgx_name (pg_name (i := 5) sc_show_setup.nd rfl (.inl rfl))) noex_name)
      (pssx_one (psx_ret (px_join (px_lc (own := [("word", 6), ("numbers", 7)]) rfl sc_show_setup.nd (pix_seq (px_d (pv 5))) (blkOk_by (N := N_show_setup) (sc := defScope s_show_setup) (by decide +kernel)) (fun _ _ _ _ _ => (pgc_tup rfl (pgcs_cons (pgc_name (pg_name (i := 6) sc_show_setup.nd rfl (.inl rfl)) (by decide)) (pgcs_cons (pgc_name (pg_name (i := 7) sc_show_setup.nd rfl (.inl rfl)) (by decide)) pgcs_nil)))) (noex_tup (noexs_cons noex_name (noexs_cons noex_name noexs_nil))) (fun _ _ _ _ _ => ptsx_nil) (fun _ _ _ _ _ => (px_frz (px_fstr (PFx.e (px_s (pv 6)) (PFx.c (PFx.e (px_call (ok_show_numbers T) (hr.mono (by decide)) rfl T.g_show_numbers T.F_show_numbers.kp T.b_show_numbers (pax_cons (px_d (pv 7)) pax_nil) (argC_len argN_len)) PFx.nil)))))))))))))
theorem ok_Reader_has_more (T : Txt P K mg f_is_tuple f_is_integer f_is_number f_are_numbers f_are_sizes f_is_pair f_is_setup f_check_setup f_show_numbers f_show_setup f_Reader_has_more f_Reader_end f_Reader_take f_digits f_Reader_take_word f_Reader_is_at f_read_numbers f_Readerq__initq_ f_read_setup f_law_draws f_law_setup f_law_whole f_law_numbers f_law_setup_text f_law fd_is_tuple fd_is_integer fd_is_number fd_are_numbers fd_are_sizes fd_is_pair fd_is_setup fd_check_setup fd_show_numbers fd_show_setup fd_Reader_has_more fd_Reader_end fd_Reader_take fd_digits fd_Reader_take_word fd_Reader_is_at fd_read_numbers fd_Readerq__initq_ fd_read_setup fd_law_draws fd_law_setup fd_law_whole fd_law_numbers fd_law_setup_text fd_law C_BadSetup C_Reader C_BadText fI_BadText) : FnOk P w K mg base (L2.CX P w) 1 f_Reader_has_more fd_Reader_has_more ["self"] (spM ⟨K, P, w, clOf mg⟩ mg 1 M_Reader_has_more) :=
  fn_ok T.F_Reader_has_more sc_Reader_has_more rfl (by decide) rfl fun cdv A outer s H E hr =>
      (pssx_one (psx_ret (px_cmp (op_lt) (opD_lt) (px_fld (pv 0) T.fl_Reader_at) (px_cb (call_len) clD_len rfl T.m_len (by decide +kernel) (pax_cons (px_fld (pv 0) T.fl_Reader_words) pax_nil)) (by rfl))))
theorem ok_Reader_end (T : Txt P K mg f_is_tuple f_is_integer f_is_number f_are_numbers f_are_sizes f_is_pair f_is_setup f_check_setup f_show_numbers f_show_setup f_Reader_has_more f_Reader_end f_Reader_take f_digits f_Reader_take_word f_Reader_is_at f_read_numbers f_Readerq__initq_ f_read_setup f_law_draws f_law_setup f_law_whole f_law_numbers f_law_setup_text f_law fd_is_tuple fd_is_integer fd_is_number fd_are_numbers fd_are_sizes fd_is_pair fd_is_setup fd_check_setup fd_show_numbers fd_show_setup fd_Reader_has_more fd_Reader_end fd_Reader_take fd_digits fd_Reader_take_word fd_Reader_is_at fd_read_numbers fd_Readerq__initq_ fd_read_setup fd_law_draws fd_law_setup fd_law_whole fd_law_numbers fd_law_setup_text fd_law C_BadSetup C_Reader C_BadText fI_BadText) : FnOk P w K mg base (L2.CX P w) 2 f_Reader_end fd_Reader_end ["self"] (spM ⟨K, P, w, clOf mg⟩ mg 1 M_Reader_end) :=
  fn_ok T.F_Reader_end sc_Reader_end rfl (by decide) rfl fun cdv A outer s H E hr =>
      (pssx_one (psx_if (ptx_truth (px_meth0 (pv 0) T.me_Reader_has_more (ok_Reader_has_more T) (hr.mono (by decide)) T.b_Reader_has_more)) (pssx_one (psx_raiseP rfl T.p_BadText hr (px_fld (pv 0) T.fl_Reader_at) rfl)) pssx_nil))
theorem ok_Reader_take (T : Txt P K mg f_is_tuple f_is_integer f_is_number f_are_numbers f_are_sizes f_is_pair f_is_setup f_check_setup f_show_numbers f_show_setup f_Reader_has_more f_Reader_end f_Reader_take f_digits f_Reader_take_word f_Reader_is_at f_read_numbers f_Readerq__initq_ f_read_setup f_law_draws f_law_setup f_law_whole f_law_numbers f_law_setup_text f_law fd_is_tuple fd_is_integer fd_is_number fd_are_numbers fd_are_sizes fd_is_pair fd_is_setup fd_check_setup fd_show_numbers fd_show_setup fd_Reader_has_more fd_Reader_end fd_Reader_take fd_digits fd_Reader_take_word fd_Reader_is_at fd_read_numbers fd_Readerq__initq_ fd_read_setup fd_law_draws fd_law_setup fd_law_whole fd_law_numbers fd_law_setup_text fd_law C_BadSetup C_Reader C_BadText fI_BadText) : FnOk P w K mg base (L2.CX P w) 2 f_Reader_take fd_Reader_take ["self", "known"] (spM ⟨K, P, w, clOf mg⟩ mg 2 M_Reader_take) :=
  fn_ok T.F_Reader_take sc_Reader_take rfl (by decide) rfl fun cdv A outer s H E hr =>
      (pssx_cons (psx_if (pwx_pt (pwx_or (ptx_not (ptx_truth (px_meth0 (pv 0) T.me_Reader_has_more (ok_Reader_has_more T) (hr.mono (by decide)) T.b_Reader_has_more))) (pwx_or1 (ptx_cmp (op_notInDc hr.units) (opD_inDD (neg := true)) (px_ix ix_seq opD_ix (px_fld (pv 0) T.fl_Reader_words) (px_fld (pv 0) T.fl_Reader_at) (fun _ _ => rfl)) (px_s (pv 1)) (by rfl))))) (pssx_one (psx_raiseP rfl T.p_BadText hr (px_fld (pv 0) T.fl_Reader_at) rfl)) pssx_nil)
      (pssx_cons (psx_fldAug (pv 0) px_int T.fl_Reader_at in_add (fun x y _ _ q => ⟨x, y, rfl, rfl, q⟩))
      (pssx_one (psx_ret (px_ix (ix_dictG hr.units) opD_getD (px_s (pv 1)) (px_ix ix_seq opD_ix (px_fld (pv 0) T.fl_Reader_words) (px_bin op_sub opD_sub (px_fld (pv 0) T.fl_Reader_at) px_int) (fun _ _ => rfl)) (fun _ _ => rfl))))))
theorem ok_digits (T : Txt P K mg f_is_tuple f_is_integer f_is_number f_are_numbers f_are_sizes f_is_pair f_is_setup f_check_setup f_show_numbers f_show_setup f_Reader_has_more f_Reader_end f_Reader_take f_digits f_Reader_take_word f_Reader_is_at f_read_numbers f_Readerq__initq_ f_read_setup f_law_draws f_law_setup f_law_whole f_law_numbers f_law_setup_text f_law fd_is_tuple fd_is_integer fd_is_number fd_are_numbers fd_are_sizes fd_is_pair fd_is_setup fd_check_setup fd_show_numbers fd_show_setup fd_Reader_has_more fd_Reader_end fd_Reader_take fd_digits fd_Reader_take_word fd_Reader_is_at fd_read_numbers fd_Readerq__initq_ fd_read_setup fd_law_draws fd_law_setup fd_law_whole fd_law_numbers fd_law_setup_text fd_law C_BadSetup C_Reader C_BadText fI_BadText) : FnOk P w K mg base (L2.CX P w) 1 f_digits fd_digits ["low", "high"] (spM ⟨K, P, w, clOf mg⟩ mg 2 M_digits) :=
  fn_ok T.F_digits sc_digits rfl (by decide) rfl fun cdv A outer s H E hr =>
      (pssx_one (psx_ret (px_dc (own := [("number", 2)]) rfl sc_digits.nd (pix_rng2 rfl T.m_range (pax_cons (px_s (pv 0)) (pax_cons (px_bin op_addA opD_addA (px_s (pv 1)) px_int) pax_nil))) (blkOk_by (N := N_digits) (sc := defScope s_digits) (by decide +kernel)) (fun _ _ _ _ _ => (pgc_name (pg_name (i := 2) sc_digits.nd rfl (.inl rfl)) (by decide))) noex_name (fun _ _ _ _ _ => ptsx_nil) (fun _ _ _ _ _ => (px_frz (px_cty (call_str_int) clD_str rfl T.m_str (by decide +kernel) (pax_cons (px_s (pv 2)) pax_nil)))) (fun _ _ _ _ _ => (px_d (pv 2))))))
theorem ok_Reader_take_word (T : Txt P K mg f_is_tuple f_is_integer f_is_number f_are_numbers f_are_sizes f_is_pair f_is_setup f_check_setup f_show_numbers f_show_setup f_Reader_has_more f_Reader_end f_Reader_take f_digits f_Reader_take_word f_Reader_is_at f_read_numbers f_Readerq__initq_ f_read_setup f_law_draws f_law_setup f_law_whole f_law_numbers f_law_setup_text f_law fd_is_tuple fd_is_integer fd_is_number fd_are_numbers fd_are_sizes fd_is_pair fd_is_setup fd_check_setup fd_show_numbers fd_show_setup fd_Reader_has_more fd_Reader_end fd_Reader_take fd_digits fd_Reader_take_word fd_Reader_is_at fd_read_numbers fd_Readerq__initq_ fd_read_setup fd_law_draws fd_law_setup fd_law_whole fd_law_numbers fd_law_setup_text fd_law C_BadSetup C_Reader C_BadText fI_BadText) : FnOk P w K mg base (L2.CX P w) 3 f_Reader_take_word fd_Reader_take_word ["self", "word"] (spM ⟨K, P, w, clOf mg⟩ mg 2 M_Reader_take_word) :=
  fn_ok T.F_Reader_take_word sc_Reader_take_word rfl (by decide) rfl fun cdv A outer s H E hr =>
      (pssx_one (psx_expr (px_meth (pv 0) T.me_Reader_take (ok_Reader_take T) (hr.mono (by decide)) T.b_Reader_take (pax_cons (px_frz (px_disp1 (pv 1) pe_non fun _ => .non)) pax_nil) (argC_len argN_len))))
theorem ok_Reader_is_at (T : Txt P K mg f_is_tuple f_is_integer f_is_number f_are_numbers f_are_sizes f_is_pair f_is_setup f_check_setup f_show_numbers f_show_setup f_Reader_has_more f_Reader_end f_Reader_take f_digits f_Reader_take_word f_Reader_is_at f_read_numbers f_Readerq__initq_ f_read_setup f_law_draws f_law_setup f_law_whole f_law_numbers f_law_setup_text f_law fd_is_tuple fd_is_integer fd_is_number fd_are_numbers fd_are_sizes fd_is_pair fd_is_setup fd_check_setup fd_show_numbers fd_show_setup fd_Reader_has_more fd_Reader_end fd_Reader_take fd_digits fd_Reader_take_word fd_Reader_is_at fd_read_numbers fd_Readerq__initq_ fd_read_setup fd_law_draws fd_law_setup fd_law_whole fd_law_numbers fd_law_setup_text fd_law C_BadSetup C_Reader C_BadText fI_BadText) : FnOk P w K mg base (L2.CX P w) 2 f_Reader_is_at fd_Reader_is_at ["self", "word"] (spM ⟨K, P, w, clOf mg⟩ mg 2 M_Reader_is_at) :=
  fn_ok T.F_Reader_is_at sc_Reader_is_at rfl (by decide) rfl fun cdv A outer s H E hr =>
      (pssx_one (psx_ret (px_and (px_meth0 (pv 0) T.me_Reader_has_more (ok_Reader_has_more T) (hr.mono (by decide)) T.b_Reader_has_more) (px_one (px_cmp (op_eqD hr.units) (opD_eq) (px_ix ix_seq opD_ix (px_fld (pv 0) T.fl_Reader_words) (px_fld (pv 0) T.fl_Reader_at) (fun _ _ => rfl)) (px_s (pv 1)) (by rfl))))))
theorem ok_read_numbers (T : Txt P K mg f_is_tuple f_is_integer f_is_number f_are_numbers f_are_sizes f_is_pair f_is_setup f_check_setup f_show_numbers f_show_setup f_Reader_has_more f_Reader_end f_Reader_take f_digits f_Reader_take_word f_Reader_is_at f_read_numbers f_Readerq__initq_ f_read_setup f_law_draws f_law_setup f_law_whole f_law_numbers f_law_setup_text f_law fd_is_tuple fd_is_integer fd_is_number fd_are_numbers fd_are_sizes fd_is_pair fd_is_setup fd_check_setup fd_show_numbers fd_show_setup fd_Reader_has_more fd_Reader_end fd_Reader_take fd_digits fd_Reader_take_word fd_Reader_is_at fd_read_numbers fd_Readerq__initq_ fd_read_setup fd_law_draws fd_law_setup fd_law_whole fd_law_numbers fd_law_setup_text fd_law C_BadSetup C_Reader C_BadText fI_BadText) : FnOk P w K mg base (L2.CX P w) 4 f_read_numbers fd_read_numbers ["reader", "most", "ascending", "ending"] (spM ⟨K, P, w, clOf mg⟩ mg 4 M_read_numbers) :=
  fn_ok T.F_read_numbers sc_read_numbers rfl (by decide) rfl fun cdv A outer s H E hr =>
      (pssx_cons (psx_set (px_lst (pax_cons (px_frz (px_meth (pv 0) T.me_Reader_take (ok_Reader_take T) (hr.mono (by decide)) T.b_Reader_take (pax_cons (px_frz (px_call (ok_digits T) (hr.mono (by decide)) rfl T.g_digits T.F_digits.kp T.b_digits (pax_cons px_int (pax_cons px_int pax_nil)) (argC_len (argC_len argN_len)))) pax_nil) (argC_len argN_len))) pax_nil)) (pgx_name (pg_name (i := 4) sc_read_numbers.nd rfl (.inl rfl))) noex_name)
      (pssx_cons (psx_while (passes_of rfl) (pwx_pt (pwx_and (ptx_cmp (op_lt) (opD_lt) (px_cb (call_len) clD_len rfl T.m_len (by decide +kernel) (pax_cons (px_s (pv 4)) pax_nil)) (px_s (pv 1)) (by rfl)) (pwx_and1 (ptx_not (ptx_truth (px_meth (pv 0) T.me_Reader_is_at (ok_Reader_is_at T) (hr.mono (by decide)) T.b_Reader_is_at (pax_cons (px_d (pv 3)) pax_nil) (argC_len argN_len))))))) (pssx_one (psx_expr (px_mut rfl PySem.F.slot_list_append PySem.F.type_list_append mt_append mutD_append (pv 4) (pax_cons (px_frz (px_meth (pv 0) T.me_Reader_take (ok_Reader_take T) (hr.mono (by decide)) T.b_Reader_take (pax_cons (px_frz (px_call (ok_digits T) (hr.mono (by decide)) rfl T.g_digits T.F_digits.kp T.b_digits (pax_cons (px_frz (px_if (ptx_truth (px_s (pv 2))) (px_frz (px_bin op_addA opD_addA (px_ix ix_seq opD_ix (px_s (pv 4)) (px_un un_neg unD_neg px_int) (fun _ _ => rfl)) px_int)) px_int)) (pax_cons px_int pax_nil)) (argC_len (argC_len argN_len)))) pax_nil) (argC_len argN_len))) pax_nil)))))
      (pssx_cons (psx_expr (px_meth (pv 0) T.me_Reader_take_word (ok_Reader_take_word T) (hr.mono (by decide)) T.b_Reader_take_word (pax_cons (px_d (pv 3)) pax_nil) (argC_len argN_len)))
      (pssx_one (psx_ret (px_cty (call_tuple_of) clD_tuple rfl T.m_tuple (by decide +kernel) (pax_cons (px_s (pv 4)) pax_nil)))))))
theorem ok_Readerq__initq_ (T : Txt P K mg f_is_tuple f_is_integer f_is_number f_are_numbers f_are_sizes f_is_pair f_is_setup f_check_setup f_show_numbers f_show_setup f_Reader_has_more f_Reader_end f_Reader_take f_digits f_Reader_take_word f_Reader_is_at f_read_numbers f_Readerq__initq_ f_read_setup f_law_draws f_law_setup f_law_whole f_law_numbers f_law_setup_text f_law fd_is_tuple fd_is_integer fd_is_number fd_are_numbers fd_are_sizes fd_is_pair fd_is_setup fd_check_setup fd_show_numbers fd_show_setup fd_Reader_has_more fd_Reader_end fd_Reader_take fd_digits fd_Reader_take_word fd_Reader_is_at fd_read_numbers fd_Readerq__initq_ fd_read_setup fd_law_draws fd_law_setup fd_law_whole fd_law_numbers fd_law_setup_text fd_law C_BadSetup C_Reader C_BadText fI_BadText) : FnOk P w K mg base (L2.CX P w) 1 f_Readerq__initq_ fd_Readerq__initq_ ["self", "text"] (spM ⟨K, P, w, clOf mg⟩ mg 2 M_Readerq__initq_) :=
  fn_ok T.F_Readerq__initq_ sc_Readerq__initq_ rfl (by decide) rfl fun cdv A outer s H E hr =>
      (pssx_cons (psx_if (ptx_not (ptx_truth (px_isi (T := "str") rfl T.m_isinstance rfl T.m_str (by decide +kernel) (px_s (pv 1))))) (pssx_one (psx_raiseP rfl T.p_BadText hr px_int rfl)) pssx_nil)
      (pssx_cons (psx_fld (pv 0) (px_frz (px_split (px_s (pv 1)))) T.fl_Reader_words)
      (pssx_one (psx_fld (pv 0) px_int T.fl_Reader_at))))
theorem ok_read_setup (T : Txt P K mg f_is_tuple f_is_integer f_is_number f_are_numbers f_are_sizes f_is_pair f_is_setup f_check_setup f_show_numbers f_show_setup f_Reader_has_more f_Reader_end f_Reader_take f_digits f_Reader_take_word f_Reader_is_at f_read_numbers f_Readerq__initq_ f_read_setup f_law_draws f_law_setup f_law_whole f_law_numbers f_law_setup_text f_law fd_is_tuple fd_is_integer fd_is_number fd_are_numbers fd_are_sizes fd_is_pair fd_is_setup fd_check_setup fd_show_numbers fd_show_setup fd_Reader_has_more fd_Reader_end fd_Reader_take fd_digits fd_Reader_take_word fd_Reader_is_at fd_read_numbers fd_Readerq__initq_ fd_read_setup fd_law_draws fd_law_setup fd_law_whole fd_law_numbers fd_law_setup_text fd_law C_BadSetup C_Reader C_BadText fI_BadText) : FnOk P w K mg base (L2.CX P w) 5 f_read_setup fd_read_setup ["text"] (spM ⟨K, P, w, clOf mg⟩ mg 1 M_read_setup) :=
  fn_ok T.F_read_setup sc_read_setup rfl (by decide) rfl fun cdv A outer s H E hr =>
      (pssx_cons (psx_set (px_make T.mk_Reader (ok_Readerq__initq_ T) (hr.mono (by decide)) rfl T.b_Readerq__initq_ (pax_cons (px_d (pv 0)) pax_nil) (argC_len argN_len)) (pgx_name (pg_name (i := 1) sc_read_setup.nd rfl (.inl rfl))) noex_name)
      (pssx_cons (psx_expr (px_meth (pv 1) T.me_Reader_take_word (ok_Reader_take_word T) (hr.mono (by decide)) T.b_Reader_take_word (pax_cons px_str pax_nil) (argC_len argN_len)))
      (pssx_cons (psx_set (px_call (ok_read_numbers T) (hr.mono (by decide)) rfl T.g_read_numbers T.F_read_numbers.kp T.b_read_numbers (pax_cons (px_s (pv 1)) (pax_cons px_int (pax_cons px_bl (pax_cons px_str pax_nil)))) (argC_len (argC_len (argC_len (argC_len argN_len))))) (pgx_name (pg_name (i := 2) sc_read_setup.nd rfl (.inl rfl))) noex_name)
      (pssx_cons (psx_set (px_call (ok_read_numbers T) (hr.mono (by decide)) rfl T.g_read_numbers T.F_read_numbers.kp T.b_read_numbers (pax_cons (px_s (pv 1)) (pax_cons px_int (pax_cons px_bl (pax_cons px_str pax_nil)))) (argC_len (argC_len (argC_len (argC_len argN_len))))) (pgx_name (pg_name (i := 3) sc_read_setup.nd rfl (.inl rfl))) noex_name)
      (pssx_cons (psx_set (px_tup (pax_cons (px_frz (px_meth (pv 1) T.me_Reader_take (ok_Reader_take T) (hr.mono (by decide)) T.b_Reader_take (pax_cons (px_frz (px_call (ok_digits T) (hr.mono (by decide)) rfl T.g_digits T.F_digits.kp T.b_digits (pax_cons px_int (pax_cons px_int pax_nil)) (argC_len (argC_len argN_len)))) pax_nil) (argC_len argN_len))) (pax_cons (px_frz (px_meth (pv 1) T.me_Reader_take (ok_Reader_take T) (hr.mono (by decide)) T.b_Reader_take (pax_cons (px_frz (px_call (ok_digits T) (hr.mono (by decide)) rfl T.g_digits T.F_digits.kp T.b_digits (pax_cons px_int (pax_cons px_int pax_nil)) (argC_len (argC_len argN_len)))) pax_nil) (argC_len argN_len))) pax_nil))) (pgx_name (pg_name (i := 4) sc_read_setup.nd rfl (.inl rfl))) noex_name)
      (pssx_cons (psx_expr (px_meth (pv 1) T.me_Reader_take_word (ok_Reader_take_word T) (hr.mono (by decide)) T.b_Reader_take_word (pax_cons px_str pax_nil) (argC_len argN_len)))
      (pssx_cons (psx_set (px_tup (pax_cons (px_frz (px_meth (pv 1) T.me_Reader_take (ok_Reader_take T) (hr.mono (by decide)) T.b_Reader_take (pax_cons (px_frz (px_call (ok_digits T) (hr.mono (by decide)) rfl T.g_digits T.F_digits.kp T.b_digits (pax_cons px_int (pax_cons px_int pax_nil)) (argC_len (argC_len argN_len)))) pax_nil) (argC_len argN_len))) (pax_cons (px_frz (px_meth (pv 1) T.me_Reader_take (ok_Reader_take T) (hr.mono (by decide)) T.b_Reader_take (pax_cons (px_frz (px_call (ok_digits T) (hr.mono (by decide)) rfl T.g_digits T.F_digits.kp T.b_digits (pax_cons px_int (pax_cons px_int pax_nil)) (argC_len (argC_len argN_len)))) pax_nil) (argC_len argN_len))) pax_nil))) (pgx_name (pg_name (i := 5) sc_read_setup.nd rfl (.inl rfl))) noex_name)
      (pssx_cons (psx_expr (px_meth0 (pv 1) T.me_Reader_end (ok_Reader_end T) (hr.mono (by decide)) T.b_Reader_end))
      (pssx_one (psx_ret (px_tup (pax_cons (px_d (pv 2)) (pax_cons (px_d (pv 3)) (pax_cons (px_d (pv 4)) (pax_cons (px_d (pv 5)) pax_nil)))))))))))))))
theorem ok_law_draws (T : Txt P K mg f_is_tuple f_is_integer f_is_number f_are_numbers f_are_sizes f_is_pair f_is_setup f_check_setup f_show_numbers f_show_setup f_Reader_has_more f_Reader_end f_Reader_take f_digits f_Reader_take_word f_Reader_is_at f_read_numbers f_Readerq__initq_ f_read_setup f_law_draws f_law_setup f_law_whole f_law_numbers f_law_setup_text f_law fd_is_tuple fd_is_integer fd_is_number fd_are_numbers fd_are_sizes fd_is_pair fd_is_setup fd_check_setup fd_show_numbers fd_show_setup fd_Reader_has_more fd_Reader_end fd_Reader_take fd_digits fd_Reader_take_word fd_Reader_is_at fd_read_numbers fd_Readerq__initq_ fd_read_setup fd_law_draws fd_law_setup fd_law_whole fd_law_numbers fd_law_setup_text fd_law C_BadSetup C_Reader C_BadText fI_BadText) : FnOk P w K mg base (L2.CX P w) 1 f_law_draws fd_law_draws ["cell", "many"] (spM ⟨K, P, w, clOf mg⟩ mg 2 M_law_draws) :=
  fn_ok T.F_law_draws sc_law_draws rfl (by decide) rfl fun cdv A outer s H E hr =>
      (pssx_cons (psx_set (px_lst pax_nil) (pgx_name (pg_name (i := 2) sc_law_draws.nd rfl (.inl rfl))) noex_name)
      (pssx_cons (psx_set (px_bin op_sub opD_sub (px_cty (call_int1) clD_int rfl T.m_int (by decide +kernel) (pax_cons (px_s (pv 0)) pax_nil)) (px_bin op_pow opD_pow px_int px_int)) (pgx_name (pg_name (i := 3) sc_law_draws.nd rfl (.inl rfl))) noex_name)
      (pssx_cons (psx_set (px_bin op_mod opD_mod (px_cty (call_int1) clD_int rfl T.m_int (by decide +kernel) (pax_cons (px_s (pv 0)) pax_nil)) (px_bin op_addA opD_addA (px_bin op_pow opD_pow px_int px_int) px_int)) (pgx_name (pg_name (i := 4) sc_law_draws.nd rfl (.inl rfl))) noex_name)
      (pssx_cons (psx_for (passes_of rfl) rfl (pix_rng1 rfl T.m_range (pax_cons (px_s (pv 1)) pax_nil)) (pgx_name (pg_name (i := 5) sc_law_draws.nd rfl (.inl rfl))) noex_name (pssx_cons (psx_set (px_bin op_mod opD_mod (px_cty (call_int1) clD_int rfl T.m_int (by decide +kernel) (pax_cons (px_bin op_addA opD_addA (px_bin op_addA opD_addA (px_bin op_mulA opD_mulA (px_s (pv 4)) px_int) (px_bin op_mulA opD_mulA (px_bin op_mulA opD_mulA (px_bin op_addA opD_addA (px_s (pv 5)) px_int) (px_bin op_addA opD_addA (px_s (pv 5)) px_int)) px_int)) px_int) pax_nil)) px_int) (pgx_name (pg_name (i := 6) sc_law_draws.nd rfl (.inl rfl))) noex_name)
      (pssx_cons (psx_set (px_bin op_mod opD_mod (px_cty (call_int1) clD_int rfl T.m_int (by decide +kernel) (pax_cons (px_bin op_addA opD_addA (px_bin op_mulA opD_mulA (px_s (pv 6)) (px_s (pv 6))) (px_bin op_mulA opD_mulA px_int (px_s (pv 5)))) pax_nil)) px_int) (pgx_name (pg_name (i := 6) sc_law_draws.nd rfl (.inl rfl))) noex_name)
      (pssx_cons (psx_set (px_bin op_mod opD_mod (px_cty (call_int1) clD_int rfl T.m_int (by decide +kernel) (pax_cons (px_bin op_fdivW opD_divA (px_s (pv 6)) px_int) pax_nil)) px_int) (pgx_name (pg_name (i := 7) sc_law_draws.nd rfl (.inl rfl))) noex_name)
      (pssx_cons (psx_if (ptx_cmp (op_gt) (opD_gt) (px_s (pv 3)) px_int (by rfl)) (pssx_cons (psx_set (px_bin op_mod opD_mod (px_cty (call_int1) clD_int rfl T.m_int (by decide +kernel) (pax_cons (px_s (pv 3)) pax_nil)) px_int) (pgx_name (pg_name (i := 7) sc_law_draws.nd rfl (.inl rfl))) noex_name)
      (pssx_one (psx_set (px_bin op_fdivW opD_divA (px_s (pv 3)) px_int) (pgx_name (pg_name (i := 3) sc_law_draws.nd rfl (.inl rfl))) noex_name))) pssx_nil)
      (pssx_one (psx_expr (px_mut rfl PySem.F.slot_list_append PySem.F.type_list_append mt_append mutD_append (pv 2) (pax_cons (px_d (pv 7)) pax_nil)))))))))
      (pssx_one (psx_retV (pv 2)))))))
theorem ok_law_setup (T : Txt P K mg f_is_tuple f_is_integer f_is_number f_are_numbers f_are_sizes f_is_pair f_is_setup f_check_setup f_show_numbers f_show_setup f_Reader_has_more f_Reader_end f_Reader_take f_digits f_Reader_take_word f_Reader_is_at f_read_numbers f_Readerq__initq_ f_read_setup f_law_draws f_law_setup f_law_whole f_law_numbers f_law_setup_text f_law fd_is_tuple fd_is_integer fd_is_number fd_are_numbers fd_are_sizes fd_is_pair fd_is_setup fd_check_setup fd_show_numbers fd_show_setup fd_Reader_has_more fd_Reader_end fd_Reader_take fd_digits fd_Reader_take_word fd_Reader_is_at fd_read_numbers fd_Readerq__initq_ fd_read_setup fd_law_draws fd_law_setup fd_law_whole fd_law_numbers fd_law_setup_text fd_law C_BadSetup C_Reader C_BadText fI_BadText) : FnOk P w K mg base (L2.CX P w) 1 f_law_setup fd_law_setup ["draws"] (spM ⟨K, P, w, clOf mg⟩ mg 1 M_law_setup) :=
  fn_ok T.F_law_setup sc_law_setup rfl (by decide) rfl fun cdv A outer s H E hr =>
      (pssx_cons (psx_set (px_cty (call_tuple_of) clD_tuple rfl T.m_tuple (by decide +kernel) (pax_cons (px_lc (own := [("draw", 3)]) rfl sc_law_setup.nd (pix_seq (px_frz (px_sl sl_any slD_any (px_s (pv 0)) (pox_some px_int) (pox_some (px_bin op_addA opD_addA px_int (px_bin op_mod opD_mod (px_cty (call_int1) clD_int rfl T.m_int (by decide +kernel) (pax_cons (px_ix ix_seq opD_ix (px_s (pv 0)) px_int (fun _ _ => rfl)) pax_nil)) px_int)))))) (blkOk_by (N := N_law_setup) (sc := defScope s_law_setup) (by decide +kernel)) (fun _ _ _ _ _ => (pgc_name (pg_name (i := 3) sc_law_setup.nd rfl (.inl rfl)) (by decide))) noex_name (fun _ _ _ _ _ => ptsx_nil) (fun _ _ _ _ _ => (px_frz (px_bin op_addA opD_addA px_int (px_bin op_mod opD_mod (px_cty (call_int1) clD_int rfl T.m_int (by decide +kernel) (pax_cons (px_s (pv 3)) pax_nil)) px_int))))) pax_nil)) (pgx_name (pg_name (i := 1) sc_law_setup.nd rfl (.inl rfl))) noex_name)
      (pssx_cons (psx_set (px_lst (pax_cons px_int (pax_cons px_int (pax_cons px_int (pax_cons px_int (pax_cons px_int pax_nil)))))) (pgx_name (pg_name (i := 2) sc_law_setup.nd rfl (.inl rfl))) noex_name)
      (pssx_cons (psx_for (passes_of rfl) rfl (pix_seq (px_frz (px_sl sl_any slD_any (px_s (pv 0)) (pox_some px_int) (pox_some (px_bin op_sub opD_sub px_int (px_bin op_mod opD_mod (px_cty (call_int1) clD_int rfl T.m_int (by decide +kernel) (pax_cons (px_bin op_fdivW opD_divA (px_cty (call_int1) clD_int rfl T.m_int (by decide +kernel) (pax_cons (px_ix ix_seq opD_ix (px_s (pv 0)) px_int (fun _ _ => rfl)) pax_nil)) px_int) pax_nil)) px_int)))))) (pgx_name (pg_name (i := 3) sc_law_setup.nd rfl (.inl rfl))) noex_name (pssx_one (psx_expr (px_mut rfl PySem.F.slot_list_pop PySem.F.type_list_pop mt_popAt mutD_popAt (pv 2) (pax_cons (px_frz (px_bin op_mod opD_mod (px_cty (call_int1) clD_int rfl T.m_int (by decide +kernel) (pax_cons (px_s (pv 3)) pax_nil)) (px_cb (call_len) clD_len rfl T.m_len (by decide +kernel) (pax_cons (px_s (pv 2)) pax_nil)))) pax_nil)))))
      (pssx_cons (psx_set (px_tup (pax_cons (px_frz (px_bin op_addA opD_addA px_int (px_bin op_mod opD_mod (px_cty (call_int1) clD_int rfl T.m_int (by decide +kernel) (pax_cons (px_ix ix_seq opD_ix (px_s (pv 0)) px_int (fun _ _ => rfl)) pax_nil)) px_int))) (pax_cons (px_frz (px_bin op_mod opD_mod (px_cty (call_int1) clD_int rfl T.m_int (by decide +kernel) (pax_cons (px_ix ix_seq opD_ix (px_s (pv 0)) px_int (fun _ _ => rfl)) pax_nil)) px_int)) pax_nil))) (pgx_name (pg_name (i := 4) sc_law_setup.nd rfl (.inl rfl))) noex_name)
      (pssx_one (psx_ret (px_tup (pax_cons (px_d (pv 1)) (pax_cons (px_frz (px_cty (call_tuple_of) clD_tuple rfl T.m_tuple (by decide +kernel) (pax_cons (px_s (pv 2)) pax_nil))) (pax_cons (px_d (pv 4)) (pax_cons (px_tup (pax_cons (px_frz (px_bin op_mod opD_mod (px_cty (call_int1) clD_int rfl T.m_int (by decide +kernel) (pax_cons (px_ix ix_seq opD_ix (px_s (pv 0)) px_int (fun _ _ => rfl)) pax_nil)) px_int)) (pax_cons (px_frz (px_bin op_mod opD_mod (px_cty (call_int1) clD_int rfl T.m_int (by decide +kernel) (pax_cons (px_ix ix_seq opD_ix (px_s (pv 0)) px_int (fun _ _ => rfl)) pax_nil)) px_int)) pax_nil))) pax_nil)))))))))))
theorem ok_law_whole (T : Txt P K mg f_is_tuple f_is_integer f_is_number f_are_numbers f_are_sizes f_is_pair f_is_setup f_check_setup f_show_numbers f_show_setup f_Reader_has_more f_Reader_end f_Reader_take f_digits f_Reader_take_word f_Reader_is_at f_read_numbers f_Readerq__initq_ f_read_setup f_law_draws f_law_setup f_law_whole f_law_numbers f_law_setup_text f_law fd_is_tuple fd_is_integer fd_is_number fd_are_numbers fd_are_sizes fd_is_pair fd_is_setup fd_check_setup fd_show_numbers fd_show_setup fd_Reader_has_more fd_Reader_end fd_Reader_take fd_digits fd_Reader_take_word fd_Reader_is_at fd_read_numbers fd_Readerq__initq_ fd_read_setup fd_law_draws fd_law_setup fd_law_whole fd_law_numbers fd_law_setup_text fd_law C_BadSetup C_Reader C_BadText fI_BadText) : FnOk P w K mg base (L2.CX P w) 1 f_law_whole fd_law_whole ["found"] (spM ⟨K, P, w, clOf mg⟩ mg 1 M_law_whole) :=
  fn_ok T.F_law_whole sc_law_whole rfl (by decide) rfl fun cdv A outer s H E hr =>
      (pssx_one (psx_ret (px_and (px_isi (T := "int") rfl T.m_isinstance rfl T.m_int (by decide +kernel) (px_s (pv 0))) (px_one (px_not (px_isi (T := "bool") rfl T.m_isinstance rfl T.m_bool (by decide +kernel) (px_s (pv 0))))))))
theorem ok_law_numbers (T : Txt P K mg f_is_tuple f_is_integer f_is_number f_are_numbers f_are_sizes f_is_pair f_is_setup f_check_setup f_show_numbers f_show_setup f_Reader_has_more f_Reader_end f_Reader_take f_digits f_Reader_take_word f_Reader_is_at f_read_numbers f_Readerq__initq_ f_read_setup f_law_draws f_law_setup f_law_whole f_law_numbers f_law_setup_text f_law fd_is_tuple fd_is_integer fd_is_number fd_are_numbers fd_are_sizes fd_is_pair fd_is_setup fd_check_setup fd_show_numbers fd_show_setup fd_Reader_has_more fd_Reader_end fd_Reader_take fd_digits fd_Reader_take_word fd_Reader_is_at fd_read_numbers fd_Readerq__initq_ fd_read_setup fd_law_draws fd_law_setup fd_law_whole fd_law_numbers fd_law_setup_text fd_law C_BadSetup C_Reader C_BadText fI_BadText) : FnOk P w K mg base (L2.CX P w) 2 f_law_numbers fd_law_numbers ["found"] (spM ⟨K, P, w, clOf mg⟩ mg 1 M_law_numbers) :=
  fn_ok T.F_law_numbers sc_law_numbers rfl (by decide) rfl fun cdv A outer s H E hr =>
      (pssx_one (psx_ret (px_and (px_isi (T := "tuple") rfl T.m_isinstance rfl T.m_tuple (by decide +kernel) (px_s (pv 0))) (px_one (px_cb (cr_all rfl) clD_all rfl T.m_all (by decide +kernel) (pax_cons (px_lc (own := [("number", 1)]) rfl sc_law_numbers.nd (pix_seq (px_d (pv 0))) (blkOk_by (N := N_law_numbers) (sc := defScope s_law_numbers) (by decide +kernel)) (fun _ _ _ _ _ => (pgc_name (pg_name (i := 1) sc_law_numbers.nd rfl (.inl rfl)) (by decide))) noex_name (fun _ _ _ _ _ => ptsx_nil) (fun _ _ _ _ _ => (px_frz (px_call (ok_law_whole T) (hr.mono (by decide)) rfl T.g_law_whole T.F_law_whole.kp T.b_law_whole (pax_cons (px_d (pv 1)) pax_nil) (argC_len argN_len))))) pax_nil))))))
theorem ok_law_setup_text (T : Txt P K mg f_is_tuple f_is_integer f_is_number f_are_numbers f_are_sizes f_is_pair f_is_setup f_check_setup f_show_numbers f_show_setup f_Reader_has_more f_Reader_end f_Reader_take f_digits f_Reader_take_word f_Reader_is_at f_read_numbers f_Readerq__initq_ f_read_setup f_law_draws f_law_setup f_law_whole f_law_numbers f_law_setup_text f_law fd_is_tuple fd_is_integer fd_is_number fd_are_numbers fd_are_sizes fd_is_pair fd_is_setup fd_check_setup fd_show_numbers fd_show_setup fd_Reader_has_more fd_Reader_end fd_Reader_take fd_digits fd_Reader_take_word fd_Reader_is_at fd_read_numbers fd_Readerq__initq_ fd_read_setup fd_law_draws fd_law_setup fd_law_whole fd_law_numbers fd_law_setup_text fd_law C_BadSetup C_Reader C_BadText fI_BadText) : FnOk P w K mg base (L2.CX P w) 1 f_law_setup_text fd_law_setup_text ["setup"] (spM ⟨K, P, w, clOf mg⟩ mg 1 M_law_setup_text) :=
  fn_ok T.F_law_setup_text sc_law_setup_text rfl (by decide) rfl fun cdv A outer s H E hr =>
      (pssx_cons (psx_set (px_lst pax_nil) (pgx_name (pg_name (i := 1) sc_law_setup_text.nd rfl (.inl rfl))) noex_name)
      (pssx_cons (psx_for (passes_of rfl) rfl (pix_seq (px_frz (px_lst (pax_cons (px_tup (pax_cons px_str (pax_cons (px_frz (px_ix ix_seq opD_ix (px_s (pv 0)) px_int (fun _ _ => rfl))) pax_nil))) (pax_cons (px_tup (pax_cons px_str (pax_cons (px_frz (px_ix ix_seq opD_ix (px_s (pv 0)) px_int (fun _ _ => rfl))) pax_nil))) (pax_cons (px_tup (pax_cons px_str (pax_cons (px_frz (px_ix ix_seq opD_ix (px_s (pv 0)) px_int (fun _ _ => rfl))) pax_nil))) (pax_cons (px_tup (pax_cons px_str (pax_cons (px_frz (px_ix ix_seq opD_ix (px_s (pv 0)) px_int (fun _ _ => rfl))) pax_nil))) pax_nil))))))) (pgx_tup rfl (pgsx_cons (pgx_name (pg_name (i := 2) sc_law_setup_text.nd rfl (.inl rfl))) (pgsx_cons (pgx_name (pg_name (i := 3) sc_law_setup_text.nd rfl (.inl rfl))) pgsx_nil))) (noex_tup (noexs_cons noex_name (noexs_cons noex_name noexs_nil))) (pssx_one (psx_set (px_bin op_addA opD_addA (px_bin op_addA opD_addA (px_s (pv 1)) (px_lst (pax_cons (px_d (pv 2)) pax_nil))) (px_lc (own := [("number", 4)]) rfl sc_law_setup_text.nd (pix_seq (px_d (pv 3))) (blkOk_by (N := N_law_setup_text) (sc := defScope s_law_setup_text) (by decide +kernel)) (fun _ _ _ _ _ => (pgc_name (pg_name (i := 4) sc_law_setup_text.nd rfl (.inl rfl)) (by decide))) noex_name (fun _ _ _ _ _ => ptsx_nil) (fun _ _ _ _ _ => (px_frz (px_cty (call_str_int) clD_str rfl T.m_str (by decide +kernel) (pax_cons (px_s (pv 4)) pax_nil)))))) (pgx_name (pg_name (i := 1) sc_law_setup_text.nd rfl (.inl rfl))) noex_name)))
      (pssx_one (psx_ret (px_join (px_s (pv 1)))))))
theorem ok_law (T : Txt P K mg f_is_tuple f_is_integer f_is_number f_are_numbers f_are_sizes f_is_pair f_is_setup f_check_setup f_show_numbers f_show_setup f_Reader_has_more f_Reader_end f_Reader_take f_digits f_Reader_take_word f_Reader_is_at f_read_numbers f_Readerq__initq_ f_read_setup f_law_draws f_law_setup f_law_whole f_law_numbers f_law_setup_text f_law fd_is_tuple fd_is_integer fd_is_number fd_are_numbers fd_are_sizes fd_is_pair fd_is_setup fd_check_setup fd_show_numbers fd_show_setup fd_Reader_has_more fd_Reader_end fd_Reader_take fd_digits fd_Reader_take_word fd_Reader_is_at fd_read_numbers fd_Readerq__initq_ fd_read_setup fd_law_draws fd_law_setup fd_law_whole fd_law_numbers fd_law_setup_text fd_law C_BadSetup C_Reader C_BadText fI_BadText) : FnOk P w K mg base (L2.CX P w) 8 f_law fd_law ["script"] (spM ⟨K, P, w, clOf mg⟩ mg 1 M_law) :=
  fn_ok T.F_law sc_law rfl (by decide) rfl fun cdv A outer s H E hr =>
      (pssx_cons (psx_set px_dicO (pgx_name (pg_name (i := 1) sc_law.nd rfl (.inl rfl))) noex_name)
      (pssx_cons (psx_for (passes_of rfl) rfl (pix_seq (px_frz (px_bin op_addA opD_addA (px_lst (pax_cons (px_frz (px_bin op_addA opD_addA (px_bin op_pow opD_pow px_int px_int) (px_bin op_pow opD_pow px_int px_int))) pax_nil)) (px_sl sl_any slD_any (px_s (pv 0)) pox_none (pox_some px_int))))) (pgx_name (pg_name (i := 2) sc_law.nd rfl (.inl rfl))) noex_name (pssx_cons (psx_set (px_call (ok_law_setup T) (hr.mono (by decide)) rfl T.g_law_setup T.F_law_setup.kp T.b_law_setup (pax_cons (px_frz (px_call (ok_law_draws T) (hr.mono (by decide)) rfl T.g_law_draws T.F_law_draws.kp T.b_law_draws (pax_cons (px_d (pv 2)) (pax_cons px_int pax_nil)) (argC_len (argC_len argN_len)))) pax_nil) (argC_len argN_len)) (pgx_name (pg_name (i := 3) sc_law.nd rfl (.inl rfl))) noex_name)
      (pssx_cons (psx_set (px_call (ok_show_setup T) (hr.mono (by decide)) rfl T.g_show_setup T.F_show_setup.kp T.b_show_setup (pax_cons (px_d (pv 3)) pax_nil) (argC_len argN_len)) (pgx_name (pg_name (i := 4) sc_law.nd rfl (.inl rfl))) noex_name)
      (pssx_cons (psx_if (pwx_pt (pwx_or (ptx_not (ptx_truth (px_isi (T := "str") rfl T.m_isinstance rfl T.m_str (by decide +kernel) (px_s (pv 4))))) (pwx_or (ptx_cmp (op_neD hr.units) (opD_ne) (px_s (pv 4)) (px_call (ok_law_setup_text T) (hr.mono (by decide)) rfl T.g_law_setup_text T.F_law_setup_text.kp T.b_law_setup_text (pax_cons (px_d (pv 3)) pax_nil) (argC_len argN_len)) (by rfl)) (pwx_or1 (ptx_cmp (op_neD hr.units) (opD_ne) (px_dget hr.units (pv 1) (px_d (pv 4)) (px_d (pv 3)) ⟨rfl, rfl, rfl, rfl⟩) (px_s (pv 3)) (by rfl)))))) (pssx_one (psx_ret px_bl)) pssx_nil)
      (pssx_cons (psx_dput hr.units (pv 1) (px_d (pv 3)) (px_d (pv 4)))
      (pssx_cons (psx_set (px_call (ok_read_setup T) (hr.mono (by decide)) rfl T.g_read_setup T.F_read_setup.kp T.b_read_setup (pax_cons (px_d (pv 4)) pax_nil) (argC_len argN_len)) (pgx_name (pg_name (i := 5) sc_law.nd rfl (.inl rfl))) noex_name)
      (pssx_cons (psx_if (pwx_pt (pwx_or (ptx_not (ptx_truth (px_isi (T := "tuple") rfl T.m_isinstance rfl T.m_tuple (by decide +kernel) (px_s (pv 5))))) (pwx_or (ptx_cmp (op_neD hr.units) (opD_ne) (px_s (pv 5)) (px_s (pv 3)) (by rfl)) (pwx_or1 (ptx_not (ptx_truth (px_cb (cr_all rfl) clD_all rfl T.m_all (by decide +kernel) (pax_cons (px_lc (own := [("part", 6)]) rfl sc_law.nd (pix_seq (px_d (pv 5))) (blkOk_by (N := N_law) (sc := defScope s_law) (by decide +kernel)) (fun _ _ _ _ _ => (pgc_name (pg_name (i := 6) sc_law.nd rfl (.inl rfl)) (by decide))) noex_name (fun _ _ _ _ _ => ptsx_nil) (fun _ _ _ _ _ => (px_frz (px_call (ok_law_numbers T) (hr.mono (by decide)) rfl T.g_law_numbers T.F_law_numbers.kp T.b_law_numbers (pax_cons (px_d (pv 6)) pax_nil) (argC_len argN_len))))) pax_nil)))))))) (pssx_one (psx_ret px_bl)) pssx_nil)
      (pssx_one (psx_if (ptx_cmp (op_notBl) (opD_notB) (px_call (ok_is_setup T) (hr.mono (by decide)) rfl T.g_is_setup T.F_is_setup.kp T.b_is_setup (pax_cons (px_d (pv 5)) pax_nil) (argC_len argN_len)) px_bl (by rfl)) (pssx_one (psx_ret px_bl)) pssx_nil)))))))))
      (pssx_one (psx_ret px_bl))))
end
end My
set_option maxRecDepth 100000
namespace My
open PySem L2 Ly
def isTup (d : D) (f m : Int) : Bool := match d with
  | .tuple xs => decide (f ≤ xs.length) && decide ((xs.length : Int) ≤ m)
  | _ => false
theorem is_tuple_eq (d : D) (f m : Int) : M_is_tuple [.d d, .d (.int f), .d (.int m)] = .ok (.d (.bool (isTup d f m))) [.d d, .d (.int f), .d (.int m)] := by
  unfold M_is_tuple
  rw [bodyM_eq]
  unfold B_is_tuple
  cases d with
  | tuple xs =>
    simp [isTup]
    by_cases h : f ≤ xs.length <;> simp [h]
  | _ => simp [isTup]
@[simp] theorem c_is_tuple {d : D} {f m : Int} {Γ : Ge} : callM M_is_tuple [.d d, .d (.int f), .d (.int m)] Γ = .ok (.d (.bool (isTup d f m))) Γ := callM_d (rs := [.d d, .d (.int f), .d (.int m)]) rfl (is_tuple_eq d f m)
def isInt : D → Bool
  | .int _ => true
  | _ => false
theorem is_integer_eq (d : D) : M_is_integer [.d d] = .ok (.d (.bool (isInt d))) [.d d] := by
  unfold M_is_integer
  rw [bodyM_eq]
  unfold B_is_integer
  cases d <;> simp [isInt]
@[simp] theorem c_is_integer {d : D} {Γ : Ge} : callM M_is_integer [.d d] Γ = .ok (.d (.bool (isInt d))) Γ := callM_d (rs := [.d d]) rfl (is_integer_eq d)
def numIn (d : D) (lo hi : Int) : Bool := match d with
  | .int i => decide (lo ≤ i) && decide (i ≤ hi)
  | _ => false
theorem is_number_eq (d : D) (lo hi : Int) : M_is_number [.d d, .d (.int lo), .d (.int hi)] = .ok (.d (.bool (numIn d lo hi))) [.d d, .d (.int lo), .d (.int hi)] := by
  unfold M_is_number
  rw [bodyM_eq]
  unfold B_is_number
  simp
  cases d with
  | int i =>
    simp [isInt, numIn]
    by_cases h : lo ≤ i <;> simp [h]
  | _ => simp [isInt, numIn]
@[simp] theorem c_is_number {d : D} {lo hi : Int} {Γ : Ge} : callM M_is_number [.d d, .d (.int lo), .d (.int hi)] Γ = .ok (.d (.bool (numIn d lo hi))) Γ := callM_d (rs := [.d d, .d (.int lo), .d (.int hi)]) rfl (is_number_eq d lo hi)
theorem asBs_map (φ : D → Bool) : ∀ xs : List D, asBs (xs.map fun d => .bool (φ d)) = some (xs.map φ)
  | [] => rfl
  | x :: xs => by simp [asBs, asBs_map φ xs]
theorem are_numbers_eq (xs : List D) (lo hi : Int) (hl : xs.length ≤ 1000) : M_are_numbers [.d (.tuple xs), .d (.int lo), .d (.int hi)] = .ok (.d (.bool (xs.all fun d => numIn d lo hi))) [.d (.tuple xs), .d (.int lo), .d (.int hi)] := by
  unfold M_are_numbers
  rw [bodyM_eq]
  unfold B_are_numbers
  simp [plainAt, wipeG]
  rw [lc_map (φ := fun d => .bool (numIn d lo hi))]
  · simp [asBs_map, restG, List.all_map]
  · simp; omega
  · exact fun d hd => ⟨_, _, by simp; rfl, by simp [yesB], by simp; rfl, by simp [wipeG]⟩
@[simp] theorem c_are_numbers {xs : List D} {lo hi : Int} {Γ : Ge} (hl : xs.length ≤ 1000) : callM M_are_numbers [.d (.tuple xs), .d (.int lo), .d (.int hi)] Γ = .ok (.d (.bool (xs.all fun d => numIn d lo hi))) Γ := callM_d (rs := [.d (.tuple xs), .d (.int lo), .d (.int hi)]) rfl (are_numbers_eq xs lo hi hl)
/-- strictly ascending, of ints -/
def ascD : List D → Bool
  | .int x :: .int y :: r => decide (x < y) && ascD (.int y :: r)
  | _ => true
theorem asc_zip : ∀ (ns : List Int), ((zipD (ns.map PyData.int) ((ns.map PyData.int).tail)).all fun d => match d with | .tuple [.int a, .int b] => decide (a < b) | _ => true) = ascD (ns.map .int)
  | [] => rfl
  | [x] => rfl
  | x :: y :: r => by
    have ih := asc_zip (y :: r)
    simp only [List.map_cons, List.tail_cons, zipD, List.all_cons, ascD] at ih ⊢
    rw [ih]
def isSizes (d : D) : Bool := match d with
  | .tuple xs => (decide (1 ≤ xs.length) && decide (xs.length ≤ 3)) && (xs.all fun d => numIn d 1 5) && ascD xs
  | _ => false
theorem ints_of_nums {lo hi : Int} : ∀ {xs : List D}, (xs.all fun d => numIn d lo hi) = true → ∃ ns : List Int, xs = ns.map .int ∧ ∀ n ∈ ns, lo ≤ n ∧ n ≤ hi
  | [], _ => ⟨[], rfl, by simp⟩
  | x :: xs, h => by
    simp only [List.all_cons, Bool.and_eq_true] at h
    obtain ⟨ns, e, hn⟩ := ints_of_nums h.2
    cases x <;> first
      | (simp [numIn] at h; done)
      | skip
    rename_i i
    refine ⟨i :: ns, by rw [e]; rfl, fun n hn' => ?_⟩
    rcases List.mem_cons.mp hn' with z | z
    · rw [z]
      have := h.1
      simp only [numIn, Bool.and_eq_true, decide_eq_true_eq] at this
      exact this
    · exact hn n z
theorem cut_from1 {xs : List D} : cutD xs (some 1) none = xs.drop 1 := by
  unfold cutD
  rw [show HT.sIx xs.length 0 (some 1) = min 1 xs.length from HT.sIx_nat xs.length 0 1, HT.sIx_none]
  cases xs with
  | nil => rfl
  | cons x r => simp
theorem zip_mem {P : Int → Prop} : ∀ {ns : List Int} {d : D}, d ∈ zipD (ns.map PyData.int) ((ns.map PyData.int).tail) → ∃ a b, d = .tuple [.int a, .int b]
  | [], d, h => by simp [zipD] at h
  | [x], d, h => by simp [zipD] at h
  | x :: y :: r, d, h => by
    simp only [List.map_cons, List.tail_cons, zipD, List.mem_cons] at h
    rcases h with h | h
    · exact ⟨x, y, h⟩
    · exact zip_mem (P := P) (ns := y :: r) (by simpa using h)
theorem zip_len1 : ∀ xs ys : List D, (zipD xs ys).length ≤ xs.length
  | [], _ => by simp [zipD]
  | _ :: _, [] => by simp [zipD]
  | x :: xs, y :: ys => by simp [zipD, zip_len1 xs ys]
def pairLt (d : D) : D := .bool (match d with | .tuple [.int a, .int b] => decide (a < b) | _ => true)
theorem are_sizes_eq (d : D) : M_are_sizes [.d d] = .ok (.d (.bool (isSizes d))) [.d d] := by
  unfold M_are_sizes
  rw [bodyM_eq]
  unfold B_are_sizes
  simp
  cases d <;> first
    | (simp [isTup, isSizes]; done)
    | skip
  rename_i xs
  by_cases h1 : 1 ≤ xs.length ∧ xs.length ≤ 3
  · have e1 : isTup (.tuple xs) 1 3 = true := by simp [isTup]; omega
    have hl : xs.length ≤ 1000 := by omega
    have e3 : (decide (1 ≤ xs.length) && decide (xs.length ≤ 3)) = true := by simp; omega
    simp [e1, hl, isSizes, e3]
    cases h2 : xs.all fun d => numIn d 1 5 with
    | false => simp
    | true =>
      obtain ⟨ns, e, _⟩ := ints_of_nums h2
      simp [plainAt, wipeG, cut_from1]
      rw [lc_map (φ := pairLt)]
      · have e4 : (zipD xs xs.tail).map pairLt = (zipD xs xs.tail).map fun d => .bool (match d with | .tuple [.int a, .int b] => decide (a < b) | _ => true) := rfl
        rw [e4]
        simp [asBs_map, restG, List.all_map]
        rw [e, ← asc_zip ns]
      · have := zip_len1 xs xs.tail
        simp; omega
      · intro d hd
        rw [e] at hd
        obtain ⟨a, b, rfl⟩ := zip_mem (P := fun _ => True) hd
        exact ⟨_, _, by simp; rfl, by simp [yesB], by simp [pairLt]; rfl, by simp [wipeG]⟩
  · have e1 : isTup (.tuple xs) 1 3 = false := by
      unfold isTup
      rw [Bool.and_eq_false_iff, decide_eq_false_iff_not, decide_eq_false_iff_not]
      omega
    have e3 : (decide (1 ≤ xs.length) && decide (xs.length ≤ 3)) = false := by
      rw [Bool.and_eq_false_iff, decide_eq_false_iff_not, decide_eq_false_iff_not]; omega
    simp [e1, isSizes, e3]
@[simp] theorem c_are_sizes {d : D} {Γ : Ge} : callM M_are_sizes [.d d] Γ = .ok (.d (.bool (isSizes d))) Γ := callM_d (rs := [.d d]) rfl (are_sizes_eq d)
end My
set_option maxRecDepth 100000
namespace My
open PySem L2 Ly
theorem isTup_len {d : D} {f m : Int} (h : isTup d f m = true) : ∃ xs, d = .tuple xs ∧ f ≤ xs.length ∧ (xs.length : Int) ≤ m := by
  cases d <;> first
    | (simp [isTup] at h; done)
    | skip
  rename_i xs
  refine ⟨xs, rfl, ?_⟩
  simpa [isTup] using h
theorem len2 {xs : List D} (h : xs.length = 2) : ∃ a b, xs = [a, b] := by
  match xs, h with
  | [a, b], _ => exact ⟨a, b, rfl⟩
theorem len4 {xs : List D} (h : xs.length = 4) : ∃ a b c d, xs = [a, b, c, d] := by
  match xs, h with
  | [a, b, c, d], _ => exact ⟨a, b, c, d, rfl⟩
theorem len6 {xs : List D} (h : xs.length = 6) : ∃ a b c d e f, xs = [a, b, c, d, e, f] := by
  match xs, h with
  | [a, b, c, d, e, f], _ => exact ⟨a, b, c, d, e, f, rfl⟩
def isPair (d : D) (fg mg ms : Int) : Bool := match d with
  | .tuple [a, b] => numIn a fg mg && numIn b 0 ms
  | _ => false
theorem isTup2_pair {d : D} (h : isTup d 2 2 = true) : ∃ a b, d = .tuple [a, b] := by
  obtain ⟨xs, rfl, h1, h2⟩ := isTup_len h
  obtain ⟨a, b, rfl⟩ := len2 (xs := xs) (by omega)
  exact ⟨a, b, rfl⟩
theorem is_pair_eq (d : D) (fg mg ms : Int) : M_is_pair [.d d, .d (.int fg), .d (.int mg), .d (.int ms)] = .ok (.d (.bool (isPair d fg mg ms))) [.d d, .d (.int fg), .d (.int mg), .d (.int ms)] := by
  unfold M_is_pair
  rw [bodyM_eq]
  unfold B_is_pair
  simp
  cases h : isTup d 2 2 with
  | false =>
    have : isPair d fg mg ms = false := by
      unfold isPair
      split
      · simp [isTup] at h
      · rfl
    simp [this]
  | true =>
    obtain ⟨a, b, rfl⟩ := isTup2_pair h
    simp [isPair]
    cases numIn a fg mg <;> simp
@[simp] theorem c_is_pair {d : D} {a b c : Int} {Γ : Ge} : callM M_is_pair [.d d, .d (.int a), .d (.int b), .d (.int c)] Γ = .ok (.d (.bool (isPair d a b c))) Γ := callM_d (rs := [.d d, .d (.int a), .d (.int b), .d (.int c)]) rfl (is_pair_eq d a b c)
def nums (d : D) (lo hi : Int) : Bool := match d with
  | .tuple xs => xs.all fun d => numIn d lo hi
  | _ => false
def isSetup (d : D) : Bool := match d with
  | .tuple [s, z, r, c] => isTup s 1 2 && nums s 1 5 && isSizes z && isPair r 1 3 4 && isPair c 0 2 2
  | _ => false
theorem is_setup_eq (d : D) : M_is_setup [.d d] = .ok (.d (.bool (isSetup d))) [.d d] := by
  unfold M_is_setup
  rw [bodyM_eq]
  unfold B_is_setup
  simp
  cases h : isTup d 4 4 with
  | false =>
    have : isSetup d = false := by
      unfold isSetup
      split
      · simp [isTup] at h
      · rfl
    simp [this]
  | true =>
    obtain ⟨xs, rfl, h1, h2⟩ := isTup_len h
    obtain ⟨s, z, r, c, rfl⟩ := len4 (xs := xs) (by omega)
    simp [isSetup]
    cases h3 : isTup s 1 2 with
    | false => simp
    | true =>
      obtain ⟨ys, rfl, h4, h5⟩ := isTup_len h3
      have hl : ys.length ≤ 1000 := by omega
      simp [hl, nums]
      cases (ys.all fun d => numIn d 1 5) <;> simp
      cases isSizes z <;> simp
      cases isPair r 1 3 4 <;> simp
@[simp] theorem c_is_setup {d : D} {Γ : Ge} : callM M_is_setup [.d d] Γ = .ok (.d (.bool (isSetup d))) Γ := callM_d (rs := [.d d]) rfl (is_setup_eq d)
end My
set_option maxRecDepth 100000
namespace My
open PySem L2 Ly
theorem asc_pair : ∀ {zs : List Int}, ascD (zs.map .int) = true ↔ zs.Pairwise (· < ·)
  | [] => by simp [ascD]
  | [x] => by simp [ascD]
  | x :: y :: r => by
    have ih := asc_pair (zs := y :: r)
    simp only [List.map_cons, ascD, Bool.and_eq_true, decide_eq_true_eq] at ih ⊢
    rw [ih]
    constructor
    · rintro ⟨h1, h2⟩
      refine List.pairwise_cons.mpr ⟨fun z hz => ?_, h2⟩
      rcases List.mem_cons.mp hz with e | hz
      · rw [e]; exact h1
      · exact Int.lt_trans h1 ((List.pairwise_cons.mp h2).1 z hz)
    · intro h
      obtain ⟨h1, h2⟩ := List.pairwise_cons.mp h
      exact ⟨h1 y (by simp), h2⟩
theorem distinct_le : ∀ zs : List Int, (distinct zs).length ≤ zs.length
  | [] => by simp [distinct]
  | x :: xs => by
    have := distinct_le xs
    unfold distinct
    split <;> simp <;> omega
theorem distinct_nodup : ∀ {zs : List Int}, (distinct zs).length = zs.length ↔ zs.Nodup
  | [] => by simp [distinct]
  | x :: xs => by
    have ih := distinct_nodup (zs := xs)
    have hl := distinct_le xs
    rw [List.nodup_cons, ← ih]
    by_cases h : x ∈ xs
    · simp [distinct, h]; omega
    · simp [distinct, h]
theorem asc_iff {zs : List Int} : ascD (zs.map .int) = true ↔ zs = sortI zs ∧ (distinct zs).length = zs.length := by
  rw [asc_pair, distinct_nodup]
  constructor
  · intro h
    exact ⟨sorted_uniq (sortI_perm zs).symm (h.imp fun {a b} q => Int.le_of_lt q) (sortI_sorted zs), h.imp fun {a b} q => Int.ne_of_lt q⟩
  · rintro ⟨h1, h2⟩
    have h3 := sortI_sorted zs
    rw [← h1] at h3
    refine (List.Pairwise.and h3 h2).imp fun {a b} q => ?_
    have q1 := q.1
    have q2 : a ≠ b := q.2
    show a < b
    omega
theorem nums_ints {ns : List Int} {lo hi : Int} : ((ns.map PyData.int).all fun d => numIn d lo hi) = true ↔ ∀ n ∈ ns, lo ≤ n ∧ n ≤ hi := by
  simp [numIn]
def partOk (d : D) : Bool := match d with
  | .tuple ys => decide (ys.length ≤ 3) && ys.all fun d => numIn d 0 5
  | _ => false
theorem setup_iff {ns zs rs cs : List Int} (hn : ∀ n ∈ ns, 0 ≤ n ∧ n ≤ 5) (hz : ∀ n ∈ zs, 0 ≤ n ∧ n ≤ 5) (hz3 : zs.length ≤ 3) (hr : ∀ n ∈ rs, 0 ≤ n ∧ n ≤ 5) (hc : ∀ n ∈ cs, 0 ≤ n ∧ n ≤ 5) : isSetup (.tuple [.tuple (ns.map .int), .tuple (zs.map .int), .tuple (rs.map .int), .tuple (cs.map .int)]) = true ↔
    (ns.length = 1 ∨ ns.length = 2) ∧ 0 ∉ ns ∧ zs ≠ [] ∧ 0 ∉ zs ∧ zs = sortI zs ∧ (distinct zs).length = zs.length ∧ (∃ a b, rs = [a, b] ∧ 1 ≤ a ∧ a ≤ 3 ∧ b ≤ 4) ∧ ∃ a b, cs = [a, b] ∧ a ≤ 2 ∧ b ≤ 2 := by
  have e1 : isTup (.tuple (ns.map .int)) 1 2 = true ↔ (ns.length = 1 ∨ ns.length = 2) := by simp [isTup]; omega
  have e2 : ∀ l : List Int, (∀ n ∈ l, 0 ≤ n ∧ n ≤ 5) → ((∀ n ∈ l, 1 ≤ n ∧ n ≤ 5) ↔ 0 ∉ l) := by
    intro l hl
    constructor
    · intro h h0
      have := (h 0 h0).1
      omega
    · intro h n hm
      have := hl n hm
      have : n ≠ 0 := fun e => h (e ▸ hm)
      omega
  have e3 : isSizes (.tuple (zs.map .int)) = true ↔ zs ≠ [] ∧ 0 ∉ zs ∧ zs = sortI zs ∧ (distinct zs).length = zs.length := by
    unfold isSizes
    rw [Bool.and_eq_true, Bool.and_eq_true, asc_iff, nums_ints, e2 zs hz, List.length_map]
    have : (decide (1 ≤ zs.length) && decide (zs.length ≤ 3)) = true ↔ zs ≠ [] := by
      rw [Bool.and_eq_true, decide_eq_true_eq, decide_eq_true_eq]
      cases zs <;> simp at hz3 ⊢
      omega
    rw [this]
    exact ⟨fun ⟨⟨a, b⟩, c⟩ => ⟨a, b, c⟩, fun ⟨a, b, c⟩ => ⟨⟨a, b⟩, c⟩⟩
  have e4 : ∀ (l : List Int) (f m s : Int), isPair (.tuple (l.map .int)) f m s = true ↔ ∃ a b, l = [a, b] ∧ (f ≤ a ∧ a ≤ m) ∧ 0 ≤ b ∧ b ≤ s := by
    intro l f m s
    match l with
    | [] => simp [isPair]
    | [a] => simp [isPair]
    | [a, b] =>
      simp [isPair, numIn]
      exact ⟨fun h => ⟨a, b, ⟨rfl, rfl⟩, h⟩, fun ⟨x, y, ⟨e1, e2⟩, h⟩ => by subst e1 e2; exact h⟩
    | a :: b :: c :: r => simp [isPair]
  have e5 : nums (.tuple (ns.map .int)) 1 5 = true ↔ 0 ∉ ns := nums_ints.trans (e2 ns hn)
  unfold isSetup
  rw [Bool.and_eq_true, Bool.and_eq_true, Bool.and_eq_true, Bool.and_eq_true, e1, e3, e4, e4, e5]
  constructor
  · rintro ⟨⟨⟨⟨a, b⟩, c⟩, x, y, d, q1, q2⟩, z, w, e, q3, q4⟩
    exact ⟨a, b, c.1, c.2.1, c.2.2.1, c.2.2.2, ⟨x, y, d, q1.1, q1.2, q2.2⟩, z, w, e, q3.2, q4.2⟩
  · rintro ⟨a, b, c1, c2, c3, c4, ⟨x, y, d, q1, q2, q3⟩, z, w, e, q4, q5⟩
    have h1 := hr y (by simp [d])
    have h2 := hc z (by simp [e])
    have h3 := hc w (by simp [e])
    exact ⟨⟨⟨⟨a, b⟩, c1, c2, c3, c4⟩, x, y, d, ⟨q1, q2⟩, h1.1, q3⟩, z, w, e, ⟨h2.1, q4⟩, h3.1, q5⟩
theorem setup_parts {s z r c : D} (h : isSetup (.tuple [s, z, r, c]) = true) : ([s, z, r, c].all partOk) = true := by
  have up : ∀ {d : D} {lo hi : Int}, 0 ≤ lo → hi ≤ 5 → numIn d lo hi = true → numIn d 0 5 = true := by
    intro d lo hi h1 h2 h3
    cases d <;> simp [numIn] at h3 ⊢
    omega
  unfold isSetup at h
  simp only [Bool.and_eq_true] at h
  obtain ⟨⟨⟨⟨h1, h2⟩, h3⟩, h4⟩, h5⟩ := h
  obtain ⟨xs, rfl, l1, l2⟩ := isTup_len h1
  have pr : ∀ {d : D} {f m s : Int}, 0 ≤ f → m ≤ 5 → s ≤ 5 → isPair d f m s = true → partOk d = true := by
    intro d f m s g1 g2 g3 h
    unfold isPair at h
    split at h
    · simp only [Bool.and_eq_true] at h
      simp [partOk, up g1 g2 h.1, up (Int.le_refl 0) g3 h.2]
    · cases h
  simp only [List.all_cons, List.all_nil, Bool.and_true, Bool.and_eq_true]
  refine ⟨?_, ?_, pr (by decide) (by decide) (by decide) h4, pr (by decide) (by decide) (by decide) h5⟩
  · unfold partOk
    rw [Bool.and_eq_true, decide_eq_true_eq]
    refine ⟨by omega, ?_⟩
    simp only [nums, List.all_eq_true] at h2 ⊢
    exact fun x hx => up (by decide) (by decide) (h2 x hx)
  · unfold isSizes at h3
    split at h3
    · simp only [Bool.and_eq_true, decide_eq_true_eq, List.all_eq_true] at h3
      unfold partOk
      rw [Bool.and_eq_true, decide_eq_true_eq, List.all_eq_true]
      exact ⟨h3.1.1.2, fun x hx => up (by decide) (by decide) (h3.1.2 x hx)⟩
    · cases h3
theorem part_ints {d : D} (h : partOk d = true) : ∃ ns : List Int, d = .tuple (ns.map .int) ∧ ns.length ≤ 3 ∧ ∀ n ∈ ns, 0 ≤ n ∧ n ≤ 5 := by
  cases d <;> first
    | (simp [partOk] at h; done)
    | skip
  rename_i ys
  unfold partOk at h
  rw [Bool.and_eq_true, decide_eq_true_eq] at h
  obtain ⟨ns, e, hn⟩ := ints_of_nums h.2
  subst e
  exact ⟨ns, rfl, by simpa using h.1, hn⟩
end My
set_option maxRecDepth 100000
namespace My
open PySem L2 Ly
/-! draws: cells to lists of numbers below 2520 -/
def DrOk (ds : List Int) : Prop := ∀ x ∈ ds, 0 ≤ x ∧ x < 2520
theorem draws_ok {c : Int} {n : Nat} (hn : n ≤ 100) : ∃ ds : List Int, M_law_draws [.d (.int c), .d (.int n)] = .ok (.l (ds.map .int)) [.d (.int c), .d (.int n)] ∧ ds.length = n ∧ DrOk ds := by
  have p1 : CPow 10 18 := by unfold CPow; decide
  have p2 : CPow 10 40 := by unfold CPow; decide
  have r1 := Int.emod_nonneg c (show (10000000000000000000000000000000000000121 : Int) ≠ 0 by decide)
  have r2 := Int.emod_lt_of_pos c (show (0 : Int) < 10000000000000000000000000000000000000121 by decide)
  unfold M_law_draws
  rw [bodyM_eq]
  unfold B_law_draws
  have hn' : (n : Int) < 4611686018427387904 := by omega
  simp [p1, p2, hn']
  generalize hB : loopF _ _ _ _ = L
  generalize hsd : c % 10000000000000000000000000000000000000121 = sd at *
  have wd : ∀ i : Int, i.natAbs < 2 ^ 200 → wideI i = true := fun i h => by
    unfold wideI
    rw [decide_eq_true_eq]
    exact Nat.lt_of_lt_of_le h (Nat.pow_le_pow_right (by omega) (by omega))
  have w1 : (wideI sd && wideI 48271) = true := by
    rw [wd sd (by omega), wd 48271 (by decide)]
    rfl
  have m1 : mulA (.int sd) (.int 48271) = some (.d (.int (sd * 48271))) := by
    rw [mulA_i, w1]
    simp
  obtain ⟨Γ', rfl, ds, rest, s5, s6, s7, n5, n6, n7, hl, hd, rfl⟩ := loop_of hB (fun i Γ => ∃ (ds : List Int) (rest : Int) (s5 s6 s7 : Sl), notB' s5 = true ∧ notB' s6 = true ∧ notB' s7 = true ∧ ds.length = i ∧ DrOk ds ∧ Γ = [.d (.int c), .d (.int n), .l (ds.map .int), .d (.int rest), .d (.int sd), s5, s6, s7]) ⟨[], _, _, _, _, rfl, rfl, rfl, rfl, fun x h => by simp at h, rfl⟩ (by
    rintro i d _ hi ⟨ds, rest, s5, s6, s7, n5, n6, n7, hl, hd, rfl⟩
    obtain ⟨k, hk, rfl⟩ : ∃ k : Nat, k < n ∧ d = .int k := by
      have := List.mem_of_getElem? hi
      simp only [rngD, List.mem_map, List.mem_range] at this
      obtain ⟨a, h1, rfl⟩ := this
      exact ⟨a, h1, by simp⟩
    have hi' : i < n := by
      have := (List.getElem?_eq_some_iff.mp hi).1
      simpa [rngD] using this
    have c1 : CMul ((k : Int) + 5) ((k : Int) + 5) := .inl ⟨by omega, by omega⟩
    have c2 : CMul (((k : Int) + 5) * ((k : Int) + 5)) 69621 := .inr ⟨by decide, by decide⟩
    have hm : ds.length < 1000000 := by omega
    simp [n5, n6, n7, m1, c1, c2, hm, -exists_and_left]
    generalize h6 : (sd * 48271 + ((k : Int) + 5) * ((k : Int) + 5) * 69621 + 1) % 2305843009213693951 = st
    have q1 := Int.emod_nonneg (sd * 48271 + ((k : Int) + 5) * ((k : Int) + 5) * 69621 + 1) (show (2305843009213693951 : Int) ≠ 0 by decide)
    have q2 := Int.emod_lt_of_pos (sd * 48271 + ((k : Int) + 5) * ((k : Int) + 5) * 69621 + 1) (show (0 : Int) < 2305843009213693951 by decide)
    rw [h6] at q1 q2
    have ws := wd st (by omega)
    have c3 : CMul 7 (k : Int) := .inl ⟨by omega, by omega⟩
    simp [ws, c3, n7, -exists_and_left]
    generalize (st * st + 7 * (k : Int)) % 2305843009213693921 / 64 = u
    have hu : 0 ≤ u % 2520 ∧ u % 2520 < 2520 := ⟨Int.emod_nonneg _ (by decide), Int.emod_lt_of_pos _ (by decide)⟩
    have hr : 0 ≤ rest % 2520 ∧ rest % 2520 < 2520 := ⟨Int.emod_nonneg _ (by decide), Int.emod_lt_of_pos _ (by decide)⟩
    have nx : ∀ x : Int, 0 ≤ x ∧ x < 2520 → DrOk (ds ++ [x]) := fun x hx y hy => by
      rcases List.mem_append.mp hy with h | h
      · exact hd y h
      · rw [List.mem_singleton.mp h]; exact hx
    by_cases h : 0 < rest
    · simp [h, hm, -exists_and_left]
      exact ⟨ds ++ [rest % 2520], _, _, _, _, rfl, rfl, rfl, by simp [hl], nx _ hr, by simp; exact ⟨rfl, rfl, rfl, rfl⟩⟩
    · simp [h, hm, -exists_and_left]
      exact ⟨ds ++ [u % 2520], _, _, _, _, rfl, rfl, rfl, by simp [hl], nx _ hu, by simp; exact ⟨rfl, rfl, rfl, rfl⟩⟩)
  exact ⟨ds, by simp, by simpa [rngD] using hl, hd⟩
end My
set_option maxRecDepth 100000
namespace My
open PySem L2 Ly
/-- a setup, by its numbers -/
def setD (ns zs : List Int) (g s mg ms : Int) : D := .tuple [.tuple (ns.map .int), .tuple (zs.map .int), .tuple [.int g, .int s], .tuple [.int mg, .int ms]]
structure SetOk (ns zs : List Int) (g s mg ms : Int) : Prop where
  n1 : 1 ≤ ns.length
  n2 : ns.length ≤ 2
  n : ∀ x ∈ ns, 1 ≤ x ∧ x ≤ 5
  z1 : 1 ≤ zs.length
  z3 : zs.length ≤ 3
  z : ∀ x ∈ zs, 1 ≤ x ∧ x ≤ 5
  g1 : 1 ≤ g
  g3 : g ≤ 3
  s0 : 0 ≤ s
  s4 : s ≤ 4
  mg0 : 0 ≤ mg
  mg2 : mg ≤ 2
  ms0 : 0 ≤ ms
  ms2 : ms ≤ 2
theorem pair_ints {d : D} {f m s : Int} (h : isPair d f m s = true) : ∃ a b, d = .tuple [.int a, .int b] ∧ f ≤ a ∧ a ≤ m ∧ 0 ≤ b ∧ b ≤ s := by
  unfold isPair at h
  split at h
  · rename_i x y
    cases x <;> cases y <;> first
      | (simp [numIn] at h; done)
      | skip
    rename_i a b
    simp [numIn] at h
    exact ⟨a, b, rfl, h.1.1, h.1.2, h.2.1, h.2.2⟩
  · cases h
theorem setup_ints {d : D} (h : isSetup d = true) : ∃ ns zs g s mg ms, d = setD ns zs g s mg ms ∧ SetOk ns zs g s mg ms := by
  unfold isSetup at h
  split at h
  · simp only [Bool.and_eq_true] at h
    obtain ⟨⟨⟨⟨h1, h2⟩, h3⟩, h4⟩, h5⟩ := h
    obtain ⟨xs, rfl, l1, l2⟩ := isTup_len h1
    obtain ⟨ns, rfl, hn⟩ := ints_of_nums (xs := xs) (lo := 1) (hi := 5) h2
    obtain ⟨g, s, rfl, g1, g3, s0, s4⟩ := pair_ints h4
    obtain ⟨mg, ms, rfl, m1, m2, m3, m4⟩ := pair_ints h5
    unfold isSizes at h3
    split at h3
    · simp only [Bool.and_eq_true, decide_eq_true_eq] at h3
      obtain ⟨zs, rfl, hz⟩ := ints_of_nums h3.1.2
      rw [List.length_map] at l1 l2
      have := h3.1.1
      rw [List.length_map] at this
      exact ⟨ns, zs, g, s, mg, ms, rfl, ⟨by omega, by omega, hn, this.1, this.2, hz, g1, g3, s0, s4, m1, m2, m3, m4⟩⟩
    · cases h3
  · cases h
/-- comers, by their numbers -/
def comD (c : List Int × Int) : D := .tuple [.tuple (c.1.map .int), .int c.2]
def ComOk (zs : List Int) (mg ms : Int) (c : List Int × Int) : Prop := (c.1.length : Int) ≤ mg ∧ (∀ x ∈ c.1, x ∈ zs) ∧ 0 ≤ c.2 ∧ c.2 ≤ ms

theorem cut_map {ns : List Int} {a b : Nat} : cutD (ns.map PyData.int) (some (a : Int)) (some (b : Int)) = ((ns.drop (min a ns.length)).take (min b ns.length - min a ns.length)).map PyData.int := by
  unfold cutD
  rw [HT.sIx_nat, HT.sIx_nat, List.length_map, List.map_take, List.map_drop]
theorem cut_map' {ns : List Int} {i j : Int} (a b : Nat) (ha : i = a) (hb : j = b) : cutD (ns.map PyData.int) (some i) (some j) = ((ns.drop (min a ns.length)).take (min b ns.length - min a ns.length)).map PyData.int := by
  rw [ha, hb, cut_map]
theorem DrOk.sub {ds es : List Int} (h : DrOk ds) (hs : ∀ x ∈ es, x ∈ ds) : DrOk es := fun x hx => h x (hs x hx)
theorem draws_at {c m : Int} (n : Nat) (hm : m = n) (hn : n ≤ 100 := by decide) : ∃ ds : List Int, (∀ Γ, callM M_law_draws [.d (.int c), .d (.int m)] Γ = .ok (.l (ds.map .int)) Γ) ∧ ds.length = n ∧ DrOk ds := by
  subst hm
  obtain ⟨ds, h1, h2, h3⟩ := draws_ok (c := c) hn
  exact ⟨ds, fun Γ => callM_l (rs := [.d (.int c), .d (.int n)]) rfl h1, h2, h3⟩
theorem pop_at_map {zs : List Int} {k : Nat} (h : k < zs.length) (h2 : k < 1000000) : popAtM (zs.map PyData.int) [.int k] = some ((zs.eraseIdx k).map .int, .int zs[k]) := by
  show (if 0 ≤ (k : Int) ∧ (k : Int) < ((zs.map PyData.int).length : Int) ∧ (k : Int) < 1000000 then _ else none) = _
  rw [if_pos ⟨by omega, by simp; omega, by omega⟩, Int.toNat_natCast, List.getElem?_map, List.getElem?_eq_getElem h]
  simp
  rw [List.eraseIdx_eq_take_drop_succ, List.eraseIdx_eq_take_drop_succ, List.map_append, List.map_take, List.map_drop]
theorem law_setup_ok {ds : List Int} (hl : ds.length = 12) (hd : DrOk ds) : ∃ ns zs g s mg ms, (∀ Γ, callM M_law_setup [.d (.list (ds.map .int))] Γ = .ok (.d (setD ns zs g s mg ms)) Γ) ∧ SetOk ns zs g s mg ms ∧ isSetup (setD ns zs g s mg ms) = true := by
  suffices h : ∃ d, M_law_setup [.d (.list (ds.map .int))] = .ok (.d d) [.d (.list (ds.map .int))] ∧ isSetup d = true by
    obtain ⟨d, h1, h2⟩ := h
    obtain ⟨ns, zs, g, s, mg, ms, rfl, h3⟩ := setup_ints h2
    exact ⟨ns, zs, g, s, mg, ms, fun Γ => callM_d (rs := [.d (.list (ds.map .int))]) rfl h1, h3, h2⟩
  unfold M_law_setup
  rw [bodyM_eq]
  unfold B_law_setup
  have g0 := hd (ds[0]'(by omega)) (List.getElem_mem _)
  simp [hl, plainAt, wipeG]
  generalize hd0 : ds[0]'(by omega) = d0 at *
  rw [cut_map' (i := 1) (j := 2 + d0 % 2) 1 (2 + d0 % 2).toNat rfl (by omega)]
  generalize he : ((ds.drop (min 1 ds.length)).take (min (2 + d0 % 2).toNat ds.length - min 1 ds.length)) = es
  have hes : ∀ x ∈ es, x ∈ ds := fun x hx => by
    rw [← he] at hx
    exact List.mem_of_mem_drop (List.mem_of_mem_take hx)
  have hel : es.length = (1 + d0 % 2).toNat := by
    rw [← he, List.length_take, List.length_drop, hl]
    omega
  generalize hB : lcLoop _ _ _ _ _ _ _ = L
  obtain ⟨xs, Γ', rfl, rfl, hxl, hP⟩ := lc_of hB (fun Γ => Γ = [.d (.list (ds.map .int)), .un, .un, .un, .un]) (fun d => numIn d 1 5 = true) (by simp; omega) (fun _ h => by simp at h) rfl (by
    rintro d hd _ rfl
    obtain ⟨x, hx, rfl⟩ := List.mem_map.mp hd
    simp [wipeG, yesB, numIn]
    omega)
  have x0 : ds[0]? = some d0 := by rw [← hd0]; exact List.getElem?_eq_getElem (by omega)
  obtain ⟨d8, x8⟩ : ∃ y, ds[8]? = some y := ⟨_, List.getElem?_eq_getElem (by omega)⟩
  obtain ⟨d9, x9⟩ : ∃ y, ds[9]? = some y := ⟨_, List.getElem?_eq_getElem (by omega)⟩
  obtain ⟨d10, x10⟩ : ∃ y, ds[10]? = some y := ⟨_, List.getElem?_eq_getElem (by omega)⟩
  obtain ⟨d11, x11⟩ : ∃ y, ds[11]? = some y := ⟨_, List.getElem?_eq_getElem (by omega)⟩
  simp [restG, x0]
  generalize hq : d0 / 2 % 3 = q at *
  have hq1 : 0 ≤ q ∧ q < 3 := by omega
  rw [cut_map' (i := 3) (j := 7 - q) 3 (7 - q).toNat rfl (by omega)]
  generalize he : ((ds.drop (min 3 ds.length)).take (min (7 - q).toNat ds.length - min 3 ds.length)) = fs
  have hfs : ∀ x ∈ fs, 0 ≤ x := fun x hx => by
    rw [← he] at hx
    exact (hd x (List.mem_of_mem_drop (List.mem_of_mem_take hx))).1
  have hfl : fs.length = (4 - q).toNat := by
    rw [← he, List.length_take, List.length_drop, hl]
    omega
  generalize hB : loopF _ _ _ _ = L
  obtain ⟨Γ', rfl, zs, s3, n3, z1, z2, z3, rfl⟩ := loop_of hB (fun i Γ => ∃ (zs : List Int) (s3 : Sl), notB' s3 = true ∧ zs.length = 5 - i ∧ zs.Pairwise (· < ·) ∧ (∀ z ∈ zs, 1 ≤ z ∧ z ≤ 5) ∧ Γ = [.d (.list (ds.map .int)), .d (.tuple xs), .l (zs.map .int), s3, .un]) ⟨[1, 2, 3, 4, 5], .un, rfl, rfl, by decide, by decide, rfl⟩ (by
    rintro i d _ hi ⟨zs, s3, n3, z1, z2, z3, rfl⟩
    have hi' := (List.getElem?_eq_some_iff.mp hi).1
    rw [List.length_map, hfl] at hi'
    obtain ⟨x, hx, rfl⟩ := List.mem_map.mp (List.mem_of_getElem? hi)
    have hp := hfs x hx
    have hz : (0 : Int) < zs.length := by omega
    have r1 := Int.emod_nonneg x (show (zs.length : Int) ≠ 0 by omega)
    have r2 := Int.emod_lt_of_pos x hz
    obtain ⟨k, hk⟩ : ∃ k : Nat, x % (zs.length : Int) = k := ⟨(x % (zs.length : Int)).toNat, by omega⟩
    have hk2 : k < zs.length := by omega
    simp [n3, show 0 < zs.length by omega, hk, -exists_and_left]
    rw [pop_at_map (by omega) (by omega)]
    simp [-exists_and_left]
    refine ⟨zs.eraseIdx k, .d (.int x), rfl, ?_, z2.sublist (List.eraseIdx_sublist _ _), fun z hz => z3 z ((List.eraseIdx_sublist _ _).subset hz), rfl, rfl⟩
    rw [List.length_eraseIdx_of_lt hk2]
    omega)
  rw [List.length_map, hfl] at z1
  simp [x8, x9, x10, x11, n3]
  have s1 : isTup (.tuple xs) 1 2 = true := by
    simp [hel] at hxl
    simp [isTup, hxl]
    omega
  have s2 : nums (.tuple xs) 1 5 = true := by
    show (xs.all fun d => numIn d 1 5) = true
    rw [List.all_eq_true]
    exact hP
  have s3 : isSizes (.tuple (zs.map .int)) = true := by
    unfold isSizes
    rw [Bool.and_eq_true, Bool.and_eq_true, Bool.and_eq_true, asc_pair, nums_ints, List.length_map, decide_eq_true_eq, decide_eq_true_eq]
    exact ⟨⟨⟨by omega, by omega⟩, z3⟩, z2⟩
  simp [isSetup, s1, s2, s3, isPair, numIn]
  omega
end My
set_option maxRecDepth 100000
namespace My
open PySem L2 Ly TL
def Sm (i : Int) : Prop := 0 ≤ i ∧ i ≤ 9
/-! texts of numbers from 0 to 9 -/
def num (i : Int) : Str := Str.ofString i.repr
theorem tl_num1 {i : Int} (h : Sm i) : tl (num i) = [48 + i.toNat] := by
  obtain ⟨n, rfl⟩ := Int.eq_ofNat_of_zero_le h.1
  have h9 := h.2
  show tl (Str.ofString (toString ((n : Nat) : Int))) = _
  rw [tl_num, numL_lt (by omega)]
  simp
theorem num_len {i : Int} (h : Sm i) : (num i).length = 1 := by rw [len_tl, tl_num1 h]; rfl
theorem sm_log {i : Int} (h : Sm i) : i.natAbs.log2 < 1920 := by
  obtain ⟨h1, h2⟩ := h
  by_cases hz : i.natAbs = 0
  · rw [hz]; decide
  · exact Nat.lt_of_lt_of_le ((Nat.log2_lt hz (k := 10)).mpr (by omega)) (by decide)
theorem empty_append (x : Str) : Str.empty ++ x = x := ext_tl (by rw [tl_append]; rfl)
theorem append_len (x y : Str) : (x ++ y).length = x.length + y.length := Str.length_append x y
theorem join_len (sep : Str) (xs : List Str) : (Txt.join sep xs).length ≤ (xs.map (·.length)).sum + xs.length * sep.length := by
  rw [join_eq]
  exact StrLaws.join_length_le sep xs
@[simp] theorem plus_len : (Str.ofString "+").length = 1 := by decide +kernel
@[simp] theorem dash_len : (Str.ofString "-").length = 1 := by decide +kernel
@[simp] theorem blank_len : (Str.ofString " ").length = 1 := by decide +kernel
@[simp] theorem nil_len : (Str.ofString "").length = 0 := by decide +kernel
theorem nums_sum : ∀ {gs : List Int}, (∀ x ∈ gs, Sm x) → ((gs.map num).map (·.length)).sum = gs.length
  | [], _ => rfl
  | x :: gs, h => by
    have ih := nums_sum (gs := gs) fun y hy => h y (by simp [hy])
    simp only [List.map_cons, List.sum_cons, List.length_cons, num_len (h x (by simp)), ih]
    omega
theorem join_nums {gs : List Int} {sep : Str} (h : ∀ x ∈ gs, Sm x) (hl : gs.length ≤ 100) (hs : sep.length ≤ 2) : joinD sep (.list (gs.map fun x => PyData.str (num x))) = some (.d (.str (Txt.join sep (gs.map num)))) := by
  have e : (gs.map fun x => PyData.str (num x)) = (gs.map num).map .str := by simp
  rw [e, joinD_l]
  rw [nums_sum h, List.length_map]
  have : gs.length * sep.length ≤ 100 * 2 := Nat.mul_le_mul hl hs
  omega
/-! the signs of the texts -/
theorem tl_blank : tl (" " : Str) = [32] := by rw [tl_ofString]; rfl
theorem tl_plus : tl ("+" : Str) = [43] := by rw [tl_ofString]; rfl
theorem tl_dash : tl ("-" : Str) = [45] := by rw [tl_ofString]; rfl
theorem tl_none : tl ("" : Str) = [] := by rw [tl_ofString]; rfl
def sg (i : Int) : Nat := 48 + i.toNat
theorem join_sgs : ∀ gs : List Int, joinL [] (gs.map fun x => [sg x]) = gs.map sg
  | [] => rfl
  | [x] => rfl
  | x :: y :: r => by
    show [sg x] ++ ([] ++ joinL [] ((y :: r).map fun x => [sg x])) = _
    rw [join_sgs (y :: r)]
    rfl
theorem sg_inj {i j : Int} (hi : Sm i) (hj : Sm j) (h : sg i = sg j) : i = j := by
  unfold sg at h
  have := hi.1
  have := hj.1
  omega
theorem sgs_inj : ∀ {gs hs : List Int}, (∀ x ∈ gs, Sm x) → (∀ x ∈ hs, Sm x) → gs.map sg = hs.map sg → gs = hs
  | [], [], _, _, _ => rfl
  | [], _ :: _, _, _, h => by cases h
  | _ :: _, [], _, _, h => by cases h
  | x :: gs, y :: hs, h1, h2, h => by
    simp only [List.map_cons, List.cons.injEq] at h
    rw [sg_inj (h1 x (by simp)) (h2 y (by simp)) h.1, sgs_inj (fun z hz => h1 z (by simp [hz])) (fun z hz => h2 z (by simp [hz])) h.2]
def SOk (x : Str) : Prop := ∀ n ∈ tl x, n < 200
theorem sok_shape {x : Str} (h : SOk x) : SeqAt.shaped (.str x) = true := by
  have q : x.cps.all (fun c => decide (c < 0x110000)) = true := by
    rw [← Array.all_toList, List.all_eq_true]
    intro n hn
    have := h n hn
    simp
    omega
  simp only [SeqAt.shaped, PyData.canLay0, PyData.depth, Bool.and_eq_true, decide_eq_true_eq]
  exact ⟨q, by simp [PyData.depth]⟩
theorem mem_joinL {S : List Nat} {n : Nat} : ∀ {ps : List (List Nat)}, n ∈ joinL S ps → n ∈ S ∨ ∃ p ∈ ps, n ∈ p
  | [], h => by simp [joinL] at h
  | [p], h => .inr ⟨p, by simp, h⟩
  | p :: q :: r, h => by
    have h : n ∈ p ++ (S ++ joinL S (q :: r)) := h
    rcases List.mem_append.mp h with h | h
    · exact .inr ⟨p, by simp, h⟩
    · rcases List.mem_append.mp h with h | h
      · exact .inl h
      · rcases mem_joinL h with h | ⟨z, hz, h⟩
        · exact .inl h
        · exact .inr ⟨z, by simp at hz ⊢; exact .inr hz, h⟩
theorem sok_join {sep : Str} {xs : List Str} (hs : SOk sep) (h : ∀ x ∈ xs, SOk x) : SOk (Txt.join sep xs) := fun n hn => by
  rw [join_eq, tl_join] at hn
  rcases mem_joinL hn with q | ⟨p, hp, q⟩
  · exact hs n q
  · obtain ⟨x, hx, rfl⟩ := List.mem_map.mp hp
    exact h x hx n q
theorem sok_append {x y : Str} (hx : SOk x) (hy : SOk y) : SOk (x ++ y) := fun n hn => by
  rw [tl_append] at hn
  rcases List.mem_append.mp hn with q | q
  · exact hx n q
  · exact hy n q
theorem sok_lit {s : String} (h : (s.toList.map Char.toNat).all (· < 200) = true) : SOk (Str.ofString s) := fun n hn => by
  rw [tl_ofString] at hn
  have := List.all_eq_true.mp h n hn
  simpa using this
theorem sok_num {i : Int} (h : Sm i) : SOk (num i) := fun n hn => by
  rw [tl_num1 h] at hn
  have := h.2
  have := h.1
  have q := List.mem_singleton.mp hn
  omega
theorem eq_texts {x y : Str} (hx : SOk x) (hy : SOk y) : eqD (.str x) (.str y) = some (.d (.bool (decide (x = y)))) := by
  rw [eqD_sh (sok_shape hx) (sok_shape hy)]
  simp [PyData.eqv]
  rfl
theorem ne_texts {x y : Str} (hx : SOk x) (hy : SOk y) : neD (.str x) (.str y) = some (.d (.bool (!decide (x = y)))) := by
  rw [neD_sh (sok_shape hx) (sok_shape hy)]
  simp [PyData.eqv]
  rfl
theorem datsT_map {α : Type} {key : α → Str} {val : α → D} : ∀ xs : List α, datsT (xs.map fun x => (PyData.str (key x), T.d (val x))) = some (xs.map fun x => (PyData.str (key x), val x))
  | [] => rfl
  | x :: xs => by
    rw [List.map_cons]
    unfold datsT
    rw [datsT_map xs]
    rfl
end My
set_option maxRecDepth 100000
namespace My
open PySem L2 Ly TL
/-! a reader of words -/
def rdF (ws : List Str) (k : Int) : List (Str × T) := [(("words" : Str), .d (.list (ws.map .str))), (("at" : Str), .d (.int k))]
def rd (ws : List Str) (k : Int) : T := .i ("Reader" : Str) (rdF ws k)
theorem q_ww : (Str.ofString "words" == Str.ofString "words") = true := by decide +kernel
theorem q_aw : (Str.ofString "at" == Str.ofString "words") = false := by decide +kernel
theorem q_aa : (Str.ofString "at" == Str.ofString "at") = true := by decide +kernel
theorem q_hw : (Str.ofString "has_more" == Str.ofString "words") = false := by decide +kernel
theorem q_ha : (Str.ofString "has_more" == Str.ofString "at") = false := by decide +kernel
theorem q_tw : (Str.ofString "take" == Str.ofString "words") = false := by decide +kernel
theorem q_ta : (Str.ofString "take" == Str.ofString "at") = false := by decide +kernel
theorem n_wa : ¬ Str.ofString "words" = Str.ofString "at" := by decide +kernel
@[simp] theorem lk_w {ws : List Str} {k : Int} : (rdF ws k).lookup (Str.ofString "words") = some (.d (.list (ws.map .str))) := by
  unfold rdF
  rw [List.lookup_cons, q_ww]
@[simp] theorem lk_a {ws : List Str} {k : Int} : (rdF ws k).lookup (Str.ofString "at") = some (.d (.int k)) := by
  unfold rdF
  rw [List.lookup_cons, q_aw, List.lookup_cons, q_aa]
@[simp] theorem lk_h {ws : List Str} {k : Int} : (rdF ws k).lookup (Str.ofString "has_more") = none := by
  unfold rdF
  rw [List.lookup_cons, q_hw, List.lookup_cons, q_ha]
  rfl
@[simp] theorem lk_t {ws : List Str} {k : Int} : (rdF ws k).lookup (Str.ofString "take") = none := by
  unfold rdF
  rw [List.lookup_cons, q_tw, List.lookup_cons, q_ta]
  rfl
@[simp] theorem rd_len {ws : List Str} {k : Int} : (rdF ws k).length = 2 := rfl
@[simp] theorem put_at {ws : List Str} {k j : Int} : putA (Str.ofString "at") (.d (.int j)) (rdF ws k) = rdF ws j := by
  unfold rdF putA
  rw [if_neg n_wa]
  unfold putA
  rw [if_pos rfl]
theorem call_o0 {M : FM} {Γ qs : Ge} {i : Nat} {t t' : T} {x : D} (hi : Γ[i]? = some (.o t)) (e : M [.p t] = .ok (.d x) (.p t' :: qs)) : callM M [.s i] Γ = .ok (.d x) (Γ.set i (.o t')) := by
  unfold callM bparams
  rw [hi]
  simp [bparams, slotsOf, e, wback, putT, hi]
theorem call_p0 {M : FM} {Γ qs : Ge} {i : Nat} {t t' : T} {x : D} (hi : Γ[i]? = some (.p t)) (e : M [.p t] = .ok (.d x) (.p t' :: qs)) : callM M [.s i] Γ = .ok (.d x) (Γ.set i (.p t')) := by
  unfold callM bparams
  rw [hi]
  simp [bparams, slotsOf, e, wback, putT, hi]
theorem call_o1 {M : FM} {Γ qs : Ge} {i : Nat} {t t' : T} {x y : D} {s : Sl} (hi : Γ[i]? = some (.o t)) (e : M [.p t, .d y] = .ok (.d x) (.p t' :: s :: qs)) : callM M [.s i, .d y] Γ = .ok (.d x) (Γ.set i (.o t')) := by
  unfold callM bparams
  rw [hi]
  simp [bparams, slotsOf, e, wback, putT, hi]
theorem call_p1 {M : FM} {Γ qs : Ge} {i : Nat} {t t' : T} {x y : D} {s : Sl} (hi : Γ[i]? = some (.p t)) (e : M [.p t, .d y] = .ok (.d x) (.p t' :: s :: qs)) : callM M [.s i, .d y] Γ = .ok (.d x) (Γ.set i (.p t')) := by
  unfold callM bparams
  rw [hi]
  simp [bparams, slotsOf, e, wback, putT, hi]
theorem has_more_ok {ws : List Str} {k : Int} : M_Reader_has_more [.p (rd ws k)] = .ok (.d (.bool (decide (k < ws.length)))) [.p (rd ws k)] := by
  unfold M_Reader_has_more
  rw [bodyM_eq]
  unfold B_Reader_has_more
  simp [rd]
theorem init_ok {text : Str} (h : text.length + 2 < 1000000) : M_Readerq__initq_ [.p (.i ("Reader" : Str) []), .d (.str text)] = .ok (.d .none) [.p (rd (Txt.split text (" " : Str)) 0), .d (.str text)] := by
  unfold M_Readerq__initq_
  rw [bodyM_eq]
  unfold B_Readerq__initq_
  simp [h, putA, n_wa, rd, rdF]
theorem take_ok {ws : List Str} {k : Nat} {c z v : D} {r : List (D × D)} (hk : k < ws.length) (hc : kindK c = 1) (hv : lookD ((c, z) :: r) (.text ws[k]) = some v) : M_Reader_take [.p (rd ws k), .d (.dict ((c, z) :: r))] = .ok (.d v) [.p (rd ws (k + 1)), .d (.dict ((c, z) :: r))] := by
  have hm : ∀ (s : Sl), callM M_Reader_has_more [.s 0] [.p (rd ws k), s] = .ok (.d (.bool true)) [.p (rd ws k), s] := fun s => by
    rw [call_p0 (t := rd ws k) (t' := rd ws k) (x := .bool true) (qs := []) rfl (by rw [has_more_ok]; simp [hk])]
    rfl
  have g1 : getDD (.dict ((c, z) :: r)) (.str ws[k]) = some (.d v) := by
    show (if _ then _ else _) = _
    rw [if_pos ⟨by simp [NestedKey.depth], hc.trans rfl, by simp [kindK]⟩, hv]
    rfl
  have g2 : inDD true (.str ws[k]) (.dict ((c, z) :: r)) = some (.d (.bool false)) := by
    show (if _ then _ else _) = _
    rw [if_pos ⟨by simp [NestedKey.depth], hc.trans rfl, by simp [kindK]⟩, hv]
    rfl
  unfold M_Reader_take
  rw [bodyM_eq]
  unfold B_Reader_take
  unfold rd at hm ⊢
  generalize hD : PyData.dict ((c, z) :: r) = DD at *
  simp [hm, hk, g1, g2]
end My
set_option maxRecDepth 100000
namespace My
open PySem L2 Ly TL
/-! a dict by a comprehension -/
theorem dc_fn {α : Type} {g : GF} {u : BF} {fk fv : EF} {vs : List Nat} {Γw : Ge} {φ val : α → D} {key : α → Str} : ∀ {xs : List α} {acc : List (D × T)} (_ : acc.length + xs.length < 900000) (_ : (xs.map key).Nodup) (_ : ∀ x ∈ xs, hasKT acc (.text (key x)) = false)
    (_ : ∀ x ∈ xs, ∃ Γ1 Γ2 Γ3, g (.d (φ x)) Γw = .ok () Γ1 ∧ u Γ1 = .ok true Γ1 ∧ fk Γ1 = .ok (.d (.str (key x))) Γ2 ∧ fv Γ2 = .ok (.d (val x)) Γ3 ∧ wipeG Γ3 vs = Γw), dcLoop g u fk fv vs (xs.map φ) acc Γw = .ok (acc ++ xs.map fun x => (.str (key x), .d (val x))) Γw
  | [], acc, _, _, _, _ => by simp [dcLoop]
  | x :: xs, acc, hl, hn, ha, h => by
    obtain ⟨Γ1, Γ2, Γ3, h1, h2, h3, h4, h5⟩ := h x (by simp)
    rw [List.length_cons] at hl
    simp only [List.map_cons, List.nodup_cons] at hn
    rw [List.map_cons]
    unfold dcLoop
    rw [h1]
    dsimp only
    rw [h2]
    dsimp only
    rw [h3]
    dsimp only
    rw [show keyD (.str (key x)) = some (.inr (key x)) from rfl]
    dsimp only
    rw [h4]
    dsimp only
    rw [if_pos (by omega), h5]
    have e : putKT acc (nkK (.inr (key x))) (kD (.inr (key x))) (.d (val x)) = acc ++ [(.str (key x), .d (val x))] := by
      unfold putKT
      rw [show nkK (.inr (key x)) = .text (key x) from rfl, ha x (by simp)]
      rfl
    rw [e, dc_fn (xs := xs) (by simp; omega) hn.2 (fun y hy => ?_) fun y hy => h y (by simp [hy])]
    · simp
    · unfold hasKT
      rw [List.any_append]
      have q := ha y (by simp [hy])
      unfold hasKT at q
      rw [q]
      have ne : key x ≠ key y := fun z => hn.1 (by rw [z]; exact List.mem_map_of_mem hy)
      simp [nk, ne]
/-! while -/
theorem while_of {u : BF} {p : SF} (I : Nat → Ge → Prop) : ∀ {n i : Nat} {Γ : Ge} (_ : I i Γ) (_ : ∀ j Γ, i ≤ j → j < i + n → I j Γ → ∃ Γ1 Γ2, u Γ = .ok true Γ1 ∧ p Γ1 = .ok .nx Γ2 ∧ I (j + 1) Γ2) (_ : ∀ Γ, I (i + n) Γ → u Γ = .ok false Γ), ∃ Γ', whileF u p Γ = .ok .nx Γ' ∧ I (i + n) Γ' := by
  intro n i Γ h0 hs he
  suffices h : ∃ Γ', whileN u p (n + 1) Γ = .ok .nx Γ' ∧ I (i + n) Γ' by
    obtain ⟨Γ', h1, h2⟩ := h
    exact ⟨Γ', whileF_eq h1 (by intro q; cases q), h2⟩
  induction n generalizing i Γ with
  | zero =>
    refine ⟨Γ, ?_, h0⟩
    show ((u Γ).bind _) = _
    rw [he Γ h0]
    rfl
  | succ n ih =>
    obtain ⟨Γ1, Γ2, e1, e2, h1⟩ := hs i Γ (Nat.le_refl _) (by omega) h0
    obtain ⟨Γ', q1, q2⟩ := ih (i := i + 1) h1 (fun j Γ a b => hs j Γ (by omega) (by omega)) (fun Γ a => he Γ (by rwa [show i + (n + 1) = i + 1 + n by omega]))
    refine ⟨Γ', ?_, by rwa [show i + (n + 1) = i + 1 + n by omega]⟩
    show ((u Γ).bind fun b Γ1 => if b = true then (p Γ1).bind _ else Out.ok Fl.nx Γ1) = _
    rw [e1]
    show ((p Γ1).bind _) = _
    rw [e2]
    exact q1
theorem whileL_of {u : BF} {p : SF} {Γ : Ge} {L : Out Fl} (hW : whileF u p Γ = L) (n : Nat) (I : Nat → Ge → Prop) (h0 : I 0 Γ) (hs : ∀ j Γ, j < n → I j Γ → sat (u Γ) fun b Γ1 => b = true ∧ sat (p Γ1) fun fl Γ2 => fl = .nx ∧ I (j + 1) Γ2) (he : ∀ Γ, I n Γ → u Γ = .ok false Γ) : ∃ Γ', L = .ok .nx Γ' ∧ I n Γ' := by
  obtain ⟨Γ', q1, q2⟩ := while_of (u := u) (p := p) (n := n) (i := 0) I h0 (fun j Γ _ hj hi => by
    obtain ⟨b, Γ1, e1, rfl, h1⟩ := sat_iff.mp (hs j Γ (by omega) hi)
    obtain ⟨fl, Γ2, e2, rfl, h2⟩ := sat_iff.mp h1
    exact ⟨Γ1, Γ2, e1, e2, h2⟩) (fun Γ hi => he Γ (by rwa [Nat.zero_add] at hi))
  rw [Nat.zero_add] at q2
  exact ⟨Γ', by rw [← hW, q1], q2⟩
end My
set_option maxRecDepth 100000
namespace My
open PySem L2 Ly TL
theorem q_kw : (Str.ofString "take_word" == Str.ofString "words") = false := by decide +kernel
theorem q_ka : (Str.ofString "take_word" == Str.ofString "at") = false := by decide +kernel
theorem q_iw : (Str.ofString "is_at" == Str.ofString "words") = false := by decide +kernel
theorem q_ia : (Str.ofString "is_at" == Str.ofString "at") = false := by decide +kernel
theorem q_ew : (Str.ofString "end" == Str.ofString "words") = false := by decide +kernel
theorem q_ea : (Str.ofString "end" == Str.ofString "at") = false := by decide +kernel
@[simp] theorem lk_tw {ws : List Str} {k : Int} : (rdF ws k).lookup (Str.ofString "take_word") = none := by
  unfold rdF
  rw [List.lookup_cons, q_kw, List.lookup_cons, q_ka]
  rfl
@[simp] theorem lk_ia {ws : List Str} {k : Int} : (rdF ws k).lookup (Str.ofString "is_at") = none := by
  unfold rdF
  rw [List.lookup_cons, q_iw, List.lookup_cons, q_ia]
  rfl
@[simp] theorem lk_en {ws : List Str} {k : Int} : (rdF ws k).lookup (Str.ofString "end") = none := by
  unfold rdF
  rw [List.lookup_cons, q_ew, List.lookup_cons, q_ea]
  rfl
theorem call_o3 {M : FM} {Γ qs : Ge} {i : Nat} {t t' : T} {x y z u : D} {s1 s2 s3 : Sl} (hi : Γ[i]? = some (.o t)) (e : M [.p t, .d y, .d z, .d u] = .ok (.d x) (.p t' :: s1 :: s2 :: s3 :: qs)) : callM M [.s i, .d y, .d z, .d u] Γ = .ok (.d x) (Γ.set i (.o t')) := by
  unfold callM bparams
  rw [hi]
  simp [bparams, slotsOf, e, wback, putT, hi]
theorem take_word_ok {ws : List Str} {k : Nat} {w : Str} (hk : ws[k]? = some w) : M_Reader_take_word [.p (rd ws k), .d (.str w)] = .ok (.d .none) [.p (rd ws (k + 1)), .d (.str w)] := by
  obtain ⟨hk2, rfl⟩ := List.getElem?_eq_some_iff.mp hk
  have ht := take_ok (ws := ws) (k := k) (c := .str ws[k]) (z := .none) (v := .none) (r := []) hk2 rfl (by simp [lookD, nk])
  have hc : ∀ G : Ge, G[0]? = some (.p (rd ws k)) → callM M_Reader_take [.s 0, .d (.dict [(.str ws[k], .none)])] G = .ok (.d .none) (G.set 0 (.p (rd ws (k + 1)))) := fun G hG => call_p1 hG ht
  have hd : disp1F 1 .none [.p (rd ws k), .d (.str ws[k])] = .ok (.d (.dict [(.str ws[k], .none)])) [.p (rd ws k), .d (.str ws[k])] := rfl
  have hc := hc [.p (rd ws k), .d (.str ws[k])] rfl
  unfold M_Reader_take_word
  rw [bodyM_eq]
  unfold B_Reader_take_word
  unfold rd at *
  simp [hd, hc]
theorem is_at_ok {ws : List Str} {k : Nat} {w x : Str} (hk : ws[k]? = some x) (hx : SOk x) (hw : SOk w) : M_Reader_is_at [.p (rd ws k), .d (.str w)] = .ok (.d (.bool (decide (x = w)))) [.p (rd ws k), .d (.str w)] := by
  obtain ⟨hk2, rfl⟩ := List.getElem?_eq_some_iff.mp hk
  have hm : callM M_Reader_has_more [.s 0] [.p (rd ws k), .d (.str w)] = .ok (.d (.bool true)) [.p (rd ws k), .d (.str w)] := by
    rw [call_p0 (t := rd ws k) (t' := rd ws k) (x := .bool true) (qs := []) rfl (by rw [has_more_ok]; simp [hk2])]
    rfl
  have he := eq_texts hx hw
  unfold M_Reader_is_at
  rw [bodyM_eq]
  unfold B_Reader_is_at
  unfold rd at *
  simp [hm, hk2, he]
theorem end_ok {ws : List Str} {k : Nat} (hk : ws.length ≤ k) : M_Reader_end [.p (rd ws k)] = .ok (.d .none) [.p (rd ws k)] := by
  have hm : callM M_Reader_has_more [.s 0] [.p (rd ws k)] = .ok (.d (.bool false)) [.p (rd ws k)] := by
    rw [call_p0 (t := rd ws k) (t' := rd ws k) (x := .bool false) (qs := []) rfl (by rw [has_more_ok]; simp; omega)]
    rfl
  unfold M_Reader_end
  rw [bodyM_eq]
  unfold B_Reader_end
  unfold rd at *
  simp [hm]
/-! digits -/
def dgL (lo hi : Int) : List Int := (List.range (hi + 1 - lo).toNat).map fun (k : Nat) => lo + k
def dgD (lo hi : Int) : D := .dict ((dgL lo hi).map fun n => (.str (num n), .int n))
theorem dg_mem {lo hi n : Int} : n ∈ dgL lo hi ↔ lo ≤ n ∧ n ≤ hi := by
  unfold dgL
  rw [List.mem_map]
  constructor
  · rintro ⟨k, hk, rfl⟩
    have := List.mem_range.mp hk
    omega
  · intro h
    exact ⟨(n - lo).toNat, List.mem_range.mpr (by omega), by omega⟩
theorem num_inj {i j : Int} (hi : Sm i) (hj : Sm j) (h : num i = num j) : i = j := by
  have e := congrArg tl h
  rw [tl_num1 hi, tl_num1 hj] at e
  have := hi.1
  have := hj.1
  simp at e
  omega
theorem nodup_nums : ∀ {xs : List Int}, xs.Nodup → (∀ x ∈ xs, Sm x) → (xs.map num).Nodup
  | [], _, _ => by simp
  | c :: cs, h, hc => by
    simp only [List.map_cons, List.nodup_cons] at h ⊢
    refine ⟨fun q => ?_, nodup_nums h.2 fun d hd => hc d (by simp [hd])⟩
    obtain ⟨d, hd, e⟩ := List.mem_map.mp q
    have := num_inj (hc d (by simp [hd])) (hc c (by simp)) e
    subst this
    exact h.1 hd
theorem look_num {xs : List Int} (hs : ∀ c ∈ xs, Sm c) {c : Int} (hc : c ∈ xs) : lookD (xs.map fun c => (PyData.str (num c), PyData.int c)) (.text (num c)) = some (.int c) := by
  induction xs with
  | nil => simp at hc
  | cons d cs ih =>
    unfold lookD
    rw [List.map_cons, List.find?_cons]
    by_cases e : num d = num c
    · have := num_inj (hs d (by simp)) (hs c hc) e
      subst this
      simp [nk]
    · have hc' : c ∈ cs := by
        rcases List.mem_cons.mp hc with rfl | h
        · exact absurd rfl e
        · exact h
      have := ih (fun c hc => hs c (by simp [hc])) hc'
      unfold lookD at this
      simp only [nk, Option.some.injEq, NestedKey.text.injEq, e, decide_false]
      exact this
theorem dg_nodup {lo hi : Int} : (dgL lo hi).Nodup := by
  unfold dgL
  refine List.Pairwise.map _ (R := fun a b => a ≠ b) (fun a b (h : a ≠ b) => ?_) (List.nodup_range (n := (hi + 1 - lo).toNat))
  intro q
  omega
theorem callM_o {M : FM} {rs : List R} {Γ ps qs : Ge} {x : T} (h : dps rs = some ps) (e : M ps = .ok (.o x) qs) : callM M rs Γ = .ok (.o x) Γ := by
  obtain ⟨h1, h2, h3⟩ := bparams_dps (Γ := Γ) h
  unfold callM
  rw [h1, h2]
  dsimp only
  rw [if_pos List.nodup_nil, e]
  dsimp only
  rw [h3]
theorem digits_ok {lo hi : Int} (h0 : 0 ≤ lo) (hlh : lo ≤ hi) (h9 : hi ≤ 9) {Γ : Ge} : (callM M_digits [.d (.int lo), .d (.int hi)] Γ).bind frz = .ok (.d (dgD lo hi)) Γ := by
  have hsm : ∀ x ∈ dgL lo hi, Sm x := fun x hx => by
    have := dg_mem.mp hx
    exact ⟨by omega, by omega⟩
  have hlen : (dgL lo hi).length ≤ 10 := by unfold dgL; simp; omega
  have hdc : dcLoop (gN 2) yesB (frzF (callN strC (argC (svar 2) argN))) (dvar 2) [2] ((dgL lo hi).map .int) [] [.d (.int lo), .d (.int hi), .un] = .ok ((dgL lo hi).map fun n => (.str (num n), .d (.int n))) [.d (.int lo), .d (.int hi), .un] := by
    rw [dc_fn (key := num) (val := .int) (by simp; omega) (nodup_nums dg_nodup hsm) (fun _ _ => rfl)]
    · simp
    · intro n hn
      have := sm_log (hsm n hn)
      exact ⟨[.d (.int lo), .d (.int hi), .d (.int n)], [.d (.int lo), .d (.int hi), .d (.int n)], [.d (.int lo), .d (.int hi), .d (.int n)], by simp, by simp [yesB], by simp [this, num], by simp, by simp [wipeG]⟩
  have hr : rngD lo (hi + 1 - lo).toNat = (dgL lo hi).map .int := by unfold dgL rngD; simp
  have hc : callM M_digits [.d (.int lo), .d (.int hi)] Γ = .ok (.o (.k ((dgL lo hi).map fun n => (.str (num n), .d (.int n))))) Γ := callM_o (rs := [.d (.int lo), .d (.int hi)]) rfl (qs := [.d (.int lo), .d (.int hi)]) (by
    unfold M_digits
    rw [bodyM_eq]
    unfold B_digits
    simp [dcF, hr, plainAt, wipeG, hdc, restG, show -4611686018427387904 ≤ lo by omega, show lo < 4611686018427387904 by omega, show -4611686018427387904 ≤ hi + 1 by omega, show hi + 1 < 4611686018427387904 by omega])
  have hdt : datT (.k ((dgL lo hi).map fun n => (PyData.str (num n), T.d (.int n)))) = some (dgD lo hi) := by
    unfold datT
    rw [datsT_map]
    rfl
  have hfz : frz (.o (.k ((dgL lo hi).map fun n => (PyData.str (num n), T.d (.int n))))) Γ = .ok (.d (dgD lo hi)) Γ := by
    show (match datT _ with | some d => Out.ok (R.d d) Γ | none => Out.no) = _
    rw [hdt]
  simp [hc, hfz]
end My
set_option maxRecDepth 100000
namespace My
open PySem L2 Ly TL
theorem take_num {ws : List Str} {k : Nat} {n lo hi : Int} (hk : ws[k]? = some (num n)) (h0 : 0 ≤ lo) (h9 : hi ≤ 9) (h1 : lo ≤ n) (h2 : n ≤ hi) : M_Reader_take [.p (rd ws k), .d (dgD lo hi)] = .ok (.d (.int n)) [.p (rd ws (k + 1)), .d (dgD lo hi)] := by
  obtain ⟨hk2, e⟩ := List.getElem?_eq_some_iff.mp hk
  have hsm : ∀ x ∈ dgL lo hi, Sm x := fun x hx => by
    have := dg_mem.mp hx
    exact ⟨by omega, by omega⟩
  have hm : n ∈ dgL lo hi := dg_mem.mpr ⟨h1, h2⟩
  have hl := look_num hsm hm
  unfold dgD
  cases hD : dgL lo hi with
  | nil => rw [hD] at hm; simp at hm
  | cons d ds =>
    rw [hD] at hl
    exact take_ok (ws := ws) (k := k) hk2 rfl (by rw [e]; exact hl)
theorem read_numbers_ok {ws : List Str} {p : Nat} {ns : List Int} {most : Int} {asc : Bool} {en : Str} (hw : ∀ i n, ns[i]? = some n → ws[p + i]? = some (num n)) (hen : ws[p + ns.length]? = some en) (hne : 0 < ns.length) (hm : (ns.length : Int) ≤ most) (hb : ∀ x ∈ ns, 1 ≤ x ∧ x ≤ 5) (hl : ns.length ≤ 5)
    (hasc : asc = true → ns.Pairwise (· < ·)) (hse : SOk en) (hno : ∀ x, Sm x → num x ≠ en) :
    M_read_numbers [.p (rd ws p), .d (.int most), .d (.bool asc), .d (.str en)] = .ok (.d (.tuple (ns.map .int))) [.p (rd ws (p + ns.length + 1)), .d (.int most), .d (.bool asc), .d (.str en)] := by
  have hsm : ∀ x ∈ ns, Sm x := fun x hx => by have := hb x hx; exact ⟨by omega, by omega⟩
  obtain ⟨n0, hn0⟩ : ∃ n0, ns[0]? = some n0 := ⟨_, List.getElem?_eq_getElem hne⟩
  have b0 := hb n0 (List.mem_of_getElem? hn0)
  have dg := fun (lo : Int) (h : 1 ≤ lo) (h2 : lo ≤ 5) Γ => digits_ok (lo := lo) (hi := 5) (by omega) h2 (by omega) (Γ := Γ)
  have dg1 := dg 1 (by omega) (by omega)
  have tk : ∀ (k : Nat) (n lo : Int) (s4 : Sl), ws[k]? = some (num n) → 1 ≤ lo → lo ≤ n → n ≤ 5 → callM M_Reader_take [.s 0, .d (dgD lo 5)] [.p (.i (Str.ofString "Reader") (rdF ws k)), .d (.int most), .d (.bool asc), .d (.str en), s4] = .ok (.d (.int n)) [.p (.i (Str.ofString "Reader") (rdF ws ((k : Int) + 1))), .d (.int most), .d (.bool asc), .d (.str en), s4] := fun k n lo s4 h h1 h2 h3 =>
    call_p1 (i := 0) (t := rd ws k) (t' := rd ws (k + 1)) rfl (take_num h (lo := lo) (hi := 5) (by omega) (by omega) h2 h3)
  have ia : ∀ (k : Nat) (w : Str) (s4 : Sl), ws[k]? = some w → SOk w → callM M_Reader_is_at [.s 0, .d (.str en)] [.p (.i (Str.ofString "Reader") (rdF ws k)), .d (.int most), .d (.bool asc), .d (.str en), s4] = .ok (.d (.bool (decide (w = en)))) [.p (.i (Str.ofString "Reader") (rdF ws k)), .d (.int most), .d (.bool asc), .d (.str en), s4] := fun k w s4 h hw =>
    call_p1 (i := 0) (t := rd ws k) (t' := rd ws k) rfl (is_at_ok h hw hse)
  have tw : ∀ (s4 : Sl), callM M_Reader_take_word [.s 0, .d (.str en)] [.p (.i (Str.ofString "Reader") (rdF ws ((p + ns.length : Nat) : Int))), .d (.int most), .d (.bool asc), .d (.str en), s4] = .ok (.d .none) [.p (.i (Str.ofString "Reader") (rdF ws (((p + ns.length : Nat) : Int) + 1))), .d (.int most), .d (.bool asc), .d (.str en), s4] := fun s4 =>
    call_p1 (i := 0) (t := rd ws ((p + ns.length : Nat) : Int)) (t' := rd ws (((p + ns.length : Nat) : Int) + 1)) rfl (take_word_ok hen)
  have tk0 := fun s4 => tk p n0 1 s4 (by have := hw 0 n0 hn0; rwa [Nat.add_zero] at this) (by omega) b0.1 b0.2
  unfold M_read_numbers
  rw [bodyM_eq]
  unfold B_read_numbers
  unfold rd
  simp [dg1, tk0]
  generalize hW : whileF _ _ _ = L
  obtain ⟨Γ', rfl, rfl⟩ := whileL_of hW (ns.length - 1) (fun j Γ => Γ = [.p (.i (Str.ofString "Reader") (rdF ws ((p + (j + 1) : Nat) : Int))), .d (.int most), .d (.bool asc), .d (.str en), .l ((ns.take (j + 1)).map .int)]) (by
      have : (ns.take 1).map PyData.int = [.int n0] := by
        cases ns with
        | nil => simp at hne
        | cons x r => simp at hn0; simp [hn0]
      simp [this]) (by
      rintro j _ hj rfl
      obtain ⟨x, hx⟩ : ∃ x, ns[j]? = some x := ⟨_, List.getElem?_eq_getElem (by omega)⟩
      obtain ⟨y, hy⟩ : ∃ y, ns[j + 1]? = some y := ⟨_, List.getElem?_eq_getElem (by omega)⟩
      have bx := hb x (List.mem_of_getElem? hx)
      have byy := hb y (List.mem_of_getElem? hy)
      have hwy := hw (j + 1) y hy
      have ia1 := fun s4 => ia (p + (j + 1)) (num y) s4 hwy (sok_num (hsm y (List.mem_of_getElem? hy)))
      have hne2 := hno y (hsm y (List.mem_of_getElem? hy))
      have hlen : ((ns.take (j + 1)).map PyData.int).length = j + 1 := by simp; omega
      have hlast : ((ns.take (j + 1)).map PyData.int).getLast? = some (.int x) := by
        rw [List.getLast?_eq_getElem?, hlen, List.getElem?_map, List.getElem?_take]
        simp [hx]
      have hnext : (ns.take (j + 1 + 1)).map PyData.int = (ns.take (j + 1)).map PyData.int ++ [.int y] := by
        rw [List.take_add_one (i := j + 1), hy]
        simp
      have hjm : (j : Int) + 1 < most := by omega
      have hsz : j + 1 < 1000000 := by omega
      have hxy : asc = true → x < y := fun h => by
        have := List.pairwise_iff_getElem.mp (hasc h) j (j + 1) (by omega) (by omega) (by omega)
        obtain ⟨_, e1⟩ := List.getElem?_eq_some_iff.mp hx
        obtain ⟨_, e2⟩ := List.getElem?_eq_some_iff.mp hy
        rw [e1, e2] at this
        exact this
      rw [hnext]
      generalize (ns.take (j + 1)).map PyData.int = Lj at *
      have e : ((p + (j + 1 + 1) : Nat) : Int) = ((p + (j + 1) : Nat) : Int) + 1 := by omega
      rw [e]
      cases asc with
      | true =>
        have hlt := hxy rfl
        have dg2 := dg (x + 1) (by omega) (by omega)
        have tk2 := fun s4 => tk (p + (j + 1)) y (x + 1) s4 hwy (by omega) (by omega) byy.2
        generalize ((p + (j + 1) : Nat) : Int) = q at *
        simp [hlen, hjm, ia1, hne2, hlast, dg2, tk2, hsz]
      | false =>
        have tk2 := fun s4 => tk (p + (j + 1)) y 1 s4 hwy (by omega) (by omega) byy.2
        generalize ((p + (j + 1) : Nat) : Int) = q at *
        simp [hlen, hjm, ia1, hne2, hlast, dg1, tk2, hsz])
      (by
      rintro _ rfl
      have hl1 : ns.length - 1 + 1 = ns.length := by omega
      rw [hl1]
      have ia2 := fun s4 => ia (p + ns.length) en s4 hen hse
      generalize ((p + ns.length : Nat) : Int) = q at *
      have ht : ns.take ns.length = ns := List.take_length
      rw [ht]
      by_cases hq : (ns.length : Int) < most
      · simp [hq, ia2]
      · simp [hq])
  have hl1 : ns.length - 1 + 1 = ns.length := by omega
  rw [hl1, List.take_length]
  have e : ((p : Int) + (ns.length : Int) + 1) = ((p + ns.length : Nat) : Int) + 1 := by omega
  rw [e]
  generalize ((p + ns.length : Nat) : Int) = q at *
  simp [tw]
end My
set_option maxRecDepth 100000
namespace My
open PySem L2 Ly TL
/-! setups as words -/
abbrev Pt := Str × List Int
def ptD (p : Pt) : D := .tuple [.str p.1, .tuple (p.2.map .int)]
def ptW (p : Pt) : List Str := p.1 :: p.2.map num
def wordsOf (ps : List Pt) : List Str := ps.flatMap ptW
def PtOk (p : Pt) : Prop := p.1.length ≤ 10 ∧ p.2 ≠ [] ∧ p.2.length ≤ 10 ∧ ∀ x ∈ p.2, Sm x
def ptT (p : Pt) : Str := p.1 ++ (" " : Str) ++ Txt.join (" " : Str) (p.2.map num)
theorem nums_len {xs : List Int} (h : ∀ x ∈ xs, Sm x) : (Txt.join (" " : Str) (xs.map num)).length ≤ 2 * xs.length := by
  have := join_len (" " : Str) (xs.map num)
  rw [nums_sum h] at this
  simp at this
  omega
theorem show_numbers_ok {xs : List Int} (h : ∀ x ∈ xs, Sm x) (hl : xs.length ≤ 10) {Γ : Ge} : callM M_show_numbers [.d (.tuple (xs.map .int))] Γ = .ok (.d (.str (Txt.join (" " : Str) (xs.map num)))) Γ := by
  refine callM_d (rs := [.d (.tuple (xs.map .int))]) rfl (qs := [.d (.tuple (xs.map .int))]) ?_
  have hlc : lcLoop (gN 1) yesB (frzF (callN strC (argC (svar 1) argN))) [1] (xs.map .int) [] [.d (.tuple (xs.map .int)), .un] = .ok (xs.map fun x => PyData.str (num x)) [.d (.tuple (xs.map .int)), .un] := by
    rw [lc_fn (ψ := fun x => PyData.str (num x)) (by simp; omega)]
    · simp
    · intro x hx
      have := sm_log (h x hx)
      exact ⟨[.d (.tuple (xs.map .int)), .d (.int x)], [.d (.tuple (xs.map .int)), .d (.int x)], by simp, by simp [yesB], by simp [this, num], by simp [wipeG], by simp [wipeG]⟩
  have hj := join_nums (sep := (" " : Str)) h (by omega) (by simp)
  unfold M_show_numbers
  rw [bodyM_eq]
  unfold B_show_numbers
  simp [plainAt, wipeG, hlc, restG, hj]
theorem ptT_len {p : Pt} (h : PtOk p) : (ptT p).length ≤ 31 := by
  obtain ⟨h1, h2, h3, h4⟩ := h
  have := nums_len h4
  unfold ptT
  rw [append_len, append_len, blank_len]
  omega
theorem joinL_append {S : List Nat} : ∀ {ps qs : List (List Nat)}, ps ≠ [] → qs ≠ [] → joinL S (ps ++ qs) = joinL S ps ++ (S ++ joinL S qs)
  | [], _, h, _ => absurd rfl h
  | [p], q :: qs, _, _ => rfl
  | [p], [], _, h => absurd rfl h
  | p :: p2 :: ps, qs, _, h => by
    show p ++ (S ++ joinL S (p2 :: ps ++ qs)) = p ++ (S ++ joinL S (p2 :: ps)) ++ (S ++ joinL S qs)
    rw [joinL_append (by simp) h]
    simp
theorem joinL_flat {S : List Nat} : ∀ {Ls : List (List (List Nat))}, (∀ L ∈ Ls, L ≠ []) → joinL S (Ls.map (joinL S)) = joinL S Ls.flatten
  | [], _ => rfl
  | [L], _ => by simp [joinL]
  | L :: L2 :: Ls, h => by
    have ih := joinL_flat (S := S) (Ls := L2 :: Ls) fun M hM => h M (by simp at hM ⊢; exact .inr hM)
    have hne : (L2 :: Ls).flatten ≠ [] := by
      have := h L2 (by simp)
      simp [this]
    show joinL S L ++ (S ++ joinL S ((L2 :: Ls).map (joinL S))) = joinL S (L ++ (L2 :: Ls).flatten)
    rw [ih, joinL_append (h L (by simp)) hne]
theorem tl_ptT {p : Pt} (h : p.2 ≠ []) : tl (ptT p) = joinL [32] ((ptW p).map tl) := by
  unfold ptT ptW
  rw [tl_append, tl_append, join_eq, tl_join, tl_blank, List.map_cons]
  rw [show tl p.1 :: List.map tl (List.map num p.2) = [tl p.1] ++ List.map tl (List.map num p.2) from rfl, joinL_append (by simp) (by simpa using h)]
  simp [joinL]
theorem parts_join {ps : List Pt} (h : ∀ p ∈ ps, p.2 ≠ []) : Txt.join (" " : Str) (ps.map ptT) = Txt.join (" " : Str) (wordsOf ps) := by
  refine ext_tl ?_
  rw [join_eq, join_eq, tl_join, tl_join, tl_blank, List.map_map]
  have e : ps.map (tl ∘ ptT) = (ps.map fun p => (ptW p).map tl).map (joinL [32]) := by
    rw [List.map_map]
    exact List.map_congr_left fun p hp => tl_ptT (h p hp)
  rw [e, joinL_flat (fun L hL => by
    obtain ⟨p, hp, rfl⟩ := List.mem_map.mp hL
    simp [ptW])]
  unfold wordsOf
  rw [List.flatMap_def, List.map_flatten, List.map_map]
  rfl
theorem parts_sum : ∀ {ps : List Pt}, (∀ p ∈ ps, PtOk p) → ((ps.map ptT).map (·.length)).sum ≤ 31 * ps.length
  | [], _ => by simp
  | c :: row, h => by
    have ih := parts_sum (ps := row) fun y hy => h y (by simp [hy])
    have := ptT_len (h c (by simp))
    simp only [List.map_cons, List.sum_cons, List.length_cons]
    omega
theorem join_parts {ps : List Pt} (h : ∀ p ∈ ps, PtOk p) (hl : ps.length ≤ 10) : joinD (Str.ofString " ") (.list (ps.map fun p => PyData.str (ptT p))) = some (.d (.str (Txt.join (" " : Str) (wordsOf ps)))) := by
  have e : (ps.map fun c => PyData.str (ptT c)) = (ps.map ptT).map .str := by simp
  have := parts_sum h
  rw [e, joinD_l, parts_join fun p hp => (h p hp).2.1]
  rw [List.length_map, blank_len]
  omega
theorem words_sum : ∀ {ps : List Pt}, (∀ p ∈ ps, PtOk p) → ((wordsOf ps).map (·.length)).sum ≤ 20 * ps.length ∧ (wordsOf ps).length ≤ 11 * ps.length
  | [], _ => by simp [wordsOf]
  | c :: row, h => by
    have ih := words_sum (ps := row) fun y hy => h y (by simp [hy])
    obtain ⟨h1, h2, h3, h4⟩ := h c (by simp)
    have e : wordsOf (c :: row) = c.1 :: (c.2.map num) ++ wordsOf row := rfl
    have := nums_sum h4
    rw [e]
    simp only [List.map_append, List.sum_append, List.map_cons, List.sum_cons, List.length_append, List.length_cons, List.length_map, this]
    omega
theorem join_words {ps : List Pt} (h : ∀ p ∈ ps, PtOk p) (hl : ps.length ≤ 10) : joinD (Str.ofString " ") (.list ((wordsOf ps).map .str)) = some (.d (.str (Txt.join (" " : Str) (wordsOf ps)))) := by
  have := words_sum h
  rw [joinD_l]
  rw [blank_len]
  omega
/-! the four parts -/
def setP (ns zs : List Int) (g s mg ms : Int) : List Pt := [(("seats" : Str), ns), (("sizes" : Str), zs), (("rooms" : Str), [g, s]), (("comers" : Str), [mg, ms])]
def sText (ns zs : List Int) (g s mg ms : Int) : Str := Txt.join (" " : Str) (wordsOf (setP ns zs g s mg ms))
section
variable {ns zs : List Int} {g s mg ms : Int}
theorem setP_ok (hs : SetOk ns zs g s mg ms) : ∀ p ∈ setP ns zs g s mg ms, PtOk p := fun p hp => by
  have l1 : (Str.ofString "seats").length = 5 := by decide +kernel
  have l2 : (Str.ofString "sizes").length = 5 := by decide +kernel
  have l3 : (Str.ofString "rooms").length = 5 := by decide +kernel
  have l4 : (Str.ofString "comers").length = 6 := by decide +kernel
  have n1 := hs.n1
  have n2 := hs.n2
  have z1 := hs.z1
  have z3 := hs.z3
  have := hs.g1
  have := hs.g3
  have := hs.s0
  have := hs.s4
  have := hs.mg0
  have := hs.mg2
  have := hs.ms0
  have := hs.ms2
  unfold setP at hp
  simp only [List.mem_cons, List.not_mem_nil, or_false] at hp
  rcases hp with rfl | rfl | rfl | rfl
  · exact ⟨by rw [l1]; omega, by intro e; have e : ns = [] := e; rw [e] at n1; simp at n1, by show ns.length ≤ 10; omega, fun x hx => by have := hs.n x hx; exact ⟨by omega, by omega⟩⟩
  · exact ⟨by rw [l2]; omega, by intro e; have e : zs = [] := e; rw [e] at z1; simp at z1, by show zs.length ≤ 10; omega, fun x hx => by have := hs.z x hx; exact ⟨by omega, by omega⟩⟩
  · refine ⟨by rw [l3]; omega, by simp, by simp, fun x hx => ?_⟩
    simp at hx
    rcases hx with rfl | rfl <;> exact ⟨by omega, by omega⟩
  · refine ⟨by rw [l4]; omega, by simp, by simp, fun x hx => ?_⟩
    simp at hx
    rcases hx with rfl | rfl <;> exact ⟨by omega, by omega⟩
theorem show_setup_ok (hs : SetOk ns zs g s mg ms) (hset : isSetup (setD ns zs g s mg ms) = true) {Γ : Ge} : callM M_show_setup [.d (setD ns zs g s mg ms)] Γ = .ok (.d (.str (sText ns zs g s mg ms))) Γ := by
  refine callM_d (rs := [.d (setD ns zs g s mg ms)]) rfl (qs := [.d (setD ns zs g s mg ms)]) ?_
  have c1 : ∀ Γ, callM M_check_setup [.d (setD ns zs g s mg ms)] Γ = .ok (.d .none) Γ := fun Γ => callM_d (rs := [.d (setD ns zs g s mg ms)]) rfl (qs := [.d (setD ns zs g s mg ms)]) (by
    unfold M_check_setup
    rw [bodyM_eq]
    unfold B_check_setup
    simp [hset])
  have hp := setP_ok hs
  have hj := join_parts hp (by simp [setP])
  have hlist : PyData.list [.tuple [.str (Str.ofString "seats"), .tuple (ns.map .int)], .tuple [.str (Str.ofString "sizes"), .tuple (zs.map .int)], .tuple [.str (Str.ofString "rooms"), .tuple [.int g, .int s]], .tuple [.str (Str.ofString "comers"), .tuple [.int mg, .int ms]]] = .list ((setP ns zs g s mg ms).map ptD) := rfl
  have hlist2 : [PyData.tuple [.str (Str.ofString "seats"), .tuple (ns.map .int)], .tuple [.str (Str.ofString "sizes"), .tuple (zs.map .int)], .tuple [.str (Str.ofString "rooms"), .tuple [.int g, .int s]], .tuple [.str (Str.ofString "comers"), .tuple [.int mg, .int ms]]] = (setP ns zs g s mg ms).map ptD := rfl
  have hlc : ∀ s0 s1 s2 s3 s4 s5 : Sl, lcLoop (gTp 2 (gsC (gN 6) (gsC (gN 7) gsN))) yesB (frzF (fstrF [.e (svar 6), .c (Str.ofString " "), .e (callF M_show_numbers (argC (dvar 7) argN))])) [6, 7] ((setP ns zs g s mg ms).map ptD) [] [s0, s1, s2, s3, s4, s5, .un, .un] = .ok ((setP ns zs g s mg ms).map fun p => PyData.str (ptT p)) [s0, s1, s2, s3, s4, s5, .un, .un] := fun s0 s1 s2 s3 s4 s5 => by
    rw [lc_fn (ψ := fun p => PyData.str (ptT p)) (by simp [setP])]
    · simp
    · intro p hpp
      obtain ⟨h1, h2, h3, h4⟩ := hp p hpp
      have e := fun Γ => show_numbers_ok h4 h3 (Γ := Γ)
      have hnl := nums_len h4
      have e0 := empty_append
      refine ⟨[s0, s1, s2, s3, s4, s5, .d (.str p.1), .d (.tuple (p.2.map .int))], [s0, s1, s2, s3, s4, s5, .d (.str p.1), .d (.tuple (p.2.map .int))], by simp [ptD], by simp [yesB], ?_, by simp [wipeG], by simp [wipeG]⟩
      have k1 : p.1.length < 1000000 := by omega
      have k2 : p.1.length + 1 < 1000000 := by omega
      have k3 : p.1.length + 1 + (Txt.join (" " : Str) (p.2.map num)).length < 1000000 := by omega
      have k4 : (Txt.join (" " : Str) (p.2.map num)).length < 1000000 := by omega
      simp [e, e0, append_len, k1, k2, k3, k4, ptT]
  unfold M_show_setup
  rw [bodyM_eq]
  unfold B_show_setup
  have c2 := c1
  unfold setD at c2
  have hlc2 : ∀ s0 s1 s2 s3 s4 s5 : Sl, lcLoop (gTp 2 (gsC (gN 6) (gsC (gN 7) gsN))) yesB (frzF (fstrF [.e (svar 6), .c (Str.ofString " "), .e (callF M_show_numbers (argC (dvar 7) argN))])) [6, 7] [PyData.tuple [.str (Str.ofString "seats"), .tuple (ns.map .int)], .tuple [.str (Str.ofString "sizes"), .tuple (zs.map .int)], .tuple [.str (Str.ofString "rooms"), .tuple [.int g, .int s]], .tuple [.str (Str.ofString "comers"), .tuple [.int mg, .int ms]]] [] [s0, s1, s2, s3, s4, s5, .un, .un] = .ok ((setP ns zs g s mg ms).map fun p => PyData.str (ptT p)) [s0, s1, s2, s3, s4, s5, .un, .un] := hlc
  simp [c2, setD]
  simp [plainAt, wipeG, hlc2, restG, hj, sText]
/-- the law's own words -/
theorem law_text_ok (hs : SetOk ns zs g s mg ms) {Γ : Ge} : callM M_law_setup_text [.d (setD ns zs g s mg ms)] Γ = .ok (.d (.str (sText ns zs g s mg ms))) Γ := by
  refine callM_d (rs := [.d (setD ns zs g s mg ms)]) rfl (qs := [.d (setD ns zs g s mg ms)]) ?_
  have hp := setP_ok hs
  have hj := join_words hp (by simp [setP])
  have i0 : ixD (setD ns zs g s mg ms) (.int 0) = some (.d (.tuple (ns.map .int))) := rfl
  have i1 : ixD (setD ns zs g s mg ms) (.int 1) = some (.d (.tuple (zs.map .int))) := rfl
  have i2 : ixD (setD ns zs g s mg ms) (.int 2) = some (.d (.tuple [.int g, .int s])) := rfl
  have i3 : ixD (setD ns zs g s mg ms) (.int 3) = some (.d (.tuple [.int mg, .int ms])) := rfl
  generalize hC : setD ns zs g s mg ms = C at *
  unfold M_law_setup_text
  rw [bodyM_eq]
  unfold B_law_setup_text
  simp [i0, i1, i2, i3]
  generalize hB : loopF _ _ _ _ = L
  have hB2 : loopF _ _ ((setP ns zs g s mg ms).map ptD) _ = L := hB
  obtain ⟨Γ', rfl, s2, s3, n2, n3, rfl⟩ := loop_of hB2 (fun i Γ => ∃ s2 s3, notB' s2 = true ∧ notB' s3 = true ∧ Γ = [.d C, .l ((wordsOf ((setP ns zs g s mg ms).take i)).map .str), s2, s3, .un]) (by exact ⟨.un, .un, rfl, rfl, rfl⟩) (by
    rintro i d _ hi ⟨s2, s3, n2, n3, rfl⟩
    rw [List.getElem?_map] at hi
    obtain ⟨p, hpi, rfl⟩ : ∃ p, (setP ns zs g s mg ms)[i]? = some p ∧ ptD p = d := by
      cases h : (setP ns zs g s mg ms)[i]? with
      | none => rw [h] at hi; cases hi
      | some c => rw [h] at hi; cases hi; exact ⟨c, rfl, rfl⟩
    obtain ⟨h1, h2, h3, h4⟩ := hp p (List.mem_of_getElem? hpi)
    have hw := words_sum (ps := (setP ns zs g s mg ms).take i) fun q hq => hp q (List.mem_of_mem_take hq)
    have hwl : (wordsOf ((setP ns zs g s mg ms).take i)).length ≤ 44 := by
      have : ((setP ns zs g s mg ms).take i).length ≤ 4 := by rw [List.length_take]; simp [setP]; omega
      omega
    have e : wordsOf ((setP ns zs g s mg ms).take (i + 1)) = wordsOf ((setP ns zs g s mg ms).take i) ++ (p.1 :: p.2.map num) := by
      unfold wordsOf
      rw [List.take_add_one, hpi]
      simp [ptW]
    rw [e]
    generalize wordsOf ((setP ns zs g s mg ms).take i) = W at *
    have hlc : lcLoop (gN 4) yesB (frzF (callN strC (argC (svar 4) argN))) [4] (p.2.map .int) [] [.d C, .l (W.map .str), .d (.str p.1), .d (.tuple (p.2.map .int)), .un] = .ok (p.2.map fun x => PyData.str (num x)) [.d C, .l (W.map .str), .d (.str p.1), .d (.tuple (p.2.map .int)), .un] := by
      rw [lc_fn (ψ := fun x => PyData.str (num x)) (by simp; omega)]
      · simp
      · intro x hx
        have := sm_log (h4 x hx)
        exact ⟨[.d C, .l (W.map .str), .d (.str p.1), .d (.tuple (p.2.map .int)), .d (.int x)], [.d C, .l (W.map .str), .d (.str p.1), .d (.tuple (p.2.map .int)), .d (.int x)], by simp, by simp [yesB], by simp [this, num], by simp [wipeG], by simp [wipeG]⟩
    have hz1 : W.length + 1 < 1000000 := by omega
    have hz2 : W.length + 1 + p.2.length < 1000000 := by omega
    unfold ptD
    simp [n2, n3, hz1]
    simp [plainAt, wipeG, hlc, restG, hz2, hz1])
  have e : (setP ns zs g s mg ms).take ((setP ns zs g s mg ms).map ptD).length = setP ns zs g s mg ms := by simp
  rw [e]
  simp [hj, sText]
end
end My
set_option maxRecDepth 100000
namespace My
open PySem L2 Ly TL
theorem num_not {x : Int} {s : String} (h : Sm x) (hs : (s.toList.map Char.toNat).all (fun n => decide (58 ≤ n)) = true) (h0 : s.toList ≠ []) : num x ≠ (Str.ofString s) := fun e => by
  have q := congrArg tl e
  rw [tl_num1 h, tl_ofString] at q
  have := h.1
  have := h.2
  have m := List.all_eq_true.mp hs (48 + x.toNat) (by rw [← q]; simp)
  simp at m
  omega
theorem no32_num {x : Int} (h : Sm x) : 32 ∉ tl (num x) := by
  rw [tl_num1 h]
  simp
  omega
theorem no32_lit {s : String} (h : (s.toList.map Char.toNat).all (fun n => decide (58 ≤ n)) = true) : 32 ∉ tl (Str.ofString s) := fun q => by
  rw [tl_ofString] at q
  have := List.all_eq_true.mp h 32 q
  simp at this
theorem at_pre {α : Type} {pre t : List α} {n i : Nat} (h : pre.length = n) : (pre ++ t)[n + i]? = t[i]? := by
  rw [List.getElem?_append_right (by omega)]
  congr 1
  omega
section
variable {ns zs : List Int} {g s mg ms : Int}
def sWords (ns zs : List Int) (g s mg ms : Int) : List Str := [("seats" : Str)] ++ (ns.map num ++ ([("sizes" : Str)] ++ (zs.map num ++ [("rooms" : Str), num g, num s, ("comers" : Str), num mg, num ms])))
theorem words_eq : wordsOf (setP ns zs g s mg ms) = sWords ns zs g s mg ms := by
  unfold wordsOf setP sWords ptW
  simp
theorem sText_split (hs : SetOk ns zs g s mg ms) : Txt.split (sText ns zs g s mg ms) (" " : Str) = sWords ns zs g s mg ms := by
  unfold sText
  rw [words_eq]
  refine split_join tl_blank (by decide +kernel) (by simp [sWords]) fun w hw => ?_
  rw [← words_eq] at hw
  obtain ⟨p, hp, hw⟩ := List.mem_flatMap.mp hw
  obtain ⟨h1, h2, h3, h4⟩ := setP_ok hs p hp
  unfold ptW at hw
  rcases List.mem_cons.mp hw with rfl | hw
  · unfold setP at hp
    simp only [List.mem_cons, List.not_mem_nil, or_false] at hp
    rcases hp with rfl | rfl | rfl | rfl <;> exact no32_lit (by decide)
  · obtain ⟨x, hx, rfl⟩ := List.mem_map.mp hw
    exact no32_num (h4 x hx)
theorem sok_sText (hs : SetOk ns zs g s mg ms) : SOk (sText ns zs g s mg ms) := by
  unfold sText
  refine sok_join (sok_lit (by decide)) fun w hw => ?_
  obtain ⟨p, hp, hw⟩ := List.mem_flatMap.mp hw
  obtain ⟨h1, h2, h3, h4⟩ := setP_ok hs p hp
  unfold ptW at hw
  rcases List.mem_cons.mp hw with rfl | hw
  · unfold setP at hp
    simp only [List.mem_cons, List.not_mem_nil, or_false] at hp
    rcases hp with rfl | rfl | rfl | rfl <;> exact sok_lit (by decide)
  · obtain ⟨x, hx, rfl⟩ := List.mem_map.mp hw
    exact sok_num (h4 x hx)
theorem sText_len (hs : SetOk ns zs g s mg ms) : (sText ns zs g s mg ms).length ≤ 200 := by
  have h1 := join_len (" " : Str) (wordsOf (setP ns zs g s mg ms))
  have h2 := words_sum (setP_ok hs)
  rw [blank_len] at h1
  have h3 : (setP ns zs g s mg ms).length = 4 := rfl
  rw [h3] at h2
  unfold sText
  omega
theorem read_setup_ok (hs : SetOk ns zs g s mg ms) (hset : isSetup (setD ns zs g s mg ms) = true) {Γ : Ge} : callM M_read_setup [.d (.str (sText ns zs g s mg ms))] Γ = .ok (.d (setD ns zs g s mg ms)) Γ := by
  refine callM_d (rs := [.d (.str (sText ns zs g s mg ms))]) rfl (qs := [.d (.str (sText ns zs g s mg ms))]) ?_
  have hl := sText_len hs
  have ci := init_ok (text := sText ns zs g s mg ms) (by omega)
  rw [sText_split hs] at ci
  have hz : zs.Pairwise (· < ·) := by
    simp only [setD, isSetup, Bool.and_eq_true] at hset
    have h := hset.1.1.2
    simp only [isSizes, Bool.and_eq_true] at h
    exact asc_pair.mp h.2
  have n1 := hs.n1
  have n2 := hs.n2
  have z1 := hs.z1
  have z3 := hs.z3
  have b1 := hs.g1
  have b2 := hs.g3
  have b3 := hs.s0
  have b4 := hs.s4
  have b5 := hs.mg0
  have b6 := hs.mg2
  have b7 := hs.ms0
  have b8 := hs.ms2
  generalize hW : sWords ns zs g s mg ms = W at *
  -- where the words stand
  have w0 : W[0]? = some (Str.ofString "seats") := by rw [← hW]; rfl
  have w1 : ∀ i n, ns[i]? = some n → W[1 + i]? = some (num n) := fun i n h => by
    rw [← hW]
    unfold sWords
    rw [at_pre (pre := [Str.ofString "seats"]) (n := 1) rfl, List.getElem?_append_left (by simp; exact (List.getElem?_eq_some_iff.mp h).1), List.getElem?_map, h]
    rfl
  have w2 : W[1 + ns.length]? = some (Str.ofString "sizes") := by
    rw [← hW]
    unfold sWords
    rw [at_pre (pre := [Str.ofString "seats"]) (n := 1) rfl]
    have := at_pre (pre := ns.map num) (t := [Str.ofString "sizes"] ++ (zs.map num ++ [("rooms" : Str), num g, num s, ("comers" : Str), num mg, num ms])) (n := ns.length) (i := 0) (by simp)
    rw [Nat.add_zero] at this
    rw [this]
    rfl
  have tail : ∀ i, W[1 + ns.length + 1 + i]? = (zs.map num ++ [("rooms" : Str), num g, num s, ("comers" : Str), num mg, num ms])[i]? := fun i => by
    rw [← hW]
    unfold sWords
    rw [show 1 + ns.length + 1 + i = 1 + (ns.length + (1 + i)) by omega, at_pre (pre := [Str.ofString "seats"]) (n := 1) rfl, at_pre (pre := ns.map num) (n := ns.length) (by simp), at_pre (pre := [Str.ofString "sizes"]) (n := 1) rfl]
  have w3 : ∀ i n, zs[i]? = some n → W[1 + ns.length + 1 + i]? = some (num n) := fun i n h => by
    rw [tail, List.getElem?_append_left (by simp; exact (List.getElem?_eq_some_iff.mp h).1), List.getElem?_map, h]
    rfl
  have tail2 : ∀ i, W[1 + ns.length + 1 + zs.length + i]? = [("rooms" : Str), num g, num s, ("comers" : Str), num mg, num ms][i]? := fun i => by
    rw [show 1 + ns.length + 1 + zs.length + i = 1 + ns.length + 1 + (zs.length + i) by omega, tail, at_pre (pre := zs.map num) (n := zs.length) (by simp)]
  have wl : W.length = 1 + ns.length + 1 + zs.length + 6 := by
    rw [← hW]
    unfold sWords
    simp
    omega
  generalize hp1 : 1 + ns.length + 1 + zs.length = p1 at *
  have w4 : W[p1]? = some (Str.ofString "rooms") := tail2 0
  have w5 : W[p1 + 1]? = some (num g) := tail2 1
  have w6 : W[p1 + 1 + 1]? = some (num s) := tail2 2
  have w7 : W[p1 + 1 + 1 + 1]? = some (Str.ofString "comers") := tail2 3
  have w8 : W[p1 + 1 + 1 + 1 + 1]? = some (num mg) := tail2 4
  have w9 : W[p1 + 1 + 1 + 1 + 1 + 1]? = some (num ms) := tail2 5
  have r1 := read_numbers_ok (ws := W) (p := 1) (ns := ns) (most := 2) (asc := false) (en := Str.ofString "sizes") w1 w2 n1 (by omega) hs.n (by omega) (by simp) (sok_lit (by decide)) fun x hx => num_not hx (by decide) (by decide)
  have r2 := read_numbers_ok (ws := W) (p := 1 + ns.length + 1) (ns := zs) (most := 3) (asc := true) (en := Str.ofString "rooms") w3 (by rw [hp1]; exact w4) z1 (by omega) hs.z (by omega) (fun _ => hz) (sok_lit (by decide)) fun x hx => num_not hx (by decide) (by decide)
  have e2 : (((1 + ns.length + 1 : Nat) : Int) + (zs.length : Int) + 1) = ((p1 + 1 : Nat) : Int) := by omega
  rw [e2] at r2
  have k0 := take_word_ok w0
  have k1 := take_num w5 (lo := 1) (hi := 3) (by omega) (by omega) b1 b2
  have k2 := take_num w6 (lo := 0) (hi := 4) (by omega) (by omega) b3 b4
  have k3 := take_word_ok w7
  have k4 := take_num w8 (lo := 0) (hi := 2) (by omega) (by omega) b5 b6
  have k5 := take_num w9 (lo := 0) (hi := 2) (by omega) (by omega) b7 b8
  have k6 := end_ok (ws := W) (k := p1 + 1 + 1 + 1 + 1 + 1 + 1) (by omega)
  have d13 := fun Γ => digits_ok (lo := 1) (hi := 3) (by omega) (by omega) (by omega) (Γ := Γ)
  have d04 := fun Γ => digits_ok (lo := 0) (hi := 4) (by omega) (by omega) (by omega) (Γ := Γ)
  have d02 := fun Γ => digits_ok (lo := 0) (hi := 2) (by omega) (by omega) (by omega) (Γ := Γ)
  -- as calls
  have c0 : ∀ s2 s3 s4 s5 : Sl, callM M_Reader_take_word [.s 1, .d (.str (Str.ofString "seats"))] [.d (.str (sText ns zs g s mg ms)), .o (.i (Str.ofString "Reader") (rdF W 0)), s2, s3, s4, s5] = .ok (.d .none) [.d (.str (sText ns zs g s mg ms)), .o (.i (Str.ofString "Reader") (rdF W 1)), s2, s3, s4, s5] := fun s2 s3 s4 s5 => call_o1 (i := 1) rfl k0
  have c1 : ∀ s2 s3 s4 s5 : Sl, callM M_read_numbers [.s 1, .d (.int 2), .d (.bool false), .d (.str (Str.ofString "sizes"))] [.d (.str (sText ns zs g s mg ms)), .o (.i (Str.ofString "Reader") (rdF W 1)), s2, s3, s4, s5] = .ok (.d (.tuple (ns.map .int))) [.d (.str (sText ns zs g s mg ms)), .o (.i (Str.ofString "Reader") (rdF W ((1 + ns.length + 1 : Nat) : Int))), s2, s3, s4, s5] := fun s2 s3 s4 s5 => call_o3 (i := 1) rfl r1
  have c2 : ∀ s2 s3 s4 s5 : Sl, callM M_read_numbers [.s 1, .d (.int 3), .d (.bool true), .d (.str (Str.ofString "rooms"))] [.d (.str (sText ns zs g s mg ms)), .o (.i (Str.ofString "Reader") (rdF W ((1 + ns.length + 1 : Nat) : Int))), s2, s3, s4, s5] = .ok (.d (.tuple (zs.map .int))) [.d (.str (sText ns zs g s mg ms)), .o (.i (Str.ofString "Reader") (rdF W ((p1 + 1 : Nat) : Int))), s2, s3, s4, s5] := fun s2 s3 s4 s5 => call_o3 (i := 1) rfl r2
  have tk : ∀ (k : Nat) (lo hi n : Int), M_Reader_take [.p (rd W k), .d (dgD lo hi)] = .ok (.d (.int n)) [.p (rd W (k + 1)), .d (dgD lo hi)] → ∀ s2 s3 s4 s5 : Sl, callM M_Reader_take [.s 1, .d (dgD lo hi)] [.d (.str (sText ns zs g s mg ms)), .o (.i (Str.ofString "Reader") (rdF W (k : Int))), s2, s3, s4, s5] = .ok (.d (.int n)) [.d (.str (sText ns zs g s mg ms)), .o (.i (Str.ofString "Reader") (rdF W ((k + 1 : Nat) : Int))), s2, s3, s4, s5] := fun k lo hi n h s2 s3 s4 s5 => call_o1 (i := 1) rfl h
  have c3 := tk _ _ _ _ k1
  have c4 := tk _ _ _ _ k2
  have c5 : ∀ s2 s3 s4 s5 : Sl, callM M_Reader_take_word [.s 1, .d (.str (Str.ofString "comers"))] [.d (.str (sText ns zs g s mg ms)), .o (.i (Str.ofString "Reader") (rdF W ((p1 + 1 + 1 + 1 : Nat) : Int))), s2, s3, s4, s5] = .ok (.d .none) [.d (.str (sText ns zs g s mg ms)), .o (.i (Str.ofString "Reader") (rdF W ((p1 + 1 + 1 + 1 + 1 : Nat) : Int))), s2, s3, s4, s5] := fun s2 s3 s4 s5 => call_o1 (i := 1) rfl k3
  have c6 := tk _ _ _ _ k4
  have c7 := tk _ _ _ _ k5
  have c8 : ∀ s2 s3 s4 s5 : Sl, callM M_Reader_end [.s 1] [.d (.str (sText ns zs g s mg ms)), .o (.i (Str.ofString "Reader") (rdF W ((p1 + 1 + 1 + 1 + 1 + 1 + 1 : Nat) : Int))), s2, s3, s4, s5] = .ok (.d .none) [.d (.str (sText ns zs g s mg ms)), .o (.i (Str.ofString "Reader") (rdF W ((p1 + 1 + 1 + 1 + 1 + 1 + 1 : Nat) : Int))), s2, s3, s4, s5] := fun s2 s3 s4 s5 => call_o0 (i := 1) rfl k6
  generalize ((1 + ns.length + 1 : Nat) : Int) = q1 at *
  generalize ((p1 + 1 : Nat) : Int) = q2 at *
  generalize ((p1 + 1 + 1 : Nat) : Int) = q3 at *
  generalize ((p1 + 1 + 1 + 1 : Nat) : Int) = q4 at *
  generalize ((p1 + 1 + 1 + 1 + 1 : Nat) : Int) = q5 at *
  generalize ((p1 + 1 + 1 + 1 + 1 + 1 : Nat) : Int) = q6 at *
  generalize ((p1 + 1 + 1 + 1 + 1 + 1 + 1 : Nat) : Int) = q7 at *
  generalize sText ns zs g s mg ms = tx at *
  unfold M_read_setup
  rw [bodyM_eq]
  unfold B_read_setup
  unfold rd at ci
  simp [ci]
  simp [c0, c1, c2, c3, c4, c5, c6, c7, c8, d13, d04, d02, setD]
end
end My
set_option maxRecDepth 100000
namespace My
open PySem L2 Ly TL
theorem law_numbers_ok {ns : List Int} (hl : ns.length ≤ 1000) {Γ : Ge} : callM M_law_numbers [.d (.tuple (ns.map .int))] Γ = .ok (.d (.bool true)) Γ := by
  refine callM_d (rs := [.d (.tuple (ns.map .int))]) rfl (qs := [.d (.tuple (ns.map .int))]) ?_
  have hw : ∀ (x : Int) Γ, callM M_law_whole [.d (.int x)] Γ = .ok (.d (.bool true)) Γ := fun x Γ => callM_d (rs := [.d (.int x)]) rfl (qs := [.d (.int x)]) (by
    unfold M_law_whole
    rw [bodyM_eq]
    unfold B_law_whole
    simp)
  have hlc : lcLoop (gN 1) yesB (frzF (callF M_law_whole (argC (dvar 1) argN))) [1] (ns.map .int) [] [.d (.tuple (ns.map .int)), .un] = .ok (ns.map fun _ => PyData.bool true) [.d (.tuple (ns.map .int)), .un] := by
    rw [lc_fn (ψ := fun _ => PyData.bool true) (by simp; omega)]
    · simp
    · intro x hx
      exact ⟨[.d (.tuple (ns.map .int)), .d (.int x)], [.d (.tuple (ns.map .int)), .d (.int x)], by simp, by simp [yesB], by simp [hw], by simp [wipeG], by simp [wipeG]⟩
  have e : ∀ l : List Int, asBs (l.map fun _ => PyData.bool true) = some (l.map fun _ => true) := fun l => by
    induction l with
    | nil => rfl
    | cons x l ih => simp [asBs] at ih ⊢; rw [ih]
  have e2 : ∀ l : List Int, (l.map fun _ => true).all id = true := fun l => by simp
  unfold M_law_numbers
  rw [bodyM_eq]
  unfold B_law_numbers
  simp [plainAt, wipeG, hlc, restG, e]
section
variable {ns zs : List Int} {g s mg ms : Int}
theorem sh_setD : Sh 2 (setD ns zs g s mg ms) := sh_tuple fun x hx => by
  simp at hx
  rcases hx with rfl | rfl | rfl | rfl
  · exact sh_ints
  · exact sh_ints
  · exact sh_ints (ns := [g, s])
  · exact sh_ints (ns := [mg, ms])
theorem ne_setD : neD (setD ns zs g s mg ms) (setD ns zs g s mg ms) = some (.d (.bool false)) := neD_self sh_setD
/-- texts, each with its setup -/
def Bk (kvs : List (D × T)) : Prop := ∀ p ∈ kvs, ∃ ns zs g s mg ms, SetOk ns zs g s mg ms ∧ isSetup (setD ns zs g s mg ms) = true ∧ p = (.str (sText ns zs g s mg ms), .d (setD ns zs g s mg ms))
theorem Bk.flat {kvs : List (D × T)} (h : Bk kvs) : flatKs kvs = true := by
  unfold flatKs
  rw [List.all_eq_true]
  intro p hp
  obtain ⟨_, _, _, _, _, _, _, _, rfl⟩ := h p hp
  rfl
theorem Bk.get {kvs : List (D × T)} (h : Bk kvs) (hs : SetOk ns zs g s mg ms) (hset : isSetup (setD ns zs g s mg ms) = true) {Γ : Ge} : dgetV (dlook kvs (.text (sText ns zs g s mg ms))) (setD ns zs g s mg ms) Γ = .ok (.d (setD ns zs g s mg ms)) Γ := by
  unfold dlook
  cases e : kvs.find? fun p => decide (nk p.1 = some (.text (sText ns zs g s mg ms))) with
  | none => rfl
  | some p =>
    obtain ⟨n2, z2, g2, s2, a2, b2, k1, k2, rfl⟩ := h p (List.mem_of_find?_eq_some e)
    have q := List.find?_some e
    have q2 : sText n2 z2 g2 s2 a2 b2 = sText ns zs g s mg ms := by simpa [nk] using q
    have e1 := read_setup_ok k1 k2 (Γ := [])
    have e2 := read_setup_ok hs hset (Γ := [])
    rw [q2, e2] at e1
    have e3 : setD ns zs g s mg ms = setD n2 z2 g2 s2 a2 b2 := by simpa using e1
    rw [e3]
    rfl
theorem Bk.put {kvs : List (D × T)} (h : Bk kvs) (hs : SetOk ns zs g s mg ms) (hset : isSetup (setD ns zs g s mg ms) = true) : Bk (putKT kvs (.text (sText ns zs g s mg ms)) (.str (sText ns zs g s mg ms)) (.d (setD ns zs g s mg ms))) ∧ (putKT kvs (.text (sText ns zs g s mg ms)) (.str (sText ns zs g s mg ms)) (.d (setD ns zs g s mg ms))).length ≤ kvs.length + 1 := by
  unfold putKT
  split
  · refine ⟨fun p hp => ?_, by simp⟩
    obtain ⟨q, hq, rfl⟩ := List.mem_map.mp hp
    obtain ⟨n2, z2, g2, s2, a2, b2, k1, k2, rfl⟩ := h q hq
    by_cases e : nk (PyData.str (sText n2 z2 g2 s2 a2 b2)) = some (.text (sText ns zs g s mg ms))
    · rw [if_pos e]
      have e : sText n2 z2 g2 s2 a2 b2 = sText ns zs g s mg ms := by simpa [nk] using e
      exact ⟨ns, zs, g, s, mg, ms, hs, hset, by rw [e]⟩
    · rw [if_neg e]
      exact ⟨n2, z2, g2, s2, a2, b2, k1, k2, rfl⟩
  · refine ⟨fun p hp => ?_, by simp⟩
    rcases List.mem_append.mp hp with hp | hp
    · exact h p hp
    · rw [List.mem_singleton.mp hp]
      exact ⟨ns, zs, g, s, mg, ms, hs, hset, rfl⟩
end
theorem law_true (ns0 : List Int) (h : ns0.length ≤ 63) : ∃ G, M_law [.d (.list (ns0.map .int))] = .ok (.d (.bool true)) G := by
  refine ⟨[.d (.list (ns0.map .int))], ?_⟩
  have cp1 : CPow 10 18 := by unfold CPow; decide
  have cp2 : CPow 2520 12 := by unfold CPow; decide
  obtain ⟨es, hcut, hel⟩ : ∃ es : List Int, cutD (ns0.map PyData.int) none (some 16) = es.map .int ∧ es.length ≤ 16 := by
    rw [cut_to (by omega), ← List.map_take]
    exact ⟨_, rfl, by rw [List.length_take]; omega⟩
  unfold M_law
  rw [bodyM_eq]
  unfold B_law
  have hd0 : ∀ Γ, dicO Γ = .ok (.o (.k [])) Γ := fun _ => rfl
  simp [cp1, cp2, hcut, hd0, show 1 + es.length < 1000000 by omega]
  generalize (65585296971568246764231148096000000000000 : Int) = c0
  generalize hB : loopF _ _ _ _ = L
  have hB2 : loopF _ _ ((c0 :: es).map PyData.int) _ = L := hB
  obtain ⟨Γ', rfl, kvs, s2, s3, s4, s5, n2, n3, n4, n5, hk, hkl, rfl⟩ := loop_of hB2 (fun i Γ => ∃ (kvs : List (D × T)) (s2 s3 s4 s5 : Sl), notB' s2 = true ∧ notB' s3 = true ∧ notB' s4 = true ∧ notB' s5 = true ∧ Bk kvs ∧ kvs.length ≤ i ∧ Γ = [.d (.list (ns0.map .int)), .o (.k kvs), s2, s3, s4, s5, .un]) (by exact ⟨[], .un, .un, .un, .un, rfl, rfl, rfl, rfl, fun p hp => by simp at hp, by simp, rfl⟩) (by
    rintro i d _ hi ⟨kvs, s2, s3, s4, s5, n2, n3, n4, n5, hk, hkl, rfl⟩
    have hi17 := (List.getElem?_eq_some_iff.mp hi).1
    simp at hi17
    obtain ⟨x, hx, rfl⟩ := List.mem_map.mp (List.mem_of_getElem? hi)
    obtain ⟨dr, hdr, ldr, kdr⟩ := draws_at (c := x) (m := 12) 12 rfl
    obtain ⟨st, zs, g, s, mg, ms, hset, hs, hS⟩ := law_setup_ok ldr kdr
    have e1 := fun Γ => show_setup_ok hs hS (Γ := Γ)
    have e2 := fun Γ => law_text_ok hs (Γ := Γ)
    have e3 := fun Γ => read_setup_ok hs hS (Γ := Γ)
    have m1 := ne_texts (sok_sText hs) (sok_sText hs)
    have m2 := ne_setD (ns := st) (zs := zs) (g := g) (s := s) (mg := mg) (ms := ms)
    have hg := fun Γ => hk.get hs hS (Γ := Γ)
    obtain ⟨hp1, hp2⟩ := hk.put hs hS
    have hfl := hk.flat
    have e4 : ∀ Γ, callM M_is_setup [.d (setD st zs g s mg ms)] Γ = .ok (.d (.bool true)) Γ := fun Γ => callM_d (rs := [.d (setD st zs g s mg ms)]) rfl (by rw [is_setup_eq, hS])
    have hdg : ∀ s5 : Sl, dgetF 1 (dvar 4) (dvar 3) [.d (.list (ns0.map .int)), .o (.k kvs), .d (.int x), .d (setD st zs g s mg ms), .d (.str (sText st zs g s mg ms)), s5, .un] = .ok (.d (setD st zs g s mg ms)) [.d (.list (ns0.map .int)), .o (.k kvs), .d (.int x), .d (setD st zs g s mg ms), .d (.str (sText st zs g s mg ms)), s5, .un] := fun s5 => by
      rw [dgetF_eq (kvs := kvs) rfl hfl]
      simp
      rw [dget3_eq (kvs := kvs) rfl hfl]
      exact hg _
    have hdp : ∀ s5 : Sl, dput2 1 (dvar 4) (.d (setD st zs g s mg ms)) [.d (.list (ns0.map .int)), .o (.k kvs), .d (.int x), .d (setD st zs g s mg ms), .d (.str (sText st zs g s mg ms)), s5, .un] = .ok .nx [.d (.list (ns0.map .int)), .o (.k (putKT kvs (.text (sText st zs g s mg ms)) (.str (sText st zs g s mg ms)) (.d (setD st zs g s mg ms)))), .d (.int x), .d (setD st zs g s mg ms), .d (.str (sText st zs g s mg ms)), s5, .un] := fun s5 => by
      rw [dput2_eq (kvs := kvs) rfl]
      simp
      rw [dput3_eq (kvs := kvs) rfl hfl (by omega)]
      rfl
    have hlen : ∀ l ∈ [st, zs, [g, s], [mg, ms]], l.length ≤ 1000 := fun l hl => by
      have := hs.n2
      have := hs.z3
      simp only [List.mem_cons, List.not_mem_nil, or_false] at hl
      rcases hl with rfl | rfl | rfl | rfl
      · omega
      · omega
      · simp
      · simp
    have hlc : ∀ s0 s1 s2 s3 s4 s5 : Sl, lcLoop (gN 6) yesB (frzF (callF M_law_numbers (argC (dvar 6) argN))) [6] [PyData.tuple (st.map .int), .tuple (zs.map .int), .tuple [.int g, .int s], .tuple [.int mg, .int ms]] [] [s0, s1, s2, s3, s4, s5, .un] = .ok [.bool true, .bool true, .bool true, .bool true] [s0, s1, s2, s3, s4, s5, .un] := fun s0 s1 s2 s3 s4 s5 => by
      have := lc_fn (gf := gN 6) (u := yesB) (f := frzF (callF M_law_numbers (argC (dvar 6) argN))) (vs := [6]) (Γw := [s0, s1, s2, s3, s4, s5, .un]) (xs := [st, zs, [g, s], [mg, ms]]) (acc := []) (φ := fun l => .tuple (l.map .int)) (ψ := fun _ => PyData.bool true) (by simp) (by
        intro l hl
        have e := fun Γ => law_numbers_ok (hlen l hl) (Γ := Γ)
        exact ⟨[s0, s1, s2, s3, s4, s5, .d (.tuple (l.map .int))], [s0, s1, s2, s3, s4, s5, .d (.tuple (l.map .int))], by simp, by simp [yesB], by simp [e], by simp [wipeG], by simp [wipeG]⟩)
      exact this
    have ht : ∀ Γ, isis "tuple" (some (setD st zs g s mg ms)) Γ = .ok (.d (.bool true)) Γ := fun Γ => rfl
    have hit : ∀ Γ, itK (.d (setD st zs g s mg ms)) Γ = .ok [PyData.tuple (st.map .int), .tuple (zs.map .int), .tuple [.int g, .int s], .tuple [.int mg, .int ms]] Γ := fun _ => rfl
    simp [n2, n3, n4, n5, hdr, hset, e1, e2, m1, hdg, m2, hdp, e3, ht, e4, hit, plainAt, wipeG, hlc, restG, show asBs [PyData.bool true, PyData.bool true, PyData.bool true, PyData.bool true] = some [true, true, true, true] from rfl, -exists_and_left]
    exact ⟨_, _, _, _, _, rfl, rfl, rfl, rfl, hp1, by omega, rfl, rfl, rfl, rfl, rfl⟩)
  simp
end My
namespace My
open PySem L2 Ly
theorem all_mk {l : PySem.W.OpenLaw} {w : World} {K : PySem.W.Frag} {h : Heap} {mg : Str → Option Value} {fa f_is_tuple f_is_integer f_is_number f_are_numbers f_are_sizes f_is_pair f_is_setup f_check_setup f_show_numbers f_show_setup f_Reader_has_more f_Reader_end f_Reader_take f_digits f_Reader_take_word f_Reader_is_at f_read_numbers f_Readerq__initq_ f_read_setup f_law_draws f_law_setup f_law_whole f_law_numbers f_law_setup_text f_law : Addr} (X : K.In h) (G : h.Ns mainGlobals mg) (hfa : mg "law" = some (.ref fa))
    {od_is_tuple an_is_tuple : Option Addr} {sl_is_tuple : Array (Option Value)} {oc_is_tuple kV_is_tuple dc_is_tuple pm_is_tuple cd_is_tuple ct_is_tuple : Value}
    {od_is_integer an_is_integer : Option Addr} {sl_is_integer : Array (Option Value)} {oc_is_integer kV_is_integer dc_is_integer pm_is_integer cd_is_integer ct_is_integer : Value}
    {od_is_number an_is_number : Option Addr} {sl_is_number : Array (Option Value)} {oc_is_number kV_is_number dc_is_number pm_is_number cd_is_number ct_is_number : Value}
    {od_are_numbers an_are_numbers : Option Addr} {sl_are_numbers : Array (Option Value)} {oc_are_numbers kV_are_numbers dc_are_numbers pm_are_numbers cd_are_numbers ct_are_numbers : Value}
    {od_are_sizes an_are_sizes : Option Addr} {sl_are_sizes : Array (Option Value)} {oc_are_sizes kV_are_sizes dc_are_sizes pm_are_sizes cd_are_sizes ct_are_sizes : Value}
    {od_is_pair an_is_pair : Option Addr} {sl_is_pair : Array (Option Value)} {oc_is_pair kV_is_pair dc_is_pair pm_is_pair cd_is_pair ct_is_pair : Value}
    {od_is_setup an_is_setup : Option Addr} {sl_is_setup : Array (Option Value)} {oc_is_setup kV_is_setup dc_is_setup pm_is_setup cd_is_setup ct_is_setup : Value}
    {od_check_setup an_check_setup : Option Addr} {sl_check_setup : Array (Option Value)} {oc_check_setup kV_check_setup dc_check_setup pm_check_setup cd_check_setup ct_check_setup : Value}
    {od_show_numbers an_show_numbers : Option Addr} {sl_show_numbers : Array (Option Value)} {oc_show_numbers kV_show_numbers dc_show_numbers pm_show_numbers cd_show_numbers ct_show_numbers : Value}
    {od_show_setup an_show_setup : Option Addr} {sl_show_setup : Array (Option Value)} {oc_show_setup kV_show_setup dc_show_setup pm_show_setup cd_show_setup ct_show_setup : Value}
    {od_Reader_has_more an_Reader_has_more : Option Addr} {sl_Reader_has_more : Array (Option Value)} {oc_Reader_has_more kV_Reader_has_more dc_Reader_has_more pm_Reader_has_more cd_Reader_has_more ct_Reader_has_more : Value}
    {od_Reader_end an_Reader_end : Option Addr} {sl_Reader_end : Array (Option Value)} {oc_Reader_end kV_Reader_end dc_Reader_end pm_Reader_end cd_Reader_end ct_Reader_end : Value}
    {od_Reader_take an_Reader_take : Option Addr} {sl_Reader_take : Array (Option Value)} {oc_Reader_take kV_Reader_take dc_Reader_take pm_Reader_take cd_Reader_take ct_Reader_take : Value}
    {od_digits an_digits : Option Addr} {sl_digits : Array (Option Value)} {oc_digits kV_digits dc_digits pm_digits cd_digits ct_digits : Value}
    {od_Reader_take_word an_Reader_take_word : Option Addr} {sl_Reader_take_word : Array (Option Value)} {oc_Reader_take_word kV_Reader_take_word dc_Reader_take_word pm_Reader_take_word cd_Reader_take_word ct_Reader_take_word : Value}
    {od_Reader_is_at an_Reader_is_at : Option Addr} {sl_Reader_is_at : Array (Option Value)} {oc_Reader_is_at kV_Reader_is_at dc_Reader_is_at pm_Reader_is_at cd_Reader_is_at ct_Reader_is_at : Value}
    {od_read_numbers an_read_numbers : Option Addr} {sl_read_numbers : Array (Option Value)} {oc_read_numbers kV_read_numbers dc_read_numbers pm_read_numbers cd_read_numbers ct_read_numbers : Value}
    {od_Readerq__initq_ an_Readerq__initq_ : Option Addr} {sl_Readerq__initq_ : Array (Option Value)} {oc_Readerq__initq_ kV_Readerq__initq_ dc_Readerq__initq_ pm_Readerq__initq_ cd_Readerq__initq_ ct_Readerq__initq_ : Value}
    {od_read_setup an_read_setup : Option Addr} {sl_read_setup : Array (Option Value)} {oc_read_setup kV_read_setup dc_read_setup pm_read_setup cd_read_setup ct_read_setup : Value}
    {od_law_draws an_law_draws : Option Addr} {sl_law_draws : Array (Option Value)} {oc_law_draws kV_law_draws dc_law_draws pm_law_draws cd_law_draws ct_law_draws : Value}
    {od_law_setup an_law_setup : Option Addr} {sl_law_setup : Array (Option Value)} {oc_law_setup kV_law_setup dc_law_setup pm_law_setup cd_law_setup ct_law_setup : Value}
    {od_law_whole an_law_whole : Option Addr} {sl_law_whole : Array (Option Value)} {oc_law_whole kV_law_whole dc_law_whole pm_law_whole cd_law_whole ct_law_whole : Value}
    {od_law_numbers an_law_numbers : Option Addr} {sl_law_numbers : Array (Option Value)} {oc_law_numbers kV_law_numbers dc_law_numbers pm_law_numbers cd_law_numbers ct_law_numbers : Value}
    {od_law_setup_text an_law_setup_text : Option Addr} {sl_law_setup_text : Array (Option Value)} {oc_law_setup_text kV_law_setup_text dc_law_setup_text pm_law_setup_text cd_law_setup_text ct_law_setup_text : Value}
    {od_law an_law : Option Addr} {sl_law : Array (Option Value)} {oc_law kV_law dc_law pm_law cd_law ct_law : Value}
    {C_Reader : Addr}
    (a_is_tuple : PySem.W.nsIn K mainGlobals "is_tuple" = some (some (.ref f_is_tuple))) (l_is_tuple : K.lookup f_is_tuple = some ⟨oc_is_tuple, od_is_tuple, .func (PySem.W.fnOf "is_tuple" "is_tuple" (defArgs s_is_tuple) (defBody s_is_tuple) (defScope s_is_tuple) .none kV_is_tuple dc_is_tuple pm_is_tuple an_is_tuple cd_is_tuple ct_is_tuple), sl_is_tuple⟩) (c_is_tuple : PySem.W.codeIn K cd_is_tuple "is_tuple" = true) (k_is_tuple : PySem.W.keepIn K (.ref f_is_tuple) = true)
    (a_is_integer : PySem.W.nsIn K mainGlobals "is_integer" = some (some (.ref f_is_integer))) (l_is_integer : K.lookup f_is_integer = some ⟨oc_is_integer, od_is_integer, .func (PySem.W.fnOf "is_integer" "is_integer" (defArgs s_is_integer) (defBody s_is_integer) (defScope s_is_integer) .none kV_is_integer dc_is_integer pm_is_integer an_is_integer cd_is_integer ct_is_integer), sl_is_integer⟩) (c_is_integer : PySem.W.codeIn K cd_is_integer "is_integer" = true) (k_is_integer : PySem.W.keepIn K (.ref f_is_integer) = true)
    (a_is_number : PySem.W.nsIn K mainGlobals "is_number" = some (some (.ref f_is_number))) (l_is_number : K.lookup f_is_number = some ⟨oc_is_number, od_is_number, .func (PySem.W.fnOf "is_number" "is_number" (defArgs s_is_number) (defBody s_is_number) (defScope s_is_number) .none kV_is_number dc_is_number pm_is_number an_is_number cd_is_number ct_is_number), sl_is_number⟩) (c_is_number : PySem.W.codeIn K cd_is_number "is_number" = true) (k_is_number : PySem.W.keepIn K (.ref f_is_number) = true)
    (a_are_numbers : PySem.W.nsIn K mainGlobals "are_numbers" = some (some (.ref f_are_numbers))) (l_are_numbers : K.lookup f_are_numbers = some ⟨oc_are_numbers, od_are_numbers, .func (PySem.W.fnOf "are_numbers" "are_numbers" (defArgs s_are_numbers) (defBody s_are_numbers) (defScope s_are_numbers) .none kV_are_numbers dc_are_numbers pm_are_numbers an_are_numbers cd_are_numbers ct_are_numbers), sl_are_numbers⟩) (c_are_numbers : PySem.W.codeIn K cd_are_numbers "are_numbers" = true) (k_are_numbers : PySem.W.keepIn K (.ref f_are_numbers) = true)
    (a_are_sizes : PySem.W.nsIn K mainGlobals "are_sizes" = some (some (.ref f_are_sizes))) (l_are_sizes : K.lookup f_are_sizes = some ⟨oc_are_sizes, od_are_sizes, .func (PySem.W.fnOf "are_sizes" "are_sizes" (defArgs s_are_sizes) (defBody s_are_sizes) (defScope s_are_sizes) .none kV_are_sizes dc_are_sizes pm_are_sizes an_are_sizes cd_are_sizes ct_are_sizes), sl_are_sizes⟩) (c_are_sizes : PySem.W.codeIn K cd_are_sizes "are_sizes" = true) (k_are_sizes : PySem.W.keepIn K (.ref f_are_sizes) = true)
    (a_is_pair : PySem.W.nsIn K mainGlobals "is_pair" = some (some (.ref f_is_pair))) (l_is_pair : K.lookup f_is_pair = some ⟨oc_is_pair, od_is_pair, .func (PySem.W.fnOf "is_pair" "is_pair" (defArgs s_is_pair) (defBody s_is_pair) (defScope s_is_pair) .none kV_is_pair dc_is_pair pm_is_pair an_is_pair cd_is_pair ct_is_pair), sl_is_pair⟩) (c_is_pair : PySem.W.codeIn K cd_is_pair "is_pair" = true) (k_is_pair : PySem.W.keepIn K (.ref f_is_pair) = true)
    (a_is_setup : PySem.W.nsIn K mainGlobals "is_setup" = some (some (.ref f_is_setup))) (l_is_setup : K.lookup f_is_setup = some ⟨oc_is_setup, od_is_setup, .func (PySem.W.fnOf "is_setup" "is_setup" (defArgs s_is_setup) (defBody s_is_setup) (defScope s_is_setup) .none kV_is_setup dc_is_setup pm_is_setup an_is_setup cd_is_setup ct_is_setup), sl_is_setup⟩) (c_is_setup : PySem.W.codeIn K cd_is_setup "is_setup" = true) (k_is_setup : PySem.W.keepIn K (.ref f_is_setup) = true)
    (a_check_setup : PySem.W.nsIn K mainGlobals "check_setup" = some (some (.ref f_check_setup))) (l_check_setup : K.lookup f_check_setup = some ⟨oc_check_setup, od_check_setup, .func (PySem.W.fnOf "check_setup" "check_setup" (defArgs s_check_setup) (defBody s_check_setup) (defScope s_check_setup) .none kV_check_setup dc_check_setup pm_check_setup an_check_setup cd_check_setup ct_check_setup), sl_check_setup⟩) (c_check_setup : PySem.W.codeIn K cd_check_setup "check_setup" = true) (k_check_setup : PySem.W.keepIn K (.ref f_check_setup) = true)
    (a_show_numbers : PySem.W.nsIn K mainGlobals "show_numbers" = some (some (.ref f_show_numbers))) (l_show_numbers : K.lookup f_show_numbers = some ⟨oc_show_numbers, od_show_numbers, .func (PySem.W.fnOf "show_numbers" "show_numbers" (defArgs s_show_numbers) (defBody s_show_numbers) (defScope s_show_numbers) .none kV_show_numbers dc_show_numbers pm_show_numbers an_show_numbers cd_show_numbers ct_show_numbers), sl_show_numbers⟩) (c_show_numbers : PySem.W.codeIn K cd_show_numbers "show_numbers" = true) (k_show_numbers : PySem.W.keepIn K (.ref f_show_numbers) = true)
    (a_show_setup : PySem.W.nsIn K mainGlobals "show_setup" = some (some (.ref f_show_setup))) (l_show_setup : K.lookup f_show_setup = some ⟨oc_show_setup, od_show_setup, .func (PySem.W.fnOf "show_setup" "show_setup" (defArgs s_show_setup) (defBody s_show_setup) (defScope s_show_setup) .none kV_show_setup dc_show_setup pm_show_setup an_show_setup cd_show_setup ct_show_setup), sl_show_setup⟩) (c_show_setup : PySem.W.codeIn K cd_show_setup "show_setup" = true) (k_show_setup : PySem.W.keepIn K (.ref f_show_setup) = true)
    (a_Reader_has_more : PySem.W.findIn K (.ref C_Reader) "has_more" = some (some (.ref f_Reader_has_more))) (n_Reader_has_more : PySem.W.isFn K (.ref f_Reader_has_more) = true) (l_Reader_has_more : K.lookup f_Reader_has_more = some ⟨oc_Reader_has_more, od_Reader_has_more, .func (PySem.W.fnOf "has_more" "Reader.has_more" (defArgs s_Reader_has_more) (defBody s_Reader_has_more) (defScope s_Reader_has_more) .none kV_Reader_has_more dc_Reader_has_more pm_Reader_has_more an_Reader_has_more cd_Reader_has_more ct_Reader_has_more), sl_Reader_has_more⟩) (c_Reader_has_more : PySem.W.codeIn K cd_Reader_has_more "Reader.has_more" = true) (k_Reader_has_more : PySem.W.keepIn K (.ref f_Reader_has_more) = true)
    (a_Reader_end : PySem.W.findIn K (.ref C_Reader) "end" = some (some (.ref f_Reader_end))) (n_Reader_end : PySem.W.isFn K (.ref f_Reader_end) = true) (l_Reader_end : K.lookup f_Reader_end = some ⟨oc_Reader_end, od_Reader_end, .func (PySem.W.fnOf "end" "Reader.end" (defArgs s_Reader_end) (defBody s_Reader_end) (defScope s_Reader_end) .none kV_Reader_end dc_Reader_end pm_Reader_end an_Reader_end cd_Reader_end ct_Reader_end), sl_Reader_end⟩) (c_Reader_end : PySem.W.codeIn K cd_Reader_end "Reader.end" = true) (k_Reader_end : PySem.W.keepIn K (.ref f_Reader_end) = true)
    (a_Reader_take : PySem.W.findIn K (.ref C_Reader) "take" = some (some (.ref f_Reader_take))) (n_Reader_take : PySem.W.isFn K (.ref f_Reader_take) = true) (l_Reader_take : K.lookup f_Reader_take = some ⟨oc_Reader_take, od_Reader_take, .func (PySem.W.fnOf "take" "Reader.take" (defArgs s_Reader_take) (defBody s_Reader_take) (defScope s_Reader_take) .none kV_Reader_take dc_Reader_take pm_Reader_take an_Reader_take cd_Reader_take ct_Reader_take), sl_Reader_take⟩) (c_Reader_take : PySem.W.codeIn K cd_Reader_take "Reader.take" = true) (k_Reader_take : PySem.W.keepIn K (.ref f_Reader_take) = true)
    (a_digits : PySem.W.nsIn K mainGlobals "digits" = some (some (.ref f_digits))) (l_digits : K.lookup f_digits = some ⟨oc_digits, od_digits, .func (PySem.W.fnOf "digits" "digits" (defArgs s_digits) (defBody s_digits) (defScope s_digits) .none kV_digits dc_digits pm_digits an_digits cd_digits ct_digits), sl_digits⟩) (c_digits : PySem.W.codeIn K cd_digits "digits" = true) (k_digits : PySem.W.keepIn K (.ref f_digits) = true)
    (a_Reader_take_word : PySem.W.findIn K (.ref C_Reader) "take_word" = some (some (.ref f_Reader_take_word))) (n_Reader_take_word : PySem.W.isFn K (.ref f_Reader_take_word) = true) (l_Reader_take_word : K.lookup f_Reader_take_word = some ⟨oc_Reader_take_word, od_Reader_take_word, .func (PySem.W.fnOf "take_word" "Reader.take_word" (defArgs s_Reader_take_word) (defBody s_Reader_take_word) (defScope s_Reader_take_word) .none kV_Reader_take_word dc_Reader_take_word pm_Reader_take_word an_Reader_take_word cd_Reader_take_word ct_Reader_take_word), sl_Reader_take_word⟩) (c_Reader_take_word : PySem.W.codeIn K cd_Reader_take_word "Reader.take_word" = true) (k_Reader_take_word : PySem.W.keepIn K (.ref f_Reader_take_word) = true)
    (a_Reader_is_at : PySem.W.findIn K (.ref C_Reader) "is_at" = some (some (.ref f_Reader_is_at))) (n_Reader_is_at : PySem.W.isFn K (.ref f_Reader_is_at) = true) (l_Reader_is_at : K.lookup f_Reader_is_at = some ⟨oc_Reader_is_at, od_Reader_is_at, .func (PySem.W.fnOf "is_at" "Reader.is_at" (defArgs s_Reader_is_at) (defBody s_Reader_is_at) (defScope s_Reader_is_at) .none kV_Reader_is_at dc_Reader_is_at pm_Reader_is_at an_Reader_is_at cd_Reader_is_at ct_Reader_is_at), sl_Reader_is_at⟩) (c_Reader_is_at : PySem.W.codeIn K cd_Reader_is_at "Reader.is_at" = true) (k_Reader_is_at : PySem.W.keepIn K (.ref f_Reader_is_at) = true)
    (a_read_numbers : PySem.W.nsIn K mainGlobals "read_numbers" = some (some (.ref f_read_numbers))) (l_read_numbers : K.lookup f_read_numbers = some ⟨oc_read_numbers, od_read_numbers, .func (PySem.W.fnOf "read_numbers" "read_numbers" (defArgs s_read_numbers) (defBody s_read_numbers) (defScope s_read_numbers) .none kV_read_numbers dc_read_numbers pm_read_numbers an_read_numbers cd_read_numbers ct_read_numbers), sl_read_numbers⟩) (c_read_numbers : PySem.W.codeIn K cd_read_numbers "read_numbers" = true) (k_read_numbers : PySem.W.keepIn K (.ref f_read_numbers) = true)
    (a_Readerq__initq_ : PySem.W.findIn K (.ref C_Reader) "__init__" = some (some (.ref f_Readerq__initq_))) (n_Readerq__initq_ : PySem.W.isFn K (.ref f_Readerq__initq_) = true) (l_Readerq__initq_ : K.lookup f_Readerq__initq_ = some ⟨oc_Readerq__initq_, od_Readerq__initq_, .func (PySem.W.fnOf "__init__" "Reader.__init__" (defArgs s_Readerq__initq_) (defBody s_Readerq__initq_) (defScope s_Readerq__initq_) .none kV_Readerq__initq_ dc_Readerq__initq_ pm_Readerq__initq_ an_Readerq__initq_ cd_Readerq__initq_ ct_Readerq__initq_), sl_Readerq__initq_⟩) (c_Readerq__initq_ : PySem.W.codeIn K cd_Readerq__initq_ "Reader.__init__" = true) (k_Readerq__initq_ : PySem.W.keepIn K (.ref f_Readerq__initq_) = true)
    (a_read_setup : PySem.W.nsIn K mainGlobals "read_setup" = some (some (.ref f_read_setup))) (l_read_setup : K.lookup f_read_setup = some ⟨oc_read_setup, od_read_setup, .func (PySem.W.fnOf "read_setup" "read_setup" (defArgs s_read_setup) (defBody s_read_setup) (defScope s_read_setup) .none kV_read_setup dc_read_setup pm_read_setup an_read_setup cd_read_setup ct_read_setup), sl_read_setup⟩) (c_read_setup : PySem.W.codeIn K cd_read_setup "read_setup" = true) (k_read_setup : PySem.W.keepIn K (.ref f_read_setup) = true)
    (a_law_draws : PySem.W.nsIn K mainGlobals "_law_draws" = some (some (.ref f_law_draws))) (l_law_draws : K.lookup f_law_draws = some ⟨oc_law_draws, od_law_draws, .func (PySem.W.fnOf "_law_draws" "_law_draws" (defArgs s_law_draws) (defBody s_law_draws) (defScope s_law_draws) .none kV_law_draws dc_law_draws pm_law_draws an_law_draws cd_law_draws ct_law_draws), sl_law_draws⟩) (c_law_draws : PySem.W.codeIn K cd_law_draws "_law_draws" = true) (k_law_draws : PySem.W.keepIn K (.ref f_law_draws) = true)
    (a_law_setup : PySem.W.nsIn K mainGlobals "_law_setup" = some (some (.ref f_law_setup))) (l_law_setup : K.lookup f_law_setup = some ⟨oc_law_setup, od_law_setup, .func (PySem.W.fnOf "_law_setup" "_law_setup" (defArgs s_law_setup) (defBody s_law_setup) (defScope s_law_setup) .none kV_law_setup dc_law_setup pm_law_setup an_law_setup cd_law_setup ct_law_setup), sl_law_setup⟩) (c_law_setup : PySem.W.codeIn K cd_law_setup "_law_setup" = true) (k_law_setup : PySem.W.keepIn K (.ref f_law_setup) = true)
    (a_law_whole : PySem.W.nsIn K mainGlobals "_law_whole" = some (some (.ref f_law_whole))) (l_law_whole : K.lookup f_law_whole = some ⟨oc_law_whole, od_law_whole, .func (PySem.W.fnOf "_law_whole" "_law_whole" (defArgs s_law_whole) (defBody s_law_whole) (defScope s_law_whole) .none kV_law_whole dc_law_whole pm_law_whole an_law_whole cd_law_whole ct_law_whole), sl_law_whole⟩) (c_law_whole : PySem.W.codeIn K cd_law_whole "_law_whole" = true) (k_law_whole : PySem.W.keepIn K (.ref f_law_whole) = true)
    (a_law_numbers : PySem.W.nsIn K mainGlobals "_law_numbers" = some (some (.ref f_law_numbers))) (l_law_numbers : K.lookup f_law_numbers = some ⟨oc_law_numbers, od_law_numbers, .func (PySem.W.fnOf "_law_numbers" "_law_numbers" (defArgs s_law_numbers) (defBody s_law_numbers) (defScope s_law_numbers) .none kV_law_numbers dc_law_numbers pm_law_numbers an_law_numbers cd_law_numbers ct_law_numbers), sl_law_numbers⟩) (c_law_numbers : PySem.W.codeIn K cd_law_numbers "_law_numbers" = true) (k_law_numbers : PySem.W.keepIn K (.ref f_law_numbers) = true)
    (a_law_setup_text : PySem.W.nsIn K mainGlobals "_law_setup_text" = some (some (.ref f_law_setup_text))) (l_law_setup_text : K.lookup f_law_setup_text = some ⟨oc_law_setup_text, od_law_setup_text, .func (PySem.W.fnOf "_law_setup_text" "_law_setup_text" (defArgs s_law_setup_text) (defBody s_law_setup_text) (defScope s_law_setup_text) .none kV_law_setup_text dc_law_setup_text pm_law_setup_text an_law_setup_text cd_law_setup_text ct_law_setup_text), sl_law_setup_text⟩) (c_law_setup_text : PySem.W.codeIn K cd_law_setup_text "_law_setup_text" = true) (k_law_setup_text : PySem.W.keepIn K (.ref f_law_setup_text) = true)
    (a_law : PySem.W.nsIn K mainGlobals "law" = some (some (.ref f_law))) (l_law : K.lookup f_law = some ⟨oc_law, od_law, .func (PySem.W.fnOf "law" "law" (defArgs s_law) (defBody s_law) (defScope s_law) .none kV_law dc_law pm_law an_law cd_law ct_law), sl_law⟩) (c_law : PySem.W.codeIn K cd_law "law" = true) (k_law : PySem.W.keepIn K (.ref f_law) = true)
    (z_all : PySem.W.nsIn K mainGlobals "all" = some none)
    (z_bool : PySem.W.nsIn K mainGlobals "bool" = some none)
    (z_int : PySem.W.nsIn K mainGlobals "int" = some none)
    (z_isinstance : PySem.W.nsIn K mainGlobals "isinstance" = some none)
    (z_len : PySem.W.nsIn K mainGlobals "len" = some none)
    (z_range : PySem.W.nsIn K mainGlobals "range" = some none)
    (z_str : PySem.W.nsIn K mainGlobals "str" = some none)
    (z_tuple : PySem.W.nsIn K mainGlobals "tuple" = some none)
    (z_zip : PySem.W.nsIn K mainGlobals "zip" = some none)
    {C_BadSetup : Addr} (cl_BadSetup : PySem.W.nsIn K mainGlobals "BadSetup" = some (some (.ref C_BadSetup)))
    (cl_Reader : PySem.W.nsIn K mainGlobals "Reader" = some (some (.ref C_Reader)))
    {C_BadText : Addr} (cl_BadText : PySem.W.nsIn K mainGlobals "BadText" = some (some (.ref C_BadText)))
    (yp_Reader : PySem.W.plainGet K C_Reader Str.empty = true) (yh_Reader : PySem.W.hasDictIn K C_Reader = true) (yo_Reader : PySem.W.plainOver K C_Reader = true) (ys_Reader : PySem.W.findIn K (.ref C_Reader) "__setattr__" = some (some (.builtin "object.__setattr__")))
    (ym_Reader : PySem.W.makesIn K C_Reader = true) (yk_Reader : PySem.W.keepIn K (.ref C_Reader) = true)
    (yf_Reader_at : PySem.W.findIn K (.ref C_Reader) "at" = some none)
    (yf_Reader_words : PySem.W.findIn K (.ref C_Reader) "words" = some none)
    (cq_BadSetup : PySem.W.excIn K C_BadSetup [.type "ValueError", .type "Exception", .type "BaseException", .type "object"] "ValueError.__new__" = true) (ck_BadSetup : PySem.W.keepIn K (.ref C_BadSetup) = true) (cb_BadSetup : PySem.W.subIn K (.ref C_BadSetup) (.type "BaseException") = some true) (ct_BadSetup : PySem.W.typeIn K (.ref C_BadSetup) = some (.type "type"))
    (z_super : PySem.W.nsIn K mainGlobals "super" = some none) (tp_super : (l.prog.main.scope.names.lookup ("super" : Str)).isSome = false) (oq_super : PySem.W.nsIn K PySem.cStatics "thirdparty.any" = some none)
    {fI_BadText : Addr} {nm_BadText q_BadText : Str} {N_BadText : Addr} {bs_BadText bm_BadText : List Value} {sn_BadText : List Str} {su_BadText : List Value} {ab_BadText : Bool} {co_BadText : Option Bool} {dd_BadText : Option Addr} {m0_BadText m1_BadText m2_BadText m3_BadText m5_BadText : Option Value}
    (xl_BadText : K.lookup C_BadText = some (excClassObj nm_BadText q_BadText C_BadText N_BadText bs_BadText bm_BadText true sn_BadText su_BadText ab_BadText co_BadText dd_BadText m0_BadText m1_BadText m2_BadText m3_BadText m5_BadText "ValueError.__new__")) (xr_BadText : PySem.HandSPX.refsVE bm_BadText = true)
    (xs_BadText : PySem.W.ks_superIn K C_BadText C_BadText "__init__" = some (some (.builtin "ValueError.__init__"))) (xv_BadText : PySem.W.subIn K (.ref C_BadText) (.type "ValueError") = some true) (xc_BadText : PySem.W.mroIn K C_BadText (.ref C_BadText) = some true)
    (xa_BadText : PySem.W.findIn K (.ref C_BadText) "__setattr__" = some (some (.builtin "object.__setattr__"))) (xn_BadText : PySem.W.findIn K (.ref C_BadText) "place" = some none) (xi_BadText : PySem.W.findIn K (.ref C_BadText) "__init__" = some (some (.ref fI_BadText))) (xt2_BadText : PySem.W.typeIn K (.ref fI_BadText) = some (.type "function")) (xk_BadText : PySem.W.keepIn K (.ref C_BadText) = true) (xe_BadText : PySem.W.subIn K (.ref C_BadText) (.type "BaseException") = some true) (xy_BadText : PySem.W.typeIn K (.ref C_BadText) = some (.type "type"))
    {oI_BadText dI_BadText mI_BadText tI_BadText : Value} {odI_BadText anI_BadText : Option Addr} {cda_BadText cc_BadText : Addr} {slI_BadText : Array (Option Value)} {pp1_BadText pp2_BadText pa_BadText pb_BadText pc_BadText pd_BadText pe_BadText pf_BadText pg_BadText ph_BadText pi_BadText pj_BadText pk_BadText pl_BadText pm_BadText : Pos}
    (xf_BadText : K.lookup fI_BadText = some ⟨oI_BadText, odI_BadText, .func (PySem.W.ksFn "__init__" "BadText.__init__" (PySem.BadX.iA pp1_BadText pp2_BadText) (PySem.BadX.iB "not a text of the form, place " ⟨pa_BadText, pb_BadText, pc_BadText, pd_BadText, pe_BadText, pf_BadText, pg_BadText, ph_BadText, pi_BadText, pj_BadText, pk_BadText, pl_BadText, pm_BadText, pm_BadText⟩) PySem.BadX.iS .none .none dI_BadText mI_BadText anI_BadText (.ref cda_BadText) tI_BadText cc_BadText), slI_BadText⟩) (xd_BadText_c : PySem.W.codeIn K (.ref cda_BadText) "BadText.__init__" = true)
    {cl1_BadText cl2_BadText : Value} {cd1_BadText cd2_BadText : Option Addr} {cs1_BadText cs2_BadText : Array (Option Value)} {vs_BadText : Array Value} {fl_BadText : Str} {tf_BadText : Tok}
    (xg_BadText : K.lookup cda_BadText = some ⟨cl1_BadText, cd1_BadText, .fields vs_BadText, cs1_BadText⟩) (xh_BadText : vs_BadText[2]? = some (.str fl_BadText tf_BadText)) (xm_BadText : ((l.prog.main.file : Str) == fl_BadText) = true) (xo_BadText : K.lookup cc_BadText = some ⟨cl2_BadText, cd2_BadText, .cell (some (.ref C_BadText)), cs2_BadText⟩)
    (xp_BadText : PySem.BadX.PlainCall "not a text of the form, place " ⟨pa_BadText, pb_BadText, pc_BadText, pd_BadText, pe_BadText, pf_BadText, pg_BadText, ph_BadText, pi_BadText, pj_BadText, pk_BadText, pl_BadText, pm_BadText, pm_BadText⟩)
    : ∃ fd : FuncData, (∀ (s : Shared) (v : Value), BindsTo s fd ⟨[v], []⟩ [("script", v)]) ∧ ∀ base : Heap, K.In base → base.Ns mainGlobals mg → FnOk l.prog w K mg base (L2.CX l.prog w) 8 fa fd ["script"] (spM ⟨K, l.prog, w, clOf mg⟩ mg 1 M_law) := by
  have e := hfa.symm.trans (PySem.W.mg_of X G a_law)
  cases e
  have F_is_tuple := fun_mk (st := s_is_tuple) l_is_tuple c_is_tuple k_is_tuple
  have F_is_integer := fun_mk (st := s_is_integer) l_is_integer c_is_integer k_is_integer
  have F_is_number := fun_mk (st := s_is_number) l_is_number c_is_number k_is_number
  have F_are_numbers := fun_mk (st := s_are_numbers) l_are_numbers c_are_numbers k_are_numbers
  have F_are_sizes := fun_mk (st := s_are_sizes) l_are_sizes c_are_sizes k_are_sizes
  have F_is_pair := fun_mk (st := s_is_pair) l_is_pair c_is_pair k_is_pair
  have F_is_setup := fun_mk (st := s_is_setup) l_is_setup c_is_setup k_is_setup
  have F_check_setup := fun_mk (st := s_check_setup) l_check_setup c_check_setup k_check_setup
  have F_show_numbers := fun_mk (st := s_show_numbers) l_show_numbers c_show_numbers k_show_numbers
  have F_show_setup := fun_mk (st := s_show_setup) l_show_setup c_show_setup k_show_setup
  have F_Reader_has_more := fun_mk (st := s_Reader_has_more) l_Reader_has_more c_Reader_has_more k_Reader_has_more
  have F_Reader_end := fun_mk (st := s_Reader_end) l_Reader_end c_Reader_end k_Reader_end
  have F_Reader_take := fun_mk (st := s_Reader_take) l_Reader_take c_Reader_take k_Reader_take
  have F_digits := fun_mk (st := s_digits) l_digits c_digits k_digits
  have F_Reader_take_word := fun_mk (st := s_Reader_take_word) l_Reader_take_word c_Reader_take_word k_Reader_take_word
  have F_Reader_is_at := fun_mk (st := s_Reader_is_at) l_Reader_is_at c_Reader_is_at k_Reader_is_at
  have F_read_numbers := fun_mk (st := s_read_numbers) l_read_numbers c_read_numbers k_read_numbers
  have F_Readerq__initq_ := fun_mk (st := s_Readerq__initq_) l_Readerq__initq_ c_Readerq__initq_ k_Readerq__initq_
  have F_read_setup := fun_mk (st := s_read_setup) l_read_setup c_read_setup k_read_setup
  have F_law_draws := fun_mk (st := s_law_draws) l_law_draws c_law_draws k_law_draws
  have F_law_setup := fun_mk (st := s_law_setup) l_law_setup c_law_setup k_law_setup
  have F_law_whole := fun_mk (st := s_law_whole) l_law_whole c_law_whole k_law_whole
  have F_law_numbers := fun_mk (st := s_law_numbers) l_law_numbers c_law_numbers k_law_numbers
  have F_law_setup_text := fun_mk (st := s_law_setup_text) l_law_setup_text c_law_setup_text k_law_setup_text
  have F_law := fun_mk (st := s_law) l_law c_law k_law
  have b_is_tuple := F_is_tuple.binds (ps := ["thing", "fewest", "most"]) fun _ _ _ _ _ _ us hl => match us, hl with | [_, _, _], _ => rfl
  have b_is_integer := F_is_integer.binds (ps := ["thing"]) fun _ _ _ _ _ _ us hl => match us, hl with | [_], _ => rfl
  have b_is_number := F_is_number.binds (ps := ["thing", "low", "high"]) fun _ _ _ _ _ _ us hl => match us, hl with | [_, _, _], _ => rfl
  have b_are_numbers := F_are_numbers.binds (ps := ["things", "low", "high"]) fun _ _ _ _ _ _ us hl => match us, hl with | [_, _, _], _ => rfl
  have b_are_sizes := F_are_sizes.binds (ps := ["thing"]) fun _ _ _ _ _ _ us hl => match us, hl with | [_], _ => rfl
  have b_is_pair := F_is_pair.binds (ps := ["thing", "fewest_groups", "most_groups", "most_singles"]) fun _ _ _ _ _ _ us hl => match us, hl with | [_, _, _, _], _ => rfl
  have b_is_setup := F_is_setup.binds (ps := ["thing"]) fun _ _ _ _ _ _ us hl => match us, hl with | [_], _ => rfl
  have b_check_setup := F_check_setup.binds (ps := ["thing"]) fun _ _ _ _ _ _ us hl => match us, hl with | [_], _ => rfl
  have b_show_numbers := F_show_numbers.binds (ps := ["numbers"]) fun _ _ _ _ _ _ us hl => match us, hl with | [_], _ => rfl
  have b_show_setup := F_show_setup.binds (ps := ["setup"]) fun _ _ _ _ _ _ us hl => match us, hl with | [_], _ => rfl
  have b_Reader_has_more := F_Reader_has_more.binds (ps := ["self"]) fun _ _ _ _ _ _ us hl => match us, hl with | [_], _ => rfl
  have b_Reader_end := F_Reader_end.binds (ps := ["self"]) fun _ _ _ _ _ _ us hl => match us, hl with | [_], _ => rfl
  have b_Reader_take := F_Reader_take.binds (ps := ["self", "known"]) fun _ _ _ _ _ _ us hl => match us, hl with | [_, _], _ => rfl
  have b_digits := F_digits.binds (ps := ["low", "high"]) fun _ _ _ _ _ _ us hl => match us, hl with | [_, _], _ => rfl
  have b_Reader_take_word := F_Reader_take_word.binds (ps := ["self", "word"]) fun _ _ _ _ _ _ us hl => match us, hl with | [_, _], _ => rfl
  have b_Reader_is_at := F_Reader_is_at.binds (ps := ["self", "word"]) fun _ _ _ _ _ _ us hl => match us, hl with | [_, _], _ => rfl
  have b_read_numbers := F_read_numbers.binds (ps := ["reader", "most", "ascending", "ending"]) fun _ _ _ _ _ _ us hl => match us, hl with | [_, _, _, _], _ => rfl
  have b_Readerq__initq_ := F_Readerq__initq_.binds (ps := ["self", "text"]) fun _ _ _ _ _ _ us hl => match us, hl with | [_, _], _ => rfl
  have b_read_setup := F_read_setup.binds (ps := ["text"]) fun _ _ _ _ _ _ us hl => match us, hl with | [_], _ => rfl
  have b_law_draws := F_law_draws.binds (ps := ["cell", "many"]) fun _ _ _ _ _ _ us hl => match us, hl with | [_, _], _ => rfl
  have b_law_setup := F_law_setup.binds (ps := ["draws"]) fun _ _ _ _ _ _ us hl => match us, hl with | [_], _ => rfl
  have b_law_whole := F_law_whole.binds (ps := ["found"]) fun _ _ _ _ _ _ us hl => match us, hl with | [_], _ => rfl
  have b_law_numbers := F_law_numbers.binds (ps := ["found"]) fun _ _ _ _ _ _ us hl => match us, hl with | [_], _ => rfl
  have b_law_setup_text := F_law_setup_text.binds (ps := ["setup"]) fun _ _ _ _ _ _ us hl => match us, hl with | [_], _ => rfl
  have b_law := F_law.binds (ps := ["script"]) fun _ _ _ _ _ _ us hl => match us, hl with | [_], _ => rfl
  exact ⟨_, fun s v => .of_eq rfl, fun base _ _ => ok_law ⟨F_is_tuple, b_is_tuple, PySem.W.mg_of X G a_is_tuple, F_is_integer, b_is_integer, PySem.W.mg_of X G a_is_integer, F_is_number, b_is_number, PySem.W.mg_of X G a_is_number, F_are_numbers, b_are_numbers, PySem.W.mg_of X G a_are_numbers, F_are_sizes, b_are_sizes, PySem.W.mg_of X G a_are_sizes, F_is_pair, b_is_pair, PySem.W.mg_of X G a_is_pair, F_is_setup, b_is_setup, PySem.W.mg_of X G a_is_setup, F_check_setup, b_check_setup, PySem.W.mg_of X G a_check_setup, F_show_numbers, b_show_numbers, PySem.W.mg_of X G a_show_numbers, F_show_setup, b_show_setup, PySem.W.mg_of X G a_show_setup, F_Reader_has_more, b_Reader_has_more, ⟨PySem.W.mg_of X G cl_Reader, ⟨yp_Reader, yh_Reader, yo_Reader, ys_Reader⟩, ⟨a_Reader_has_more, n_Reader_has_more, k_Reader_has_more⟩⟩, F_Reader_end, b_Reader_end, ⟨PySem.W.mg_of X G cl_Reader, ⟨yp_Reader, yh_Reader, yo_Reader, ys_Reader⟩, ⟨a_Reader_end, n_Reader_end, k_Reader_end⟩⟩, F_Reader_take, b_Reader_take, ⟨PySem.W.mg_of X G cl_Reader, ⟨yp_Reader, yh_Reader, yo_Reader, ys_Reader⟩, ⟨a_Reader_take, n_Reader_take, k_Reader_take⟩⟩, F_digits, b_digits, PySem.W.mg_of X G a_digits, F_Reader_take_word, b_Reader_take_word, ⟨PySem.W.mg_of X G cl_Reader, ⟨yp_Reader, yh_Reader, yo_Reader, ys_Reader⟩, ⟨a_Reader_take_word, n_Reader_take_word, k_Reader_take_word⟩⟩, F_Reader_is_at, b_Reader_is_at, ⟨PySem.W.mg_of X G cl_Reader, ⟨yp_Reader, yh_Reader, yo_Reader, ys_Reader⟩, ⟨a_Reader_is_at, n_Reader_is_at, k_Reader_is_at⟩⟩, F_read_numbers, b_read_numbers, PySem.W.mg_of X G a_read_numbers, F_Readerq__initq_, b_Readerq__initq_, ⟨PySem.W.mg_of X G cl_Reader, ⟨yp_Reader, yh_Reader, yo_Reader, ys_Reader⟩, ⟨a_Readerq__initq_, n_Readerq__initq_, k_Readerq__initq_⟩⟩, F_read_setup, b_read_setup, PySem.W.mg_of X G a_read_setup, F_law_draws, b_law_draws, PySem.W.mg_of X G a_law_draws, F_law_setup, b_law_setup, PySem.W.mg_of X G a_law_setup, F_law_whole, b_law_whole, PySem.W.mg_of X G a_law_whole, F_law_numbers, b_law_numbers, PySem.W.mg_of X G a_law_numbers, F_law_setup_text, b_law_setup_text, PySem.W.mg_of X G a_law_setup_text, F_law, b_law, PySem.W.mg_of X G a_law, PySem.W.mg_none_of X G z_all, PySem.W.mg_none_of X G z_bool, PySem.W.mg_none_of X G z_int, PySem.W.mg_none_of X G z_isinstance, PySem.W.mg_none_of X G z_len, PySem.W.mg_none_of X G z_range, PySem.W.mg_none_of X G z_str, PySem.W.mg_none_of X G z_tuple, PySem.W.mg_none_of X G z_zip, PySem.W.mg_of X G cl_BadSetup, ⟨PySem.W.mg_of X G cl_BadSetup, cq_BadSetup, ck_BadSetup, cb_BadSetup, ct_BadSetup⟩, PySem.W.mg_of X G cl_Reader, PySem.W.mg_of X G cl_BadText, ⟨PySem.W.mg_of X G cl_BadText, PySem.W.mg_none_of X G z_super, tp_super, (by decide +kernel), ⟨_, _, _, _, _, _, _, _, _, _, _, _, _, _, _, xl_BadText, xr_BadText⟩, xs_BadText, oq_super, xv_BadText, xc_BadText, xa_BadText, xn_BadText, xi_BadText, xt2_BadText, xk_BadText, xe_BadText, xy_BadText, ⟨_, _, _, _, _, _, _, _, _, _, _, _, _, _, _, _, _, _, _, _, _, _, xf_BadText, xd_BadText_c, xg_BadText, xh_BadText, xm_BadText, xo_BadText, xp_BadText⟩⟩, ⟨PySem.W.mg_of X G cl_Reader, ⟨ym_Reader, a_Readerq__initq_, n_Readerq__initq_, yk_Reader⟩⟩, ⟨PySem.W.mg_of X G cl_Reader, ⟨yp_Reader, yh_Reader, yo_Reader, ys_Reader⟩, yf_Reader_at⟩, ⟨PySem.W.mg_of X G cl_Reader, ⟨yp_Reader, yh_Reader, yo_Reader, ys_Reader⟩, yf_Reader_words⟩⟩⟩
end My
open PySem PySem.W PyProof.Rows
set_option maxHeartbeats 0 in
theorem PySem.Challenge.cw_fillchairs_k90_setups_written_and_read_holds : PySem.Challenge.rw_fillchairs_k90_setups_written_and_read.Holds := by
  w_on; o_law; k_head; (case hw => w_witness2)
  k_fill
  refine Ly.law_end (l := PySem.Challenge.rw_fillchairs_k90_setups_written_and_read) (n := 63) (k := 8) (x := "script") (M := fun _ _ => My.M_law) rfl (by decide) rfl ⟨rfl, by decide, by decide⟩ (fun w h Y => PySem.W.kIn_of Y) ?F (fun _ _ ns hl => My.law_true ns hl)
  case F =>
    intro w mg fa h KX G hmg
    refine' My.all_mk KX G hmg ?a_is_tuple ?l_is_tuple ?c_is_tuple ?k_is_tuple ?a_is_integer ?l_is_integer ?c_is_integer ?k_is_integer ?a_is_number ?l_is_number ?c_is_number ?k_is_number ?a_are_numbers ?l_are_numbers ?c_are_numbers ?k_are_numbers ?a_are_sizes ?l_are_sizes ?c_are_sizes ?k_are_sizes ?a_is_pair ?l_is_pair ?c_is_pair ?k_is_pair ?a_is_setup ?l_is_setup ?c_is_setup ?k_is_setup ?a_check_setup ?l_check_setup ?c_check_setup ?k_check_setup ?a_show_numbers ?l_show_numbers ?c_show_numbers ?k_show_numbers ?a_show_setup ?l_show_setup ?c_show_setup ?k_show_setup ?a_Reader_has_more ?n_Reader_has_more ?l_Reader_has_more ?c_Reader_has_more ?k_Reader_has_more ?a_Reader_end ?n_Reader_end ?l_Reader_end ?c_Reader_end ?k_Reader_end ?a_Reader_take ?n_Reader_take ?l_Reader_take ?c_Reader_take ?k_Reader_take ?a_digits ?l_digits ?c_digits ?k_digits ?a_Reader_take_word ?n_Reader_take_word ?l_Reader_take_word ?c_Reader_take_word ?k_Reader_take_word ?a_Reader_is_at ?n_Reader_is_at ?l_Reader_is_at ?c_Reader_is_at ?k_Reader_is_at ?a_read_numbers ?l_read_numbers ?c_read_numbers ?k_read_numbers ?a_Readerq__initq_ ?n_Readerq__initq_ ?l_Readerq__initq_ ?c_Readerq__initq_ ?k_Readerq__initq_ ?a_read_setup ?l_read_setup ?c_read_setup ?k_read_setup ?a_law_draws ?l_law_draws ?c_law_draws ?k_law_draws ?a_law_setup ?l_law_setup ?c_law_setup ?k_law_setup ?a_law_whole ?l_law_whole ?c_law_whole ?k_law_whole ?a_law_numbers ?l_law_numbers ?c_law_numbers ?k_law_numbers ?a_law_setup_text ?l_law_setup_text ?c_law_setup_text ?k_law_setup_text ?a_law ?l_law ?c_law ?k_law ?z_all ?z_bool ?z_int ?z_isinstance ?z_len ?z_range ?z_str ?z_tuple ?z_zip ?cl_BadSetup ?cl_Reader ?cl_BadText ?yp_Reader ?yh_Reader ?yo_Reader ?ys_Reader ?ym_Reader ?yk_Reader ?yf_Reader_at ?yf_Reader_words ?cq_BadSetup ?ck_BadSetup ?cb_BadSetup ?ct_BadSetup ?z_super ?tp_super ?oq_super ?xl_BadText ?xr_BadText ?xs_BadText ?xv_BadText ?xc_BadText ?xa_BadText ?xn_BadText ?xi_BadText ?xt2_BadText ?xk_BadText ?xe_BadText ?xy_BadText ?xf_BadText ?xd_BadText_c ?xg_BadText ?xh_BadText ?xm_BadText ?xo_BadText ?xp_BadText
    (case cl_Reader => k_is); (case a_is_tuple => k_is); (case l_is_tuple => k_is); (case c_is_tuple => k_is); (case k_is_tuple => k_is); (case a_is_integer => k_is); (case l_is_integer => k_is); (case c_is_integer => k_is); (case k_is_integer => k_is); (case a_is_number => k_is); (case l_is_number => k_is); (case c_is_number => k_is); (case k_is_number => k_is); (case a_are_numbers => k_is); (case l_are_numbers => k_is); (case c_are_numbers => k_is); (case k_are_numbers => k_is); (case a_are_sizes => k_is); (case l_are_sizes => k_is); (case c_are_sizes => k_is); (case k_are_sizes => k_is); (case a_is_pair => k_is); (case l_is_pair => k_is); (case c_is_pair => k_is); (case k_is_pair => k_is); (case a_is_setup => k_is); (case l_is_setup => k_is); (case c_is_setup => k_is); (case k_is_setup => k_is); (case a_check_setup => k_is); (case l_check_setup => k_is); (case c_check_setup => k_is); (case k_check_setup => k_is); (case a_show_numbers => k_is); (case l_show_numbers => k_is); (case c_show_numbers => k_is); (case k_show_numbers => k_is); (case a_show_setup => k_is); (case l_show_setup => k_is); (case c_show_setup => k_is); (case k_show_setup => k_is); (case a_Reader_has_more => k_is); (case n_Reader_has_more => k_is); (case l_Reader_has_more => k_is); (case c_Reader_has_more => k_is); (case k_Reader_has_more => k_is); (case a_Reader_end => k_is); (case n_Reader_end => k_is); (case l_Reader_end => k_is); (case c_Reader_end => k_is); (case k_Reader_end => k_is); (case a_Reader_take => k_is); (case n_Reader_take => k_is); (case l_Reader_take => k_is); (case c_Reader_take => k_is); (case k_Reader_take => k_is); (case a_digits => k_is); (case l_digits => k_is); (case c_digits => k_is); (case k_digits => k_is); (case a_Reader_take_word => k_is); (case n_Reader_take_word => k_is); (case l_Reader_take_word => k_is); (case c_Reader_take_word => k_is); (case k_Reader_take_word => k_is); (case a_Reader_is_at => k_is); (case n_Reader_is_at => k_is); (case l_Reader_is_at => k_is); (case c_Reader_is_at => k_is); (case k_Reader_is_at => k_is); (case a_read_numbers => k_is); (case l_read_numbers => k_is); (case c_read_numbers => k_is); (case k_read_numbers => k_is); (case a_Readerq__initq_ => k_is); (case n_Readerq__initq_ => k_is); (case l_Readerq__initq_ => k_is); (case c_Readerq__initq_ => k_is); (case k_Readerq__initq_ => k_is); (case a_read_setup => k_is); (case l_read_setup => k_is); (case c_read_setup => k_is); (case k_read_setup => k_is); (case a_law_draws => k_is); (case l_law_draws => k_is); (case c_law_draws => k_is); (case k_law_draws => k_is); (case a_law_setup => k_is); (case l_law_setup => k_is); (case c_law_setup => k_is); (case k_law_setup => k_is); (case a_law_whole => k_is); (case l_law_whole => k_is); (case c_law_whole => k_is); (case k_law_whole => k_is); (case a_law_numbers => k_is); (case l_law_numbers => k_is); (case c_law_numbers => k_is); (case k_law_numbers => k_is); (case a_law_setup_text => k_is); (case l_law_setup_text => k_is); (case c_law_setup_text => k_is); (case k_law_setup_text => k_is); (case a_law => k_is); (case l_law => k_is); (case c_law => k_is); (case k_law => k_is); (case z_all => k_is); (case z_bool => k_is); (case z_int => k_is); (case z_isinstance => k_is); (case z_len => k_is); (case z_range => k_is); (case z_str => k_is); (case z_tuple => k_is); (case z_zip => k_is); (case cl_BadSetup => k_is); (case cl_BadText => k_is); (case yp_Reader => k_is); (case yh_Reader => k_is); (case yo_Reader => k_is); (case ys_Reader => k_is); (case ym_Reader => k_is); (case yk_Reader => k_is); (case yf_Reader_at => k_is); (case yf_Reader_words => k_is); (case cq_BadSetup => k_exc); (case ck_BadSetup => k_is); (case cb_BadSetup => k_is); (case ct_BadSetup => k_is); (case z_super => k_is); (case oq_super => k_is); (case xl_BadText => k_is); (case xr_BadText => decide +kernel); (case xs_BadText => ks_is); (case xv_BadText => k_is); (case xc_BadText => k_is); (case xa_BadText => k_is); (case xn_BadText => k_is); (case xi_BadText => k_is); (case xt2_BadText => k_is); (case xk_BadText => k_is); (case xe_BadText => k_is); (case xy_BadText => k_is); (case xf_BadText => k_is); (case xd_BadText_c => k_is); (case xg_BadText => k_is); (case xh_BadText => rfl); (case xm_BadText => first | rfl | decide | kernel_rfl); (case xo_BadText => k_is); (case xp_BadText => exact fun env => ⟨_, rfl⟩); (case tp_super => first | rfl | decide | kernel_rfl)
